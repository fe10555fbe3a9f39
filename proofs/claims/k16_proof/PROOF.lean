import PyProof.Rows.All
import Wide.All
import OpenK.AllK
import Wide.FinOn
import HandS.ForMost
import HandS.ForExc
import HandS.Wide
import HandS.Zip
import HandS.Defaults
import HandS.TupAny
import HandS.Conv
import HandS.Style
import HandS.FStr
import HandS.Lambda
import HandS.EndTab
import PyProof.Rows.NestShow
import HandS.Gcd
import HandS.SortKw
import HandS.TupMul
import HandS.IsInst
import KE.DataMinMax
import KE.GoesEnum
import HandS.Flt
import HandS.Star
import HandS.ExcInit
import HandS.ExcField
import HandS.TryOnly
import HandS.TryMany
import KE.KExcIs
import HandS.ExcIs
import KE.SortData
import PyProof.EnumMake
import HandS.Iter
import HandS.Remove
import KE.KIndexOf
import HandS.DictComp
import HandS.ListItems
import HandS.SetKeys
import HandS.Deep
import HandS.StrMore
import PyProof.FactsAll.dict
import KE.KEqDict
import HandS.MakeKw
import KE.DataCmp
import HandS.MakeKwOnly
import KE.DataMinKey
import HandS.Comp
import HandS.Strs
import HandS.SetFor
import HandS.More
import PyProof.FactsAll.list_3
import KE.KSortTup
import HandS.List
import KE.DataEq
import PySem.Challenge.RW_nonearer_k16_whole_deeds_and_what_stays
set_option Elab.async false
set_option maxHeartbeats 0
set_option linter.all false
set_option maxRecDepth 100000
set_option exponentiation.threshold 20000
/-! A second layer over HandS: data by value (D), mutable objects as tokens in a store (Mp), readings as predicate transformers over data. -/
namespace L3
open PySem L2
/-! ### data -/
inductive D where
  | non | bl (b : Bool) | int (i : Int) | str (x : Str) | ty (n : String) | tok (a : Addr)
  | tup (ds : List D) | lst (ds : List D)
  /-- an exception at a: its class's name, its dict at dx, its fields -/
  | exc (a : Addr) (x : Str) (dx : Addr) (ns : List Str) (ds : List D)
  /-- a tuple that is known to bear no dict -/
  | tpl (ds : List D)
  /-- a dict that never changes -/
  | dct (ks : List Key) (ds : List D)
mutual
inductive Rep (K : PySem.W.Frag) (H : Hp) : V → D → Prop
  | non : Rep K H .non .non
  | bl (b : Bool) : Rep K H (.bl b) (.bl b)
  | int (i : Int) : Rep K H (.int i) (.int i)
  | str (x : Str) : Rep K H (.str x) (.str x)
  | ty (n : String) : Rep K H (.ty n) (.ty n)
  | tok (a : Addr) : Rep K H (.ref a) (.tok a)
  | tup {a : Addr} {vs : List V} {ds : List D} : SqT K H a vs → RepL K H vs ds → Rep K H (.ref a) (.tup ds)
  | lst {a : Addr} {vs : List V} {ds : List D} : SqL K H a vs → RepL K H vs ds → Rep K H (.ref a) (.lst ds)
  | exc {a dx : Addr} {x : Str} {ns : List Str} {vs : List V} {ds : List D} : H dx = some (.xd (ns.zip vs)) → ns.length = vs.length → RepL K H vs ds → Rep K H (.ref a) (.exc a x dx ns ds)
  | tpl {a : Addr} {o : Obj} {vs : List V} {ds : List D} : H a = some (.frz o (.tup vs)) → o.dict = none → RepL K H vs ds → Rep K H (.ref a) (.tpl ds)
  | dct {a : Addr} {ks : List Key} {vs : List V} {ds : List D} : Rd H a (.dK (ks.zip vs)) → ks.length = vs.length → RepL K H vs ds → Rep K H (.ref a) (.dct ks ds)
inductive RepL (K : PySem.W.Frag) (H : Hp) : List V → List D → Prop
  | nil : RepL K H [] []
  | cons {v : V} {vs : List V} {d : D} {ds : List D} : Rep K H v d → RepL K H vs ds → RepL K H (v :: vs) (d :: ds)
end
theorem rd_mono {H H' : Hp} {a : Addr} {u : HO} (e : Same H H') (h : Rd H a u) : Rd H' a u := by
  rcases h with h | ⟨o, h⟩
  · exact .inl (e _ _ h)
  · exact .inr ⟨o, e _ _ h⟩
theorem sqt_mono {K : PySem.W.Frag} {H H' : Hp} {a : Addr} {xs : List V} (e : Same H H') (h : SqT K H a xs) : SqT K H' a xs := by
  rcases h with (h | ⟨o, h⟩) | h
  · exact .inl (.inl (e _ _ h))
  · exact .inl (.inr ⟨o, e _ _ h⟩)
  · exact .inr h
mutual
theorem Rep.mono {K : PySem.W.Frag} {H H' : Hp} (e : Same H H') : ∀ (d : D) (v : V), Rep K H v d → Rep K H' v d
  | .non, _, h => by cases h; exact .non
  | .bl b, _, h => by cases h; exact .bl b
  | .int i, _, h => by cases h; exact .int i
  | .str x, _, h => by cases h; exact .str x
  | .ty n, _, h => by cases h; exact .ty n
  | .tok a, _, h => by cases h; exact .tok a
  | .tup ds, _, h => by
    cases h with
    | tup hs ha => exact .tup (sqt_mono e hs) (RepL.mono e ds _ ha)
  | .lst ds, _, h => by
    cases h with
    | lst hs ha => exact .lst (e.seq hs) (RepL.mono e ds _ ha)
  | .exc a x dx ns ds, _, h => by
    cases h with
    | exc hx hl ha => exact .exc (e _ _ hx) hl (RepL.mono e ds _ ha)
  | .tpl ds, _, h => by
    cases h with
    | tpl hx hl ha => exact .tpl (e _ _ hx) hl (RepL.mono e ds _ ha)
  | .dct ks ds, _, h => by
    cases h with
    | dct hx hl ha => exact .dct (rd_mono e hx) hl (RepL.mono e ds _ ha)
theorem RepL.mono {K : PySem.W.Frag} {H H' : Hp} (e : Same H H') : ∀ (ds : List D) (vs : List V), RepL K H vs ds → RepL K H' vs ds
  | [], _, h => by cases h; exact .nil
  | d :: ds, _, h => by
    cases h with
    | cons h1 h2 => exact .cons (Rep.mono e d _ h1) (RepL.mono e ds _ h2)
end
theorem Rep.up {K : PySem.W.Frag} {H H' : Hp} {v : V} {d : D} (h : Rep K H v d) (e : Same H H') : Rep K H' v d := Rep.mono e d v h
theorem RepL.up {K : PySem.W.Frag} {H H' : Hp} {v : List V} {d : List D} (h : RepL K H v d) (e : Same H H') : RepL K H' v d := RepL.mono e d v h
theorem RepL.len {K : PySem.W.Frag} {H : Hp} : ∀ {vs : List V} {ds : List D}, RepL K H vs ds → vs.length = ds.length
  | _, _, .nil => rfl
  | _, _, .cons _ r => by rw [List.length_cons, List.length_cons, r.len]
theorem RepL.app {K : PySem.W.Frag} {H : Hp} : ∀ {vs ws : List V} {ds es : List D}, RepL K H vs ds → RepL K H ws es → RepL K H (vs ++ ws) (ds ++ es)
  | _, _, _, _, .nil, s => s
  | _, _, _, _, .cons r t, s => .cons r (RepL.app t s)
theorem RepL.get {K : PySem.W.Frag} {H : Hp} : ∀ {vs : List V} {ds : List D} {i : Nat} {d : D}, RepL K H vs ds → ds[i]? = some d → ∃ v, vs[i]? = some v ∧ Rep K H v d
  | _, _, i, d, .nil, e => by simp at e
  | _, _, 0, d, .cons r t, e => by
    obtain rfl : _ = d := Option.some.inj e
    exact ⟨_, rfl, r⟩
  | _, _, i + 1, d, .cons r t, e => t.get (i := i) e
theorem RepL.set {K : PySem.W.Frag} {H : Hp} {v : V} {d : D} (r : Rep K H v d) : ∀ {vs : List V} {ds : List D} (i : Nat), RepL K H vs ds → RepL K H (vs.set i v) (ds.set i d)
  | _, _, _, .nil => .nil
  | _, _, 0, .cons _ t => .cons r t
  | _, _, i + 1, .cons q t => .cons q (RepL.set r i t)
theorem RepL.take {K : PySem.W.Frag} {H : Hp} : ∀ {vs : List V} {ds : List D} (n : Nat), RepL K H vs ds → RepL K H (vs.take n) (ds.take n)
  | _, _, 0, _ => .nil
  | _, _, n + 1, .nil => .nil
  | _, _, n + 1, .cons r t => .cons r (RepL.take n t)
theorem RepL.drop {K : PySem.W.Frag} {H : Hp} : ∀ {vs : List V} {ds : List D} (n : Nat), RepL K H vs ds → RepL K H (vs.drop n) (ds.drop n)
  | _, _, 0, r => r
  | _, _, n + 1, .nil => .nil
  | _, _, n + 1, .cons _ t => RepL.drop n t
theorem RepL.ints {K : PySem.W.Frag} {H : Hp} : ∀ {vs : List V} {ns : List Int}, RepL K H vs (ns.map D.int) → vs = ns.map V.int
  | _, [], h => by cases h; rfl
  | _, n :: ns, h => by
    cases h with
    | cons r t =>
      cases r
      rw [List.map_cons, RepL.ints t]
theorem RepL.ofInts {K : PySem.W.Frag} {H : Hp} : ∀ (ns : List Int), RepL K H (ns.map V.int) (ns.map D.int)
  | [] => .nil
  | n :: ns => .cons (.int n) (RepL.ofInts ns)
theorem RepL.strs {K : PySem.W.Frag} {H : Hp} : ∀ {vs : List V} {ns : List Str}, RepL K H vs (ns.map D.str) → vs = ns.map V.str
  | _, [], h => by cases h; rfl
  | _, n :: ns, h => by
    cases h with
    | cons r t =>
      cases r
      rw [List.map_cons, RepL.strs t]
theorem RepL.bls {K : PySem.W.Frag} {H : Hp} : ∀ {vs : List V} {ns : List Bool}, RepL K H vs (ns.map D.bl) → vs = ns.map V.bl
  | _, [], h => by cases h; rfl
  | _, n :: ns, h => by
    cases h with
    | cons r t =>
      cases r
      rw [List.map_cons, RepL.bls t]
/-! ### the store of what may change -/
/-- the class that a name of the module holds -/
def ClsAt (K : PySem.W.Frag) (x : Str) (C : Addr) : Prop := PySem.W.nsIn K mainGlobals x = some (some (.ref C))
inductive Cell where
  | aux | drw (a0 : Addr) | lst (ds : List D) | ins (x : Str) (fs : List (Str × D))
  /-- a dict, while a loop walks it with its object -/
  | dic (lk : Option (Obj × List (Key × V))) (kd : List (Key × D))
  /-- the table of the code objects that the def x makes: each bears the name q -/
  | tab (x q : Str)
  /-- a box of draws: three whole numbers -/
  | box
abbrev Mp := Addr → Option Cell
/-- what never changes: neither in the store nor hidden (Z) -/
def fz (Z H : Hp) (M : Mp) : Hp := fun a => match M a, Z a with
  | none, none => H a
  | _, _ => none
def setM (M : Mp) (a : Addr) (c : Cell) : Mp := fun b => if b = a then some c else M b
theorem setM_same {M : Mp} {a : Addr} {c : Cell} : setM M a c a = some c := if_pos rfl
theorem setM_ne {M : Mp} {a b : Addr} {c : Cell} (h : b ≠ a) : setM M a c b = M b := if_neg h
theorem fz_none {Z H : Hp} {M : Mp} {a : Addr} (h : M a = none) (z : Z a = none) : fz Z H M a = H a := by
  unfold fz
  rw [h, z]
theorem fz_some {Z H : Hp} {M : Mp} {a : Addr} {c : Cell} (h : M a = some c) : fz Z H M a = none := by
  unfold fz
  rw [h]
theorem fz_hid {Z H : Hp} {M : Mp} {a : Addr} {o : HO} (h : Z a = some o) : fz Z H M a = none := by
  unfold fz
  rw [h]
  split <;> first | rfl | contradiction
theorem fz_is {Z H : Hp} {M : Mp} {a : Addr} {o : HO} (h : fz Z H M a = some o) : M a = none ∧ Z a = none ∧ H a = some o := by
  cases q : M a with
  | some c =>
    rw [fz_some q] at h
    cases h
  | none =>
    cases q2 : Z a with
    | some u =>
      rw [fz_hid q2] at h
      cases h
    | none =>
      rw [fz_none q q2] at h
      exact ⟨rfl, rfl, h⟩
theorem fz_to {Z H : Hp} {M : Mp} {a : Addr} {o : HO} (h1 : M a = none) (h2 : Z a = none) (h : H a = some o) : fz Z H M a = some o := by
  rw [fz_none h1 h2]
  exact h
theorem fz_sub {Z H : Hp} {M : Mp} : Same (fz Z H M) H := fun _ _ e => (fz_is e).2.2
def RepF (K : PySem.W.Frag) (H : Hp) (fv : List (Str × V)) (fs : List (Str × D)) : Prop := fv.map (·.1) = fs.map (·.1) ∧ RepL K H (fv.map (·.2)) (fs.map (·.2))
/-- a dict's pairs -/
def RepK (K : PySem.W.Frag) (H : Hp) (kv : List (Key × V)) (kd : List (Key × D)) : Prop := kv.map (·.1) = kd.map (·.1) ∧ RepL K H (kv.map (·.2)) (kd.map (·.2))
def LkAt (lk : Option (Obj × List (Key × V))) (kv : List (Key × V)) (u : HO) : Prop := match lk with
  | none => u = .dK kv
  | some q => q.2 = kv ∧ u = .frz q.1 (.dK kv)
/-- the numbers of the draws -/
def DrawOk (H : Hp) (a a0 : Addr) : Prop := ∃ (cs : List Int) (s : Int), H a = some (.lst [.ref a0, .int s]) ∧ H a0 = some (.lst (cs.map V.int)) ∧ 0 ≤ s ∧ s < 4294967296 ∧ cs.length ≤ 100 ∧ ∀ c ∈ cs, 0 ≤ c
/-- the def x's table at a: what it tells are code objects (F: they never change) of the name q -/
def TabOk (K : PySem.W.Frag) (F H : Hp) (a : Addr) (x q : Str) : Prop := (∃ c, PySem.W.tabIn K x = some (c, a)) ∧ ∃ ps : Array Value, H a = some (.tbl ps) ∧ TriplesOk ps.toList ∧
  ∀ (pos : Pos) (cv : Value), codeAmong pos ps.toList = some cv → ∃ c, cv = .ref c ∧ F c = some (LamX.CodeO c q)
theorem TabOk.go {K : PySem.W.Frag} {F F' H H' : Hp} {a : Addr} {x q : Str} (t : TabOk K F H a x q) (e : Same F F') (ha : ∀ o, H a = some o → H' a = some o) : TabOk K F' H' a x q := by
  obtain ⟨h0, ps, h1, h2, h3⟩ := t
  refine ⟨h0, ps, ha _ h1, h2, fun pos cv hc => ?_⟩
  obtain ⟨c, e1, e2⟩ := h3 pos cv hc
  exact ⟨c, e1, e _ _ e2⟩
def BoxOk (H : Hp) (a : Addr) : Prop := ∃ c s t : Int, H a = some (.lst [.int c, .int s, .int t]) ∧ 0 ≤ c ∧ 0 ≤ s ∧ 0 ≤ t
def CellOk (K : PySem.W.Frag) (Z H : Hp) (M : Mp) (a : Addr) : Cell → Prop
  | .lst ds => ∃ vs, H a = some (.lst vs) ∧ RepL K (fz Z H M) vs ds
  | .drw a0 => M a0 = some .aux ∧ DrawOk H a a0
  | .aux => ∃ o, H a = some o
  | .ins x fs => ∃ C dx fv, ClsAt K x C ∧ H a = some (.ins C dx fv) ∧ RepF K (fz Z H M) fv fs
  | .dic lk kd => ∃ kv u, H a = some u ∧ LkAt lk kv u ∧ RepK K (fz Z H M) kv kd
  | .tab x q => TabOk K (fz Z H M) H a x q
  | .box => BoxOk H a
structure Sat (K : PySem.W.Frag) (Z : Hp) (H : Hp) (M : Mp) : Prop where
  cell : ∀ a c, M a = some c → CellOk K Z H M a c
  zed : ∀ a o, Z a = some o → H a = some o ∧ M a = none
theorem Sat.there {K : PySem.W.Frag} {Z : Hp} {H : Hp} {M : Mp} {a : Addr} {c : Cell} (S : Sat K Z H M) (h : M a = some c) : ∃ o, H a = some o := by
  have q := S.cell a c h
  cases c with
  | aux => exact q
  | drw a0 => obtain ⟨_, cs, s, e, _⟩ := q; exact ⟨_, e⟩
  | lst ds => obtain ⟨vs, e, _⟩ := q; exact ⟨_, e⟩
  | ins x fs => obtain ⟨C, dx, fv, _, e, _⟩ := q; exact ⟨_, e⟩
  | dic lk kd => obtain ⟨_, _, e, _⟩ := q; exact ⟨_, e⟩
  | tab x q0 => obtain ⟨_, ps, e, _⟩ := q; exact ⟨_, e⟩
  | box => obtain ⟨_, _, _, e, _⟩ := q; exact ⟨_, e⟩
theorem Sat.free {K : PySem.W.Frag} {Z : Hp} {H : Hp} {M : Mp} {a : Addr} (S : Sat K Z H M) (h : H a = none) : M a = none := by
  cases q : M a with
  | none => rfl
  | some c =>
    obtain ⟨o, e⟩ := S.there q
    rw [h] at e
    cases e
theorem Sat.freeZ {K : PySem.W.Frag} {Z : Hp} {H : Hp} {M : Mp} {a : Addr} (S : Sat K Z H M) (h : H a = none) : Z a = none := by
  cases q : Z a with
  | none => rfl
  | some c =>
    have e := (S.zed a c q).1
    rw [h] at e
    cases e
theorem RepK.up {K : PySem.W.Frag} {H H' : Hp} {v : List (Key × V)} {d : List (Key × D)} (h : RepK K H v d) (e : Same H H') : RepK K H' v d := ⟨h.1, h.2.up e⟩
theorem RepF.up {K : PySem.W.Frag} {H H' : Hp} {v : List (Str × V)} {d : List (Str × D)} (h : RepF K H v d) (e : Same H H') : RepF K H' v d := ⟨h.1, h.2.up e⟩
/-- a step: the heap and the store behind it -/
structure Go (K : PySem.W.Frag) (Z : Hp) (H : Hp) (M : Mp) (H' : Hp) (M' : Mp) : Prop where
  sat : Sat K Z H' M'
  ex : Same (fz Z H M) (fz Z H' M')
theorem Go.refl {K : PySem.W.Frag} {Z : Hp} {H : Hp} {M : Mp} (S : Sat K Z H M) : Go K Z H M H M := ⟨S, Same.refl _⟩
theorem Go.trans {K : PySem.W.Frag} {Z : Hp} {H H1 H2 : Hp} {M M1 M2 : Mp} (a : Go K Z H M H1 M1) (b : Go K Z H1 M1 H2 M2) : Go K Z H M H2 M2 := ⟨b.sat, a.ex.trans b.ex⟩
/-- a cell whose object stands as it stood -/
theorem CellOk.same {K : PySem.W.Frag} {Z Z' : Hp} {H H' : Hp} {M M' : Mp} {a : Addr} {c : Cell} (q : CellOk K Z H M a c) (ex : Same (fz Z H M) (fz Z' H' M')) (ha : ∀ o, H a = some o → H' a = some o)
    (aux : ∀ b, M b = some .aux → M' b = some .aux ∧ ∀ o, H b = some o → H' b = some o) : CellOk K Z' H' M' a c := by
  cases c with
  | aux =>
    obtain ⟨o, e⟩ := q
    exact ⟨o, ha o e⟩
  | drw a0 =>
    obtain ⟨m0, cs, s, e, e0, r⟩ := q
    obtain ⟨m1, k⟩ := aux a0 m0
    exact ⟨m1, cs, s, ha _ e, k _ e0, r⟩
  | lst ds =>
    obtain ⟨vs, e, r⟩ := q
    exact ⟨vs, ha _ e, r.up ex⟩
  | ins x fs =>
    obtain ⟨C, dx, fv, cl, e, r⟩ := q
    exact ⟨C, dx, fv, cl, ha _ e, r.up ex⟩
  | dic lk kd =>
    obtain ⟨kv, u, e, l, r⟩ := q
    exact ⟨kv, u, ha _ e, l, r.up ex⟩
  | tab x q0 => exact TabOk.go q ex ha
  | box =>
    obtain ⟨c, s, t, e, r⟩ := q
    exact ⟨c, s, t, ha _ e, r⟩
/-- a new object that never changes -/
theorem Go.laid {K : PySem.W.Frag} {Z : Hp} {H : Hp} {M : Mp} {p : Addr} {o : HO} (S : Sat K Z H M) (hp : H p = none) : Go K Z H M (upd H p o) M ∧ fz Z (upd H p o) M p = some o := by
  have hm := S.free hp
  have hz := S.freeZ hp
  have up : ∀ b u, H b = some u → upd H p o b = some u := fun b u e => by
    rw [upd_ne (ne_of_none e hp)]
    exact e
  have ex : Same (fz Z H M) (fz Z (upd H p o) M) := fun b u e => fz_to (fz_is e).1 (fz_is e).2.1 (up b u (fz_is e).2.2)
  exact ⟨⟨⟨fun a c h => (S.cell a c h).same ex (up a) fun b e => ⟨e, up b⟩, fun a u h => ⟨up a u (S.zed a u h).1, (S.zed a u h).2⟩⟩, ex⟩, fz_to hm hz upd_same⟩
/-- a list of the store: new, or changed -/
theorem Go.putL {K : PySem.W.Frag} {Z : Hp} {H : Hp} {M : Mp} {p : Addr} {vs : List V} {ds : List D} (S : Sat K Z H M) (hp : (H p = none) ∨ ∃ es, M p = some (.lst es)) (r : RepL K (fz Z H M) vs ds) : Go K Z H M (upd H p (.lst vs)) (setM M p (.lst ds)) := by
  have hz : Z p = none := by
    rcases hp with h | ⟨es, h⟩
    · exact S.freeZ h
    · cases q : Z p with
      | none => rfl
      | some u =>
        have e := (S.zed p u q).2
        rw [h] at e
        cases e
  have hf : ∀ u, fz Z H M p ≠ some u := fun u e => by
    obtain ⟨e1, _, e2⟩ := fz_is e
    rcases hp with h | ⟨es, h⟩
    · rw [h] at e2
      cases e2
    · rw [h] at e1
      cases e1
  have hx : M p ≠ some .aux := fun e => by
    rcases hp with h | ⟨es, h⟩
    · obtain ⟨o, e'⟩ := S.there e
      rw [h] at e'
      cases e'
    · rw [h] at e
      cases e
  have ex : Same (fz Z H M) (fz Z (upd H p (.lst vs)) (setM M p (.lst ds))) := fun b u e => by
    have hb : b ≠ p := fun z => by
      subst z
      exact hf u e
    obtain ⟨e1, e2, e3⟩ := fz_is e
    exact fz_to (by rw [setM_ne hb]; exact e1) e2 (by rw [upd_ne hb]; exact e3)
  have aux : ∀ b, M b = some .aux → setM M p (.lst ds) b = some .aux ∧ ∀ o, H b = some o → upd H p (.lst vs) b = some o := fun b e => by
    have hb : b ≠ p := fun z => by
      subst z
      exact hx e
    exact ⟨by rw [setM_ne hb]; exact e, fun o q => by rw [upd_ne hb]; exact q⟩
  refine ⟨⟨fun a c h => ?_, fun a u h => ?_⟩, ex⟩
  · by_cases ha : a = p
    · subst ha
      rw [setM_same] at h
      cases h
      exact ⟨vs, upd_same, r.up ex⟩
    · rw [setM_ne ha] at h
      exact (S.cell a c h).same ex (fun o q => by rw [upd_ne ha]; exact q) aux
  · have ha : a ≠ p := fun z => by
      subst z
      rw [hz] at h
      cases h
    exact ⟨by rw [upd_ne ha]; exact (S.zed a u h).1, by rw [setM_ne ha]; exact (S.zed a u h).2⟩
/-- any cell: new, or changed -/
theorem Go.put {K : PySem.W.Frag} {Z : Hp} {H : Hp} {M : Mp} {p : Addr} {o : HO} {c : Cell} (S : Sat K Z H M) (hp : (H p = none) ∨ ∃ c0, M p = some c0 ∧ c0 ≠ .aux) (ok : Same (fz Z H M) (fz Z (upd H p o) (setM M p c)) → CellOk K Z (upd H p o) (setM M p c) p c) : Go K Z H M (upd H p o) (setM M p c) := by
  have hz : Z p = none := by
    rcases hp with h | ⟨c0, h, _⟩
    · exact S.freeZ h
    · cases q : Z p with
      | none => rfl
      | some u =>
        have e := (S.zed p u q).2
        rw [h] at e
        cases e
  have hf : ∀ u, fz Z H M p ≠ some u := fun u e => by
    obtain ⟨e1, _, e2⟩ := fz_is e
    rcases hp with h | ⟨c0, h, _⟩
    · rw [h] at e2
      cases e2
    · rw [h] at e1
      cases e1
  have hx : M p ≠ some .aux := fun e => by
    rcases hp with h | ⟨c0, h, n⟩
    · obtain ⟨o, e'⟩ := S.there e
      rw [h] at e'
      cases e'
    · rw [h] at e
      cases e
      exact n rfl
  have ex : Same (fz Z H M) (fz Z (upd H p o) (setM M p c)) := fun b u e => by
    have hb : b ≠ p := fun z => by
      subst z
      exact hf u e
    obtain ⟨e1, e2, e3⟩ := fz_is e
    exact fz_to (by rw [setM_ne hb]; exact e1) e2 (by rw [upd_ne hb]; exact e3)
  have aux : ∀ b, M b = some .aux → setM M p c b = some .aux ∧ ∀ u, H b = some u → upd H p o b = some u := fun b e => by
    have hb : b ≠ p := fun z => by
      subst z
      exact hx e
    exact ⟨by rw [setM_ne hb]; exact e, fun u q => by rw [upd_ne hb]; exact q⟩
  refine ⟨⟨fun a c' h => ?_, fun a u h => ?_⟩, ex⟩
  · by_cases ha : a = p
    · subst ha
      rw [setM_same] at h
      cases h
      exact ok ex
    · rw [setM_ne ha] at h
      exact (S.cell a c' h).same ex (fun u q => by rw [upd_ne ha]; exact q) aux
  · have ha : a ≠ p := fun z => by
      subst z
      rw [hz] at h
      cases h
    exact ⟨by rw [upd_ne ha]; exact (S.zed a u h).1, by rw [setM_ne ha]; exact (S.zed a u h).2⟩
/-- a draw: the two lists of the numbers change -/
theorem Go.drawn {K : PySem.W.Frag} {Z : Hp} {H H' : Hp} {M : Mp} {a a0 : Addr} (S : Sat K Z H M) (hp : M a = some (.drw a0)) (k : ∀ b o, b ≠ a → b ≠ a0 → H b = some o → H' b = some o) (q : DrawOk H' a a0) : Go K Z H M H' M := by
  obtain ⟨m0, _⟩ := S.cell a _ hp
  have ex : Same (fz Z H M) (fz Z H' M) := fun b u e => by
    obtain ⟨e1, e2, e3⟩ := fz_is e
    have h1 : b ≠ a := fun z => by
      subst z
      rw [hp] at e1
      cases e1
    have h2 : b ≠ a0 := fun z => by
      subst z
      rw [m0] at e1
      cases e1
    exact fz_to e1 e2 (k b _ h1 h2 e3)
  refine ⟨⟨fun b c h => ?_, fun b u h => ?_⟩, ex⟩
  · by_cases h1 : b = a
    · subst h1
      rw [hp] at h
      cases h
      exact ⟨m0, q⟩
    · by_cases h2 : b = a0
      · subst h2
        rw [m0] at h
        cases h
        obtain ⟨cs', s', _, e0', _⟩ := q
        exact ⟨_, e0'⟩
      · cases c with
        | drw b0 =>
          obtain ⟨n0, cs, s, e, e0, r⟩ := S.cell b _ h
          refine ⟨n0, ?_⟩
          by_cases h3 : b0 = a0
          · subst h3
            obtain ⟨cs', s', _, e0', _, _, l', g'⟩ := q
            exact ⟨cs', s, k b _ h1 h2 e, e0', r.1, r.2.1, l', g'⟩
          · have h4 : b0 ≠ a := fun z => by
              subst z
              rw [hp] at n0
              cases n0
            exact ⟨cs, s, k b _ h1 h2 e, k b0 _ h4 h3 e0, r⟩
        | lst ds =>
          obtain ⟨vs, e, r⟩ := S.cell b _ h
          exact ⟨vs, k b _ h1 h2 e, r.up ex⟩
        | aux =>
          obtain ⟨o, e⟩ := S.cell b _ h
          exact ⟨o, k b _ h1 h2 e⟩
        | ins x fs =>
          obtain ⟨C, dx, fv, cl, e, r⟩ := S.cell b _ h
          exact ⟨C, dx, fv, cl, k b _ h1 h2 e, r.up ex⟩
        | dic lk kd =>
          obtain ⟨kv, u, e, l, r⟩ := S.cell b _ h
          exact ⟨kv, u, k b _ h1 h2 e, l, r.up ex⟩
        | tab x q0 => exact TabOk.go (S.cell b _ h) ex (fun o e => k b o h1 h2 e)
        | box =>
          obtain ⟨c, s, t, e, r⟩ := S.cell b _ h
          exact ⟨c, s, t, k b _ h1 h2 e, r⟩
  · obtain ⟨e1, e2⟩ := S.zed b u h
    have h1 : b ≠ a := fun z => by
      subst z
      rw [hp] at e2
      cases e2
    have h2 : b ≠ a0 := fun z => by
      subst z
      rw [m0] at e2
      cases e2
    exact ⟨k b _ h1 h2 e1, e2⟩
/-- an object is hidden while something else runs; it is another one then, or is shown again -/
theorem Sat.swap {K : PySem.W.Frag} {Z Z' : Hp} {H H' : Hp} {M : Mp} {p : Addr} (S : Sat K Z H M) (hm : M p = none) (hf : fz Z H M p = none) (hH : ∀ b, b ≠ p → H' b = H b) (hZ : ∀ b, b ≠ p → Z' b = Z b) (hq : ∀ o, Z' p = some o → H' p = some o) : Sat K Z' H' M ∧ Same (fz Z H M) (fz Z' H' M) := by
  have ex : Same (fz Z H M) (fz Z' H' M) := fun b v e => by
    have hb : b ≠ p := fun z => by
      subst z
      rw [hf] at e
      cases e
    obtain ⟨e1, e2, e3⟩ := fz_is e
    exact fz_to e1 (by rw [hZ b hb]; exact e2) (by rw [hH b hb]; exact e3)
  have ne : ∀ {b : Addr} {c : Cell}, M b = some c → b ≠ p := fun {b c} e z => by
    subst z
    rw [hm] at e
    cases e
  refine ⟨⟨fun a c h => (S.cell a c h).same ex (fun o q => by rw [hH a (ne h)]; exact q) fun b e => ⟨e, fun o q => by rw [hH b (ne e)]; exact q⟩, fun a v h => ?_⟩, ex⟩
  by_cases ha : a = p
  · subst ha
    exact ⟨hq v h, hm⟩
  · rw [hZ a ha] at h
    exact ⟨by rw [hH a ha]; exact (S.zed a v h).1, (S.zed a v h).2⟩
/-! ### readings over data -/
abbrev En := List (Option D)
abbrev KD := D → Mp → Prop
abbrev WE := En → Mp → KD → Prop
abbrev WT := En → Mp → (Bool → Mp → Prop) → Prop
abbrev WA := En → Mp → (List D → Mp → Prop) → Prop
/-- what is wished of what is raised: its class, its dict, its fields' names and values, the environment -/
abbrev XV := List Str × List D
abbrev XR := Str → Addr → XV → En → Mp → Prop
abbrev XF := Str → XV → Mp → Prop
/-- .. behind a def -/
def lx (R : XF) : XR := fun x _ fs _ M => R x fs M
abbrev WX3 := Value → Option Addr → L2.St → Hp → Prop
structure Ends3 where
  nx : En → Mp → Prop
  rt : KD
  bk : En → Mp → Prop := fun _ _ => False
  ct : En → Mp → Prop := fun _ _ => False
  xr : XR := fun _ _ _ _ _ => False
abbrev WS := Ends3 → En → Mp → Prop
/-- the slots hold what the environment says -/
def RelS (K : PySem.W.Frag) (Hf : Hp) (σ : L2.St) (ρ : En) : Prop := σ.length = ρ.length ∧ ∀ (i : Nat) (d : D), ρ[i]? = some (some d) → ∃ v, σ[i]? = some (some v) ∧ Rep K Hf v d
theorem RelS.up {K : PySem.W.Frag} {H H' : Hp} {σ : L2.St} {ρ : En} (h : RelS K H σ ρ) (e : Same H H') : RelS K H' σ ρ := ⟨h.1, fun i d q => by
  obtain ⟨v, a, b⟩ := h.2 i d q
  exact ⟨v, a, b.up e⟩⟩
theorem RelS.set {K : PySem.W.Frag} {H : Hp} {σ : L2.St} {ρ : En} {v : V} {d : D} (h : RelS K H σ ρ) (j : Nat) (r : Rep K H v d) : RelS K H (σ.set j (some v)) (ρ.set j (some d)) := by
  refine ⟨by rw [List.length_set, List.length_set]; exact h.1, fun i e q => ?_⟩
  by_cases hij : i = j
  · subst hij
    have hl : i < ρ.length := by
      rcases Nat.lt_or_ge i ρ.length with z | z
      · exact z
      · rw [List.getElem?_eq_none (by rw [List.length_set]; exact z)] at q
        cases q
    rw [List.getElem?_set_self hl] at q
    cases q
    exact ⟨v, List.getElem?_set_self (by rw [h.1]; exact hl), r⟩
  · rw [List.getElem?_set_ne (Ne.symm hij)] at q
    obtain ⟨u, a, b⟩ := h.2 i e q
    exact ⟨u, by rw [List.getElem?_set_ne (Ne.symm hij)]; exact a, b⟩
structure R3 (K : PySem.W.Frag) (Z : Hp) (ρ : En) (M : Mp) (σ : L2.St) (H : Hp) : Prop where
  sat : Sat K Z H M
  env : RelS K (fz Z H M) σ ρ
theorem R3.go {K : PySem.W.Frag} {Z : Hp} {ρ : En} {M M' : Mp} {σ : L2.St} {H H' : Hp} (r : R3 K Z ρ M σ H) (g : Go K Z H M H' M') : R3 K Z ρ M' σ H' := ⟨g.sat, r.env.up g.ex⟩
theorem R3.refl {K : PySem.W.Frag} {Z : Hp} {ρ : En} {M : Mp} {σ : L2.St} {H : Hp} (r : R3 K Z ρ M σ H) : Go K Z H M H M := Go.refl r.sat
def SimE (K : PySem.W.Frag) (t : TE) (w : WE) : Prop := ∀ (Z : Hp) (ρ : En) (M : Mp) (σ : L2.St) (H : Hp) (Q : KD) (Q' : VK), R3 K Z ρ M σ H → w ρ M Q → (∀ v d H' M', Go K Z H M H' M' → Rep K (fz Z H' M') v d → Q d M' → Q' v H') → t σ H Q'
def SimT (K : PySem.W.Frag) (t : TT) (w : WT) : Prop := ∀ (Z : Hp) (ρ : En) (M : Mp) (σ : L2.St) (H : Hp) (Q : Bool → Mp → Prop) (Q' : Bool → Hp → Prop), R3 K Z ρ M σ H → w ρ M Q → (∀ b H' M', Go K Z H M H' M' → Q b M' → Q' b H') → t σ H Q'
def SimA (K : PySem.W.Frag) (t : TA) (w : WA) : Prop := ∀ (Z : Hp) (ρ : En) (M : Mp) (σ : L2.St) (H : Hp) (Q : List D → Mp → Prop) (Q' : List V → Hp → Prop), R3 K Z ρ M σ H → w ρ M Q → (∀ v d H' M', Go K Z H M H' M' → RepL K (fz Z H' M') v d → Q d M' → Q' v H') → t σ H Q'
structure EndsRel (K : PySem.W.Frag) (Z : Hp) (E : WX3) (H : Hp) (M : Mp) (D3 : Ends3) (D : Ends) : Prop where
  nx : ∀ ρ' M' σ' H', R3 K Z ρ' M' σ' H' → Go K Z H M H' M' → D3.nx ρ' M' → D.nx σ' H'
  rt : ∀ v d H' M', Go K Z H M H' M' → Rep K (fz Z H' M') v d → D3.rt d M' → D.rt v H'
  bk : ∀ ρ' M' σ' H', R3 K Z ρ' M' σ' H' → Go K Z H M H' M' → D3.bk ρ' M' → D.bk σ' H'
  ct : ∀ ρ' M' σ' H', R3 K Z ρ' M' σ' H' → Go K Z H M H' M' → D3.ct ρ' M' → D.ct σ' H'
  xr : ∀ x C dx vs (fs : XV) ρ' σ' H' M', ClsAt K x C → R3 K Z ρ' M' σ' H' → Go K Z H M H' M' → fz Z H' M' dx = some (.xd (fs.1.zip vs)) → fs.1.length = vs.length → RepL K (fz Z H' M') vs fs.2 → D3.xr x dx fs ρ' M' → E (.ref C) (some dx) σ' H'
theorem EndsRel.go {K : PySem.W.Frag} {Z : Hp} {E : WX3} {H H' : Hp} {M M' : Mp} {D3 : Ends3} {D : Ends} (r : EndsRel K Z E H M D3 D) (g : Go K Z H M H' M') : EndsRel K Z E H' M' D3 D :=
  ⟨fun ρ N σ J a b c => r.nx ρ N σ J a (g.trans b) c, fun v d J N a b c => r.rt v d J N (g.trans a) b c, fun ρ N σ J a b c => r.bk ρ N σ J a (g.trans b) c, fun ρ N σ J a b c => r.ct ρ N σ J a (g.trans b) c,
    fun x C dx vs fs ρ σ J N k q a b l c z => r.xr x C dx vs fs ρ σ J N k q (g.trans a) b l c z⟩
def SimS (K : PySem.W.Frag) (E : WX3) (t : TS) (w : WS) : Prop := ∀ (Z : Hp) (D3 : Ends3) (ρ : En) (M : Mp) (σ : L2.St) (H : Hp) (D : Ends), R3 K Z ρ M σ H → w D3 ρ M → EndsRel K Z E H M D3 D → t D σ H
structure DE (X : Cx) (e : Expr) (t : TE) (w : WE) : Prop where
  pe : PE X e t
  sm : SimE X.K t w
structure DT (X : Cx) (e : Expr) (t : TT) (w : WT) : Prop where
  pe : PT X e t
  sm : SimT X.K t w
structure DW (X : Cx) (e : Expr) (t : TT) (w : WT) : Prop where
  pe : PW X e t
  sm : SimT X.K t w
structure DA (X : Cx) (e : List Expr) (t : TA) (w : WA) : Prop where
  pe : PA X e t
  sm : SimA X.K t w
structure DS (X : Cx) (E : WX3) (st : Stmt) (t : TS) (w : WS) : Prop where
  pe : PS X st t
  sm : SimS X.K E t w
structure DSs (X : Cx) (E : WX3) (st : List Stmt) (t : TS) (w : WS) : Prop where
  pe : PSs X st t
  sm : SimS X.K E t w
end L3
namespace L3
open PySem L2
open PyProof.Rows (envOfC)
/-! ### defs, called where nothing is being shown -/
structure FnG (P : Program) (w : World) (K : PySem.W.Frag) (mg : Str → Option Value) (base : Heap) (k : Nat) (f : Addr) (fd : FuncData) (ps : List Str) (sp : Sp) : Prop where
  len : ∀ vs H Q E, sp vs H Q E → vs.length = ps.length
  run : ∀ (A : Around) (outer : List Env) (s : Shared) (H : Hp) (args : Args) (us : List Value) (vs : List V) (Q : VK) (E : XK), A.guards = some [] → Room k A → Env0 P w K mg base A outer s H → BindsTo s fd args (ps.zip us) → Vals vs us → sp vs H Q E →
    codeAny (model P w) A (.call (.ref f) args) (CR (L2.CX P w) outer P w H s Q E) s
theorem FnG.mono {P : Program} {w : World} {K : PySem.W.Frag} {mg : Str → Option Value} {base : Heap} {j k : Nat} {f : Addr} {fd : FuncData} {ps : List Str} {sp : Sp} (F : FnG P w K mg base j f fd ps sp) (h : j ≤ k) : FnG P w K mg base k f fd ps sp :=
  ⟨F.len, fun A o s H ar us vs Q E g hr => F.run A o s H ar us vs Q E g (hr.mono h)⟩
section
variable {P : Program} {w : World} {K : PySem.W.Frag} {mg : Str → Option Value} {base : Heap}
theorem fn_g {x qual : Str} {st : Stmt} {f : Addr} {fd : FuncData} {N ps : List Str} {k : Nat} {sp : Sp} (F : Fun K x qual st f fd) (S : FnScope N ps (defScope st)) (len : ∀ vs H Q E, sp vs H Q E → vs.length = ps.length)
    (body : ∀ (cdv : Value) (A : Around) (outer : List Env) (s : Shared) (H : Hp) (vs : List V) (Q : VK) (E : XK), A.guards = some [] → Room k (A.deeper (envOfC qual (defScope st) s.heap.objs.size f cdv)) → sp vs H Q E →
      ∃ t, PSs (cxOf (L2.CX P w) P w K mg base N qual (defScope st) f cdv A outer s H E) (defBody st) t ∧ t { nx := fun _ J => Q .non J, rt := Q } (L2.start N vs) H) : FnG P w K mg base (k + 1) f fd ps sp := by
  obtain ⟨oc, od, kV, doc, pm, an, cdv, ct, osl, rfl, lk, hcd⟩ := F.ex
  refine ⟨len, fun A outer s H args us vs Q E gd hr e0 hb r hs => ?_⟩
  have hlen := len _ _ _ _ hs
  have kin : K.In s.heap := e0.mod.kin.keeps fun b o e => (e0.bs b o e).1
  have nol : s.heap.NoLimit := e0.mod.nolimit.keeps fun b o e => (e0.bs b o e).1
  have kinds : ∀ y ∈ ps.zip us, (defScope st).names.lookup y.1 = some .local ∨ ((defScope st).names.lookup y.1 = some .cell ∧ ((cellsFrom (s.heap.objs.size + 1) (defScope st).names []).lookup y.1).isSome = true) := fun ⟨n, v⟩ hy => by
    rcases S.par n (List.of_mem_zip hy).1 with z | z
    · exact .inl z
    · exact .inr ⟨z, PySem.W.cellsFrom_some _ _ _ (.inl z)⟩
  refine codeAny_call_function hr.depth (kin _ _ lk) rfl S.co S.gen rfl (PySem.W.codeRec_of kin hcd) (hb _ _ _ _ ?_)
  refine wpAny_newFunctionEnv_cells S.kind kinds fun env he s1 c => ?_
  subst he
  refine ⟨nol.keeps c.toInCall.keep, codeAny_func ?_⟩
  obtain ⟨t, ht, hq⟩ := body cdv A outer s H vs Q E gd (hr.deeper _) hs
  have I : Inv (cxOf (L2.CX P w) P w K mg base N qual (defScope st) f cdv A outer s H E) [] (L2.start N vs) H s1 := inv_start S hr.hd e0 hlen r c
  refine wpAny_mono (ht.run [] s1 (L2.start N vs) H _ I hq) (fun fl s' hz => ?_) fun e s' hz => hz
  have fin : ∀ {σ' : L2.St} {H' : Hp} {v : V} {u : Value}, Inv (cxOf (L2.CX P w) P w K mg base N qual (defScope st) f cdv A outer s H E) [] σ' H' s' → RelV v u → Q v H' → CE outer P w H s Q u s' :=
    fun {σ' H' v u} J rv z => ⟨v, H', J.os, J.bare, J.base, J.hok, rv, z⟩
  cases fl with
  | ret u =>
    obtain ⟨v, σ', H', J, rv, z⟩ := hz
    exact fin J rv z
  | next =>
    obtain ⟨σ', H', J, z⟩ := hz
    exact fin (v := V.non) (u := Value.none) J rfl z
  | brk => exact (hz.elim fun _ h => h.elim fun _ h => h.2).elim
  | cont => exact (hz.elim fun _ h => h.elim fun _ h => h.2).elim
end
section
variable {X : Cx} {k : Nat} {f C : Addr} {fd : FuncData} {ps : List Str} {sp : Sp} {dvs : List V} {ds : List Value} {E : XK} {x m : Str} {p pos apos : Pos} {e o : Expr} {es : List Expr} {ta : TE} {t : TA}
theorem run_g {pins : List (Addr × Obj)} {σ : L2.St} {H : Hp} {s : Shared} {Q : VK} {us ws : List Value} {vs : List V} {kw : List (Str × Value)} (F : FnG X.prog X.w X.K X.mg X.base k f fd ps sp) (hr : Room k X.A) (gd : X.A.guards = some []) (hx : Passes (L2.CX X.prog X.w) X E)
    (I : Inv X pins σ H s) (hb : BindsTo s fd ⟨us, kw⟩ (ps.zip ws)) (r : Vals vs ws) (h : sp vs H Q E) : wpAny (model X.prog X.w) X.A (call (.ref f) us kw) (EP X pins σ Q) X.xe s := by
  refine wpAny_call (codeAny_mono (F.run X.A X.stack s H ⟨us, kw⟩ ws vs Q E gd hr I.env0 hb r h) fun rr s' hq => ?_)
  cases rr with
  | error er => exact hx pins σ H s er s' I hq
  | ok fl =>
    cases fl with
    | ret u => exact I.after hq
    | next => exact hq.elim
    | brk => exact hq.elim
    | cont => exact hq.elim
def tCallG (sp : Sp) (dvs : List V) (E : XK) (t : TA) : TE := fun σ H Q => t σ H fun vs J => sp (vs ++ dvs) J Q E
theorem pe_callG (F : FnG X.prog X.w X.K X.mg X.base k f fd ps sp) (hr : Room k X.A) (gd : X.A.guards = some []) (hg : Gl X x) (hm : X.mg x = some (.ref f)) (hk : PySem.W.keepIn X.K (.ref f) = true) (hb : Binds X.K fd ps ds) (hd : Vals dvs ds) (hx : Passes (L2.CX X.prog X.w) X E)
    (ha : PA X (e :: es) t) (hdb : (x == ("__debug__" : Str)) = false := by decide) (he : starEach (e :: es) X.env = (false, eval e X.env) :: starEach es X.env := by rfl) (hpl : (backTo pos (starEach es X.env)).any (·.1) = false := by rfl) :
    PE X (.Call (.Name x p) (e :: es) [] pos) (tCallG sp dvs E t) := by
  constructor
  intro pins s σ H Q I h
  refine wpAny_Call_Name_kw (ld_glob I hg hm ?_ hdb)
  refine PySem.W.callWith_K (h₀ := X.base) I.ok.mod.kin hk (thn (ha.run pos pins s σ H _ I h) fun us s1 ⟨vs, J, I1, r, q⟩ => ⟨I1.kIn, ?_⟩) he hpl
  have r2 : Vals (vs ++ dvs) (us ++ ds) := r.append hd
  have hl : (us ++ ds).length = ps.length := by rw [← r2.length]; exact F.len _ _ _ _ q
  exact run_g (us := us) (kw := []) F hr gd hx I1 (hb s1 us I1.kIn hl) r2 q
/-- the parameters' values, each by its place among what is written: first the positional ones, then the keywords' -/
def perm (idx : List Nat) (vs zs : List V) : List V := idx.map fun i => (vs ++ zs).getD i .non
def permU (idx : List Nat) (vs zs : List Value) : List Value := idx.map fun i => (vs ++ zs).getD i .none
theorem perm_rel (idx : List Nat) {vs zs : List V} {us ws : List Value} (r : Vals vs us) (q : Vals zs ws) : Vals (perm idx vs zs) (permU idx us ws) := by
  have ra := r.append q
  unfold perm permU
  induction idx with
  | nil => exact .nil
  | cons i is ih =>
    refine .cons ?_ ih
    show RelV ((vs ++ zs).getD i .non) ((us ++ ws).getD i .none)
    rw [List.getD_eq_getElem?_getD, List.getD_eq_getElem?_getD]
    cases e : (vs ++ zs)[i]? with
    | none =>
      rw [ra.none_of e]
      rfl
    | some v =>
      obtain ⟨u, h1, h2⟩ := ra.get e
      rw [h1]
      exact h2
/-- how a call with keywords binds -/
def KB (K : PySem.W.Frag) (fd : FuncData) (ps : List Str) (n : Nat) (ks : List Str) (idx : List Nat) : Prop := ∀ (s : Shared) (us ws : List Value), K.In s.heap → us.length = n → ws.length = ks.length → BindsTo s fd ⟨us, ks.zip ws⟩ (ps.zip (permU idx us ws))
def tCallGK (n m : Nat) (idx : List Nat) (sp : Sp) (E : XK) (t tk : TA) : TE := fun σ H Q => t σ H fun vs J => tk σ J fun zs J2 => vs.length = n ∧ zs.length = m ∧ sp (perm idx vs zs) J2 Q E
theorem pe_callGK0 {ks : List Str} {kws : List Keyword} {tk : TA} {idx : List Nat} (F : FnG X.prog X.w X.K X.mg X.base k f fd ps sp) (hr : Room k X.A) (gd : X.A.guards = some []) (hg : Gl X x) (hm : X.mg x = some (.ref f))
    (hk : PySem.W.keepIn X.K (.ref f) = true) (hb : KB X.K fd ps 0 ks idx) (hx : Passes (L2.CX X.prog X.w) X E)
    (hkw : PK X kws tk) (hall : (backToKw pos (keywordEach kws X.env)).all (·.1.isSome) = true := by rfl) (hks : (backToKw pos (keywordEach kws X.env)).filterMap (·.1) = ks := by rfl)
    (hdb : (x == ("__debug__" : Str)) = false := by decide)
    (hpl : ((backTo pos (starEach [] X.env)).any (·.1) || (backToKw pos (keywordEach kws X.env)).any (·.1.isNone)) = false := by rfl) :
    PE X (.Call (.Name x p) [] kws pos) (tCallGK 0 ks.length idx sp E tNil tk) := by
  constructor
  intro pins s σ H Q I h
  refine wpAny_Call_Name_kw (ld_glob I hg hm ?_ hdb)
  refine PySem.W.callWith_KW0 (h₀ := X.base) I.ok.mod.kin hk hall ?_ hpl
  refine thn (hkw.run pos pins s σ H _ I h) fun ws s2 ⟨zs, H2, I2, rz, l1, l2, q2⟩ => ⟨I2.kIn, ?_⟩
  rw [hks]
  have a2 : ws.length = ks.length := by rw [← rz.length]; exact l2
  exact run_g (us := []) F hr gd hx I2 (hb s2 [] ws I2.kIn rfl a2) (perm_rel idx .nil rz) q2
end
/-! ### contracts over data -/
abbrev Fs := List D → Mp → KD → XF → Prop
def lift (K : PySem.W.Frag) (F : Fs) : Sp := fun vs H Q E => ∃ (Z : Hp) (ds : List D) (M : Mp) (Qd : KD) (Rd : XF), Sat K Z H M ∧ RepL K (fz Z H M) vs ds ∧ F ds M Qd Rd ∧
  (∀ v d H' M', Go K Z H M H' M' → Rep K (fz Z H' M') v d → Qd d M' → Q v H') ∧ (∀ x C dx vs (fs : XV) H' M', ClsAt K x C → Go K Z H M H' M' → fz Z H' M' dx = some (.xd (fs.1.zip vs)) → fs.1.length = vs.length → RepL K (fz Z H' M') vs fs.2 → Rd x fs M' → E (.ref C) (some dx) H')
/-- the environment at a def's entry -/
def startE (n : Nat) (ds : List D) : En := ds.map some ++ List.replicate (n - ds.length) none
theorem start_rel {K : PySem.W.Frag} {H : Hp} {N : List Str} {vs : List V} {ds : List D} (r : RepL K H vs ds) : RelS K H (L2.start N vs) (startE N.length ds) := by
  unfold L2.start startE
  refine ⟨?_, fun i d e => ?_⟩
  · rw [List.length_append, List.length_append, List.length_map, List.length_map, List.length_replicate, List.length_replicate, r.len]
  · have hl := r.len
    by_cases hi : i < ds.length
    · rw [List.getElem?_append_left (by rw [List.length_map]; exact hi), List.getElem?_map] at e
      cases q : ds[i]? with
      | none =>
        rw [q] at e
        cases e
      | some d' =>
        rw [q] at e
        obtain rfl : d' = d := Option.some.inj (Option.some.inj e)
        obtain ⟨v, h1, h2⟩ := r.get q
        refine ⟨v, ?_, h2⟩
        rw [List.getElem?_append_left (by rw [List.length_map, hl]; exact hi), List.getElem?_map, h1]
        rfl
    · rw [List.getElem?_append_right (by rw [List.length_map]; omega), List.getElem?_replicate] at e
      split at e <;> cases e
def lw (E : XK) : WX3 := fun cls d _ H => E cls d H
section
variable {P : Program} {w : World} {K : PySem.W.Frag} {mg : Str → Option Value} {base : Heap}
theorem ok_fn {x qual : Str} {st : Stmt} {f : Addr} {fd : FuncData} {N ps : List Str} {k : Nat} {F : Fs} (Fn : Fun K x qual st f fd) (S : FnScope N ps (defScope st)) (len : ∀ ds M Q E, F ds M Q E → ds.length = ps.length)
    (body : ∀ (cdv : Value) (A : Around) (outer : List Env) (s : Shared) (H : Hp) (E : XK), A.guards = some [] → Room k (A.deeper (envOfC qual (defScope st) s.heap.objs.size f cdv)) →
      ∃ t wr, DSs (cxOf (L2.CX P w) P w K mg base N qual (defScope st) f cdv A outer s H E) (lw E) (defBody st) t wr ∧ ∀ ds M Q R, F ds M Q R → wr { nx := fun _ M' => Q .non M', rt := Q, xr := lx R } (startE N.length ds) M) : FnG P w K mg base (k + 1) f fd ps (lift K F) := by
  refine fn_g Fn S (fun vs H Q E h => ?_) (fun cdv A outer s H vs Q E gd hr h => ?_)
  · obtain ⟨Z, ds, M, Qd, Rd, _, r, q, _⟩ := h
    rw [r.len]
    exact len _ _ _ _ q
  · obtain ⟨Z, ds, M, Qd, Rd, sat, r, q, kq, kr⟩ := h
    obtain ⟨t, wr, hd, hw⟩ := body cdv A outer s H E gd hr
    refine ⟨t, hd.pe, hd.sm _ _ _ _ _ _ _ ⟨sat, start_rel r⟩ (hw ds M _ _ q) ⟨fun ρ' M' σ' H' _ g z => kq _ _ _ _ g .non z, fun v d H' M' g rp z => kq v d H' M' g rp z, fun _ _ _ _ _ _ z => z.elim, fun _ _ _ _ _ _ z => z.elim, fun x C dx vs fs ρ' σ' H' M' ca _ g e1 l rf z => kr x C dx vs fs H' M' ca g e1 l rf z⟩⟩
end
end L3
namespace L3
open PySem L2
/-! ### what can be shown, dicts too: only a dict must not be the table of modules -/
mutual
inductive RdD (h : Heap) : Value → PyData → Prop
  | non : RdD h .none .none
  | bl (b : Bool) : RdD h (.bool b) (.bool b)
  | int (i : Int) (t : Tok) : RdD h (.int i t) (.int i)
  | str (x : Str) (t : Tok) : RdD h (.str x t) (.str x)
  | lst {a : Addr} {o : Obj} {vs : Array Value} {n : Nat} {ds : List PyData} (g : h.get? a = some o) (c : o.cls = .type "list") (e : o.data = .seq vs n) (r : RdDs h vs.toList ds) : RdD h (.ref a) (.list ds)
  | tup {a : Addr} {o : Obj} {vs : Array Value} {n : Nat} {ds : List PyData} (g : h.get? a = some o) (c : o.cls = .type "tuple") (e : o.data = .seq vs n) (r : RdDs h vs.toList ds) : RdD h (.ref a) (.tuple ds)
  | dct {a : Addr} {o : Obj} {es : Array DictEntry} {n : Nat} {ps : List (PyData × PyData)} (g : h.get? a = some o) (c : o.cls = .type "dict") (e : o.data = .dict es n) (m : (a == sysModules) = false)
      (rk : RdDs h (es.toList.map (·.key)) (ps.map (·.1))) (rv : RdDs h (es.toList.map (·.val)) (ps.map (·.2))) : RdD h (.ref a) (.dict ps)
inductive RdDs (h : Heap) : List Value → List PyData → Prop
  | nil : RdDs h [] []
  | cons {v : Value} {vs : List Value} {d : PyData} {ds : List PyData} (r : RdD h v d) (rs : RdDs h vs ds) : RdDs h (v :: vs) (d :: ds)
end
mutual
theorem RdD.reads {h : Heap} : ∀ {v : Value} {d : PyData}, RdD h v d → ∃ as, Reads h v d as
  | _, _, .non => ⟨_, .none⟩
  | _, _, .bl b => ⟨_, .bool b⟩
  | _, _, .int i t => ⟨_, .int i t⟩
  | _, _, .str x t => ⟨_, .str x t⟩
  | _, _, .lst g c e r => let ⟨_, q⟩ := r.reads; ⟨_, .list g c e q⟩
  | _, _, .tup g c e r => let ⟨_, q⟩ := r.reads; ⟨_, .tuple g c e q⟩
  | _, _, .dct g c e _ rk rv => let ⟨_, q⟩ := rk.reads; let ⟨_, q2⟩ := rv.reads; ⟨_, .dict g c e q q2⟩
theorem RdDs.reads {h : Heap} : ∀ {v : List Value} {d : List PyData}, RdDs h v d → ∃ as, ReadsAll h v d as
  | _, _, .nil => ⟨_, .nil⟩
  | _, _, .cons r rs => let ⟨_, q⟩ := r.reads; let ⟨_, q2⟩ := rs.reads; ⟨_, .cons q q2⟩
end
theorem kv_keys_le (ps : List (PyData × PyData)) {t : Str} (hz : (dictText (PyData.shownKv ps)).length ≤ sizeLine) (ht : t ∈ PyData.shownAll (ps.map (·.1))) : t.length ≤ sizeLine := by
  obtain ⟨p, hp, hl⟩ := PyData.shownKv_key_le ps t ht
  have := dictText_mem_le hp
  omega
theorem kv_vals_le (ps : List (PyData × PyData)) {t : Str} (hz : (dictText (PyData.shownKv ps)).length ≤ sizeLine) (ht : t ∈ PyData.shownAll (ps.map (·.2))) : t.length ≤ sizeLine := by
  obtain ⟨p, hp, hl⟩ := PyData.shownKv_val_le ps t ht
  have := dictText_mem_le hp
  omega
section
variable {prog : Program} {w : World} {h : Heap}
mutual
theorem RdD.rep : ∀ {v : Value} {d : PyData}, RdD h v d → d.showable = true → d.shown.length ≤ sizeLine → ∃ bs, ReadAtMost h d.depth bs ∧ ReprK prog w bs h d.depth v d.shown
  | _, _, .non, _, _ => ⟨[], (fun _ z => nomatch z), by simp only [PyData.shown]; exact .of_is ReprIs.none _ _ _⟩
  | _, _, .bl b, _, _ => ⟨[], (fun _ z => nomatch z), by simp only [PyData.shown]; exact .of_is (ReprIs.bool b) _ _ _⟩
  | _, _, .int i t, s, _ => ⟨[], (fun _ z => nomatch z), by simp only [PyData.shown]; exact .of_is (ReprIs.int t (by simpa [PyData.showable] using s)) _ _ _⟩
  | _, _, .str x t, _, z => ⟨[], (fun _ z => nomatch z), by simp only [PyData.shown]; exact .of_is (ReprIs.str x t (by simpa only [PyData.shown] using z)) _ _ _⟩
  | _, _, .lst (a := a) (vs := vs) (ds := ds) g c e r, s, z => by
    have z' : (listText (PyData.shownAll ds)).length ≤ sizeLine := by simpa only [PyData.shown] using z
    obtain ⟨bs, hb, hk⟩ := r.rep (by simpa [PyData.showable] using s) fun t ht => Nat.le_trans (listText_mem_le ht) z'
    obtain ⟨as, ra⟩ := r.reads
    have rr : Reads h (.ref a) (.list ds) _ := .list g c e ra
    have na : a ∉ bs := not_mem_of_deeper rr (by simp only [PyData.depth]; omega) hb
    refine ⟨a :: bs, ReadAtMost.cons rr (by simp only [PyData.depth]; omega) hb, ?_⟩
    simp only [PyData.depth, PyData.shown]
    obtain ⟨l⟩ := vs
    match l, r, hk with
    | [], r, _ =>
      cases r
      simp only [PyData.shownAll, listText_nil]
      exact ReprK.listEmpty g c e
    | x :: l, _, hk => exact ReprK.list g c e na (by simpa using hk.length_eq) fun i y q => hk.item i y (by simpa using q)
  | _, _, .tup (a := a) (ds := ds) g c e r, s, z => by
    have z' : (tupleText (PyData.shownAll ds)).length ≤ sizeLine := by simpa only [PyData.shown] using z
    obtain ⟨bs, hb, hk⟩ := r.rep (by simpa [PyData.showable] using s) fun t ht => Nat.le_trans (tupleText_mem_le ht) z'
    obtain ⟨as, ra⟩ := r.reads
    have rr : Reads h (.ref a) (.tuple ds) _ := .tuple g c e ra
    have na : a ∉ bs := not_mem_of_deeper rr (by simp only [PyData.depth]; omega) hb
    refine ⟨a :: bs, ReadAtMost.cons rr (by simp only [PyData.depth]; omega) hb, ?_⟩
    simp only [PyData.depth, PyData.shown]
    exact ReprK.tuple g c e na hk
  | _, _, .dct (a := a) (es := es) (ps := ps) g c e m rk rv, s, z => by
    have z' : (dictText (PyData.shownKv ps)).length ≤ sizeLine := by simpa only [PyData.shown] using z
    obtain ⟨s1, s2⟩ := PyData.showableKv_split ps (by simpa [PyData.showable] using s)
    obtain ⟨b1, hb1, k1⟩ := rk.rep s1 fun t ht => kv_keys_le ps z' ht
    obtain ⟨b2, hb2, k2⟩ := rv.rep s2 fun t ht => kv_vals_le ps z' ht
    obtain ⟨as, ra⟩ := rk.reads
    obtain ⟨as2, ra2⟩ := rv.reads
    have rr : Reads h (.ref a) (.dict ps) _ := .dict g c e ra ra2
    have hb : ReadAtMost h (PyData.depthKv ps) (b1 ++ b2) := (hb1.mono (PyData.depthAll_keys_le ps)).append (hb2.mono (PyData.depthAll_vals_le ps))
    have na : a ∉ b1 ++ b2 := not_mem_of_deeper rr (by simp only [PyData.depth]; omega) hb
    refine ⟨a :: (b1 ++ b2), ReadAtMost.cons rr (by simp only [PyData.depth]; omega) hb, ?_⟩
    simp only [PyData.depth, PyData.shown, PyData.shownKv_eq]
    exact ReprK.dict g c e m na (ReprEntriesK.of_two es.toList _ _ (k1.more_le (fun b q => List.mem_append_left _ q) (PyData.depthAll_keys_le ps)) (k2.more_le (fun b q => List.mem_append_right _ q) (PyData.depthAll_vals_le ps)))
theorem RdDs.rep : ∀ {v : List Value} {d : List PyData}, RdDs h v d → PyData.showableAll d = true → (∀ t ∈ PyData.shownAll d, t.length ≤ sizeLine) → ∃ bs, ReadAtMost h (PyData.depthAll d) bs ∧ ReprAllK prog w bs h (PyData.depthAll d) v (PyData.shownAll d)
  | _, _, .nil, _, _ => ⟨[], (fun _ z => nomatch z), by simp only [PyData.shownAll]; exact .nil⟩
  | _, _, .cons (d := d) (ds := ds) r rs, s, z => by
    have s' : d.showable = true ∧ PyData.showableAll ds = true := by simpa [PyData.showableAll] using s
    obtain ⟨b1, hb1, k1⟩ := r.rep s'.1 (z _ (by simp only [PyData.shownAll]; exact List.mem_cons_self))
    obtain ⟨b2, hb2, k2⟩ := rs.rep s'.2 fun t ht => z t (by simp only [PyData.shownAll]; exact List.mem_cons_of_mem _ ht)
    refine ⟨b1 ++ b2, (hb1.mono ?_).append (hb2.mono ?_), ?_⟩
    · simp only [PyData.depthAll]
      exact Nat.le_max_left _ _
    · simp only [PyData.depthAll]
      exact Nat.le_max_right _ _
    · simp only [PyData.depthAll, PyData.shownAll]
      exact .cons ((k1.more fun b q => List.mem_append_left _ q).level_le (Nat.le_max_left _ _)) (k2.more_le (fun b q => List.mem_append_right _ q) (Nat.le_max_right _ _))
end
theorem RdD.shows {a : Addr} : ∀ {d : PyData}, RdD h (.ref a) d → d.showable = true → d.shown.length ≤ sizeLine → ∃ T idr, ShowsBy prog w h a d T idr
  | _, .lst (vs := vs) (ds := ds) g c e r, sh, z => by
    have z' : (listText (PyData.shownAll ds)).length ≤ sizeLine := by simpa only [PyData.shown] using z
    obtain ⟨bs, hb, hk⟩ := r.rep (prog := prog) (w := w) (by simpa [PyData.showable] using sh) fun t ht => Nat.le_trans (listText_mem_le ht) z'
    obtain ⟨as, ra⟩ := r.reads
    have na : a ∉ bs := not_mem_of_deeper (.list g c e ra) (by simp only [PyData.depth]; omega) hb
    refine ⟨"list", "list.__repr__", F.slot_list_repr.toG, F.slot_list_str, F.slot_list_format, fun s k => ⟨_, k _ _ g, c⟩, fun A E s Q hg hu k hQ => ?_⟩
    simp only [PyData.depth] at hu
    simp only [PyData.shown] at hQ
    obtain ⟨l⟩ := vs
    match l, r, hk with
    | [], r, _ =>
      cases r
      simp only [PyData.shownAll, listText_nil] at hQ
      exact call_list_repr_empty ⟨_, k _ _ g, c⟩ (k _ _ g) e (hQ s.heap _ _ fun _ _ q => q)
    | x :: l, _, hk => exact call_list_reprK g c e na (by simpa using hk.length_eq) (fun i y q => hk.item i y (by simpa using q)) hg (fun b _ => Clear.nil b) hu k hQ z'
  | _, .tup (ds := ds) g c e r, sh, z => by
    have z' : (tupleText (PyData.shownAll ds)).length ≤ sizeLine := by simpa only [PyData.shown] using z
    obtain ⟨bs, hb, hk⟩ := r.rep (prog := prog) (w := w) (by simpa [PyData.showable] using sh) fun t ht => Nat.le_trans (tupleText_mem_le ht) z'
    obtain ⟨as, ra⟩ := r.reads
    have na : a ∉ bs := not_mem_of_deeper (.tuple g c e ra) (by simp only [PyData.depth]; omega) hb
    refine ⟨"tuple", "tuple.__repr__", F.slot_tuple_repr, F.slot_tuple_str, F.slot_tuple_format, fun s k => ⟨_, k _ _ g, c⟩, fun A E s Q hg hu k hQ => ?_⟩
    simp only [PyData.depth] at hu
    simp only [PyData.shown] at hQ
    exact call_tuple_reprK g c e na hk hg (fun b _ => Clear.nil b) hu k hQ z'
  | _, .dct (es := es) (ps := ps) g c e m rk rv, sh, z => by
    have z' : (dictText (PyData.shownKv ps)).length ≤ sizeLine := by simpa only [PyData.shown] using z
    obtain ⟨s1, s2⟩ := PyData.showableKv_split ps (by simpa [PyData.showable] using sh)
    obtain ⟨b1, hb1, k1⟩ := rk.rep (prog := prog) (w := w) s1 fun t ht => kv_keys_le ps z' ht
    obtain ⟨b2, hb2, k2⟩ := rv.rep (prog := prog) (w := w) s2 fun t ht => kv_vals_le ps z' ht
    obtain ⟨as, ra⟩ := rk.reads
    obtain ⟨as2, ra2⟩ := rv.reads
    have hb : ReadAtMost h (PyData.depthKv ps) (b1 ++ b2) := (hb1.mono (PyData.depthAll_keys_le ps)).append (hb2.mono (PyData.depthAll_vals_le ps))
    have na : a ∉ b1 ++ b2 := not_mem_of_deeper (.dict g c e ra ra2) (by simp only [PyData.depth]; omega) hb
    refine ⟨"dict", "dict.__repr__", F.slot_dict_repr, F.slot_dict_str, F.slot_dict_format, fun s k => ⟨_, k _ _ g, c⟩, fun A E s Q hg hu k hQ => ?_⟩
    simp only [PyData.depth] at hu
    simp only [PyData.shown, PyData.shownKv_eq] at hQ
    exact call_dict_reprK g c e m na (ReprEntriesK.of_two es.toList _ _ (k1.more_le (fun b q => List.mem_append_left _ q) (PyData.depthAll_keys_le ps)) (k2.more_le (fun b q => List.mem_append_right _ q) (PyData.depthAll_vals_le ps))) hg (fun b _ => Clear.nil b) hu k hQ (by rw [← PyData.shownKv_eq]; exact z')
theorem RdD.repr_call {a : Addr} {d : PyData} {A : Around} {E : Value → Shared → Prop} {s : Shared} {Q : Value → Shared → Prop} (r : RdD h (.ref a) d) (hs : d.showable = true) (hg : A.guards = some []) (hu : A.units + (d.depth + 1) < cLine) (k : ∀ b o, h.get? b = some o → s.heap.get? b = some o)
    (hQ : ∀ h' u tk, (∀ b o, s.heap.get? b = some o → h'.get? b = some o) → Q (.str d.shown u) { s with heap := h', toks := tk }) (z : d.shown.length ≤ sizeLine) : wpAny (model prog w) A (call (.builtin "repr") [.ref a]) Q E s := by
  obtain ⟨T, idr, S⟩ := r.shows (prog := prog) (w := w) hs z
  exact call_repr_slot (by omega) (S.typeIs s k) S.slotRepr (S.call A.in1 E s _ hg (by show A.units + 1 + d.depth < cLine; omega) k fun h' u tk q => ⟨_, _, rfl, hQ h' u tk q⟩)
end
end L3
namespace L3
open PySem L2
/-! ### data read in full -/
/-- a list of the store, read as a value -/
def res (M : Mp) : D → D
  | .tok a => match M a with
    | some (.lst ds) => .lst ds
    | some (.dic _ kd) => .dct (kd.map (·.1)) (kd.map (·.2))
    | _ => .tok a
  | d => d
theorem zip_fs {α β : Type} : ∀ l : List (α × β), (l.map (·.1)).zip (l.map (·.2)) = l
  | [] => rfl
  | p :: l => by rw [List.map_cons, List.map_cons, List.zip_cons_cons, zip_fs l]
theorem res_rep {K : PySem.W.Frag} {Z : Hp} {H : Hp} {M : Mp} {v : V} : ∀ {d : D}, Sat K Z H M → Rep K (fz Z H M) v d → Rep K H v (res M d)
  | .non, _, r => r.up fz_sub
  | .bl _, _, r => r.up fz_sub
  | .int _, _, r => r.up fz_sub
  | .str _, _, r => r.up fz_sub
  | .ty _, _, r => r.up fz_sub
  | .tup _, _, r => r.up fz_sub
  | .lst _, _, r => r.up fz_sub
  | .exc _ _ _ _ _, _, r => r.up fz_sub
  | .tpl _, _, r => r.up fz_sub
  | .dct _ _, _, r => r.up fz_sub
  | .tok a, S, r => by
    cases r
    show Rep K H (.ref a) (match M a with | some (.lst ds) => .lst ds | some (.dic _ kd) => .dct (kd.map (·.1)) (kd.map (·.2)) | _ => .tok a)
    cases q : M a with
    | none => exact .tok a
    | some c =>
      cases c with
      | lst ds =>
        obtain ⟨vs, e, rl⟩ := S.cell a _ q
        exact .lst (.inl (.inl e)) (rl.up fz_sub)
      | aux => exact .tok a
      | drw _ => exact .tok a
      | tab _ _ => exact .tok a
      | box => exact .tok a
      | ins _ _ => exact .tok a
      | dic lk kd =>
        obtain ⟨kv, u, e, l, e1, e2⟩ := S.cell a _ q
        refine .dct (vs := kv.map (·.2)) ?_ (by rw [← e1, List.length_map, List.length_map]) (e2.up fz_sub)
        rw [← e1, zip_fs]
        cases lk with
        | none =>
          cases l
          exact .inl e
        | some o =>
          rw [l.2] at e
          exact .inr ⟨_, e⟩
/-- the items of a list, a tuple -/
def seqD (M : Mp) : D → Option (List D)
  | .tup ds => some ds
  | .lst ds => some ds
  | .tpl ds => some ds
  | .tok a => match M a with
    | some (.lst ds) => some ds
    | _ => none
  | _ => none
theorem seq_of {K : PySem.W.Frag} {Z : Hp} {H : Hp} {M : Mp} {v : V} : ∀ {d : D} {ds : List D}, Sat K Z H M → Rep K (fz Z H M) v d → seqD M d = some ds → ∃ a vs, v = .ref a ∧ (SqL K H a vs ∨ SqT K H a vs) ∧ RepL K (fz Z H M) vs ds
  | .non, _, _, _, e => by cases e
  | .bl _, _, _, _, e => by cases e
  | .int _, _, _, _, e => by cases e
  | .str _, _, _, _, e => by cases e
  | .ty _, _, _, _, e => by cases e
  | .exc _ _ _ _ _, _, _, _, e => by cases e
  | .tpl es, ds, S, r, e => by
    obtain rfl : es = ds := Option.some.inj e
    cases r with
    | tpl hs hd ha => exact ⟨_, _, rfl, .inr (.inl (.inr ⟨_, fz_sub _ _ hs⟩)), ha⟩
  | .dct _ _, _, _, _, e => by cases e
  | .tup es, ds, S, r, e => by
    obtain rfl : es = ds := Option.some.inj e
    cases r with
    | tup hs ha => exact ⟨_, _, rfl, .inr (sqt_mono fz_sub hs), ha⟩
  | .lst es, ds, S, r, e => by
    obtain rfl : es = ds := Option.some.inj e
    cases r with
    | lst hs ha => exact ⟨_, _, rfl, .inl (fz_sub.seq hs), ha⟩
  | .tok a, ds, S, r, e => by
    cases r
    have e' : (match M a with | some (.lst ds) => some ds | _ => none) = some ds := e
    cases q : M a with
    | none =>
      rw [q] at e'
      cases e'
    | some c =>
      rw [q] at e'
      cases c with
      | lst es =>
        obtain rfl : es = ds := Option.some.inj e'
        obtain ⟨vs, e1, rl⟩ := S.cell a _ q
        exact ⟨_, _, rfl, .inl (.inl (.inl e1)), rl⟩
      | aux => cases e'
      | drw _ => cases e'
      | tab _ _ => cases e'
      | box => cases e'
      | ins _ _ => cases e'
      | dic _ _ => cases e'
/-! ### plain data: equality, texts -/
def keyPy : Key → PyData
  | .inl i => .int i
  | .inr x => .str x
mutual
def D.py : D → PyData
  | .non => .none
  | .bl b => .bool b
  | .int i => .int i
  | .str x => .str x
  | .ty _ => .none
  | .tok _ => .none
  | .exc _ _ _ _ _ => .none
  | .tpl _ => .none
  | .dct ks ds => .dict ((ks.map keyPy).zip (pyL ds))
  | .tup ds => .tuple (pyL ds)
  | .lst ds => .list (pyL ds)
def pyL : List D → List PyData
  | [] => []
  | d :: ds => d.py :: pyL ds
end
/-- data without objects, so deep at most -/
def fit : Nat → D → Prop
  | _, .non => True
  | _, .bl _ => True
  | _, .int _ => True
  | _, .str x => PySem.PyData.strOk x = true
  | _, .ty _ => False
  | _, .tok _ => False
  | _, .exc _ _ _ _ _ => False
  | _, .tpl _ => False
  | _, .dct _ _ => False
  | 0, .tup _ => False
  | 0, .lst _ => False
  | n + 1, .tup ds => ∀ d ∈ ds, fit n d
  | n + 1, .lst ds => ∀ d ∈ ds, fit n d
mutual
theorem Rep.dp {K : PySem.W.Frag} {H : Hp} : ∀ (n : Nat) (d : D) (v : V), fit n d → Rep K H v d → Dp K H v d.py
  | _, .non, _, _, r => by cases r; exact .non
  | _, .bl b, _, _, r => by cases r; exact .bl b
  | _, .int i, _, _, r => by cases r; exact .int i
  | _, .str x, _, _, r => by cases r; exact .str x
  | _, .ty _, _, f, _ => by simp [fit] at f
  | _, .tok _, _, f, _ => by simp [fit] at f
  | _, .exc _ _ _ _ _, _, f, _ => by simp [fit] at f
  | _, .tpl _, _, f, _ => by simp [fit] at f
  | _, .dct _ _, _, f, _ => by simp [fit] at f
  | 0, .tup _, _, f, _ => by cases f
  | 0, .lst _, _, f, _ => by cases f
  | n + 1, .tup ds, _, f, r => by
    cases r with
    | tup hs ha => exact .tup hs (RepL.dp n ds _ f ha)
  | n + 1, .lst ds, _, f, r => by
    cases r with
    | lst hs ha => exact .lst hs (RepL.dp n ds _ f ha)
theorem RepL.dp {K : PySem.W.Frag} {H : Hp} : ∀ (n : Nat) (ds : List D) (vs : List V), (∀ d ∈ ds, fit n d) → RepL K H vs ds → DpAll K H vs (pyL ds)
  | _, [], _, _, r => by cases r; exact .nil
  | n, d :: ds, _, f, r => by
    cases r with
    | cons r1 r2 => exact .cons (Rep.dp n d _ (f d List.mem_cons_self) r1) (RepL.dp n ds _ (fun x hx => f x (List.mem_cons_of_mem _ hx)) r2)
end
mutual
theorem fit_lay : ∀ (n : Nat) (d : D), fit n d → d.py.canLay0 = true ∧ d.py.depth ≤ n
  | _, .non, _ => ⟨by simp [D.py, PyData.canLay0], by simp [D.py, PyData.depth]⟩
  | _, .bl b, _ => ⟨by simp [D.py, PyData.canLay0], by simp [D.py, PyData.depth]⟩
  | _, .int i, _ => ⟨by simp [D.py, PyData.canLay0], by simp [D.py, PyData.depth]⟩
  | _, .str x, f => by
    have f' : PySem.PyData.strOk x = true := by simpa [fit] using f
    exact ⟨by simp [D.py, PyData.canLay0, f'], by simp [D.py, PyData.depth]⟩
  | _, .ty _, f => by simp [fit] at f
  | _, .tok _, f => by simp [fit] at f
  | _, .exc _ _ _ _ _, f => by simp [fit] at f
  | _, .tpl _, f => by simp [fit] at f
  | _, .dct _ _, f => by simp [fit] at f
  | 0, .tup _, f => by cases f
  | 0, .lst _, f => by cases f
  | n + 1, .tup ds, f => by
    have q := fit_layL n ds f
    exact ⟨by simp [D.py, PyData.canLay0, q.1], by simp only [D.py, PyData.depth]; omega⟩
  | n + 1, .lst ds, f => by
    have q := fit_layL n ds f
    exact ⟨by simp [D.py, PyData.canLay0, q.1], by simp only [D.py, PyData.depth]; omega⟩
theorem fit_layL : ∀ (n : Nat) (ds : List D), (∀ d ∈ ds, fit n d) → PyData.canLayAll0 (pyL ds) = true ∧ PyData.depthAll (pyL ds) ≤ n
  | _, [], _ => ⟨by simp [pyL, PyData.canLayAll0], by simp [pyL, PyData.depthAll]⟩
  | n, d :: ds, f => by
    have q1 := fit_lay n d (f d List.mem_cons_self)
    have q2 := fit_layL n ds fun x hx => f x (List.mem_cons_of_mem _ hx)
    exact ⟨by simp [pyL, PyData.canLayAll0, q1.1, q2.1], by simp only [pyL, PyData.depthAll]; omega⟩
end
theorem fit_shaped {n : Nat} {d : D} (f : fit n d) (h : n ≤ 64) : SeqAt.shaped d.py = true := by
  have q := fit_lay n d f
  unfold SeqAt.shaped
  rw [q.1, Bool.true_and]
  exact decide_eq_true (by omega)
def eqD (d e : D) : Bool := PyData.eqv d.py e.py
def shown (d : D) : Str := d.py.shown
/-! how long its text is at most -/
mutual
def cost : D → Nat
  | .non => 5
  | .bl _ => 5
  | .int _ => 210
  | .str x => 10 * x.length + 4
  | .ty _ => 5
  | .tok _ => 5
  | .exc _ _ _ _ _ => 5
  | .tpl _ => 5
  | .dct ks ds => (D.py (.dct ks ds)).shown.length
  | .tup ds => costL ds + 4
  | .lst ds => costL ds + 4
def costL : List D → Nat
  | [] => 0
  | d :: ds => cost d + 2 + costL ds
end
/-- data that can be shown -/
def shw : Nat → D → Prop
  | _, .non => True
  | _, .bl _ => True
  | _, .int i => i.natAbs < 2 ^ 200
  | _, .str x => PySem.PyData.strOk x = true
  | _, .ty _ => False
  | _, .tok _ => False
  | _, .exc _ _ _ _ _ => False
  | _, .tpl _ => False
  | 0, .dct _ _ => False
  | 0, .tup _ => False
  | 0, .lst _ => False
  | n + 1, .tup ds => ∀ d ∈ ds, shw n d
  | n + 1, .lst ds => ∀ d ∈ ds, shw n d
  | n + 1, .dct ks ds => (ks.length = ds.length ∧ ∀ k ∈ ks, (keyPy k).showable = true) ∧ ∀ d ∈ ds, shw n d
theorem log200 {n : Nat} (h : n < 2 ^ 200) : n.log2 < 200 := by
  by_cases h0 : n = 0
  · subst h0
    decide
  · exact (Nat.log2_lt h0).mpr h
theorem showableKv_zip : ∀ (ks : List Key) (ps : List PyData), (∀ k ∈ ks, (keyPy k).showable = true) → PyData.showableAll ps = true → PyData.showableKv ((ks.map keyPy).zip ps) = true
  | [], _, _, _ => by simp [PyData.showableKv]
  | _ :: _, [], _, _ => by simp [PyData.showableKv]
  | k :: ks, p :: ps, hk, hp => by
    have h2 : p.showable = true ∧ PyData.showableAll ps = true := by simpa [PyData.showableAll] using hp
    rw [List.map_cons, List.zip_cons_cons]
    simp [PyData.showableKv, hk k List.mem_cons_self, h2.1, showableKv_zip ks ps (fun x hx => hk x (List.mem_cons_of_mem _ hx)) h2.2]
theorem keyPy_depth (k : Key) : (keyPy k).depth = 0 := by cases k <;> simp [keyPy, PyData.depth]
theorem depthKv_zip (n : Nat) : ∀ (ks : List Key) (ps : List PyData), PyData.depthAll ps ≤ n → PyData.depthKv ((ks.map keyPy).zip ps) ≤ n
  | [], _, _ => by simp [PyData.depthKv]
  | _ :: _, [], _ => by simp [PyData.depthKv]
  | k :: ks, p :: ps, h => by
    have h1 : p.depth ≤ n ∧ PyData.depthAll ps ≤ n := by
      simp only [PyData.depthAll] at h
      omega
    have ih := depthKv_zip n ks ps h1.2
    rw [List.map_cons, List.zip_cons_cons]
    simp only [PyData.depthKv, keyPy_depth]
    omega
mutual
theorem shw_show : ∀ (n : Nat) (d : D), shw n d → d.py.showable = true ∧ d.py.depth ≤ n
  | _, .non, _ => ⟨by simp [D.py, PyData.showable], by simp [D.py, PyData.depth]⟩
  | _, .bl b, _ => ⟨by simp [D.py, PyData.showable], by simp [D.py, PyData.depth]⟩
  | _, .int i, f => by
    have f' : i.natAbs < 2 ^ 200 := by simpa only [shw] using f
    have q := log200 f'
    exact ⟨by simp only [D.py, PyData.showable]; exact decide_eq_true (by omega), by simp [D.py, PyData.depth]⟩
  | _, .str x, f => ⟨by simp [D.py, PyData.showable], by simp [D.py, PyData.depth]⟩
  | _, .ty _, f => by simp [shw] at f
  | _, .tok _, f => by simp [shw] at f
  | _, .exc _ _ _ _ _, f => by simp [shw] at f
  | _, .tpl _, f => by simp [shw] at f
  | 0, .dct _ _, f => by cases f
  | 0, .tup _, f => by cases f
  | 0, .lst _, f => by cases f
  | n + 1, .tup ds, f => by
    have q := shw_showL n ds f
    exact ⟨by simp [D.py, PyData.showable, q.1], by simp only [D.py, PyData.depth]; omega⟩
  | n + 1, .lst ds, f => by
    have q := shw_showL n ds f
    exact ⟨by simp [D.py, PyData.showable, q.1], by simp only [D.py, PyData.depth]; omega⟩
  | n + 1, .dct ks ds, f => by
    have q := shw_showL n ds f.2
    have q2 := depthKv_zip n ks (pyL ds) q.2
    exact ⟨by simp only [D.py, PyData.showable]; exact showableKv_zip ks _ f.1.2 q.1, by simp only [D.py, PyData.depth]; omega⟩
theorem shw_showL : ∀ (n : Nat) (ds : List D), (∀ d ∈ ds, shw n d) → PyData.showableAll (pyL ds) = true ∧ PyData.depthAll (pyL ds) ≤ n
  | _, [], _ => ⟨by simp [pyL, PyData.showableAll], by simp [pyL, PyData.depthAll]⟩
  | n, d :: ds, f => by
    have q1 := shw_show n d (f d List.mem_cons_self)
    have q2 := shw_showL n ds fun x hx => f x (List.mem_cons_of_mem _ hx)
    exact ⟨by simp [pyL, PyData.showableAll, q1.1, q2.1], by simp only [pyL, PyData.depthAll]; omega⟩
end
theorem pyL_len : ∀ ds : List D, (pyL ds).length = ds.length
  | [] => rfl
  | d :: ds => by rw [pyL, List.length_cons, List.length_cons, pyL_len ds]
theorem pairs_rdd {h : Heap} {P : Program} {w : World} : ∀ {kvs : List (Key × V)} {vs : List (Key × Value)} {es : List DictEntry}, KV kvs vs → Pairs (mixKind P w) es vs → RdDs h (es.map (·.key)) ((kvs.map (·.1)).map keyPy) ∧ Vals (kvs.map (·.2)) (es.map (·.val))
  | _, _, _, .nil, .nil => ⟨.nil, .nil⟩
  | _, _, _, .cons (a := a) (b := b) h t, .cons (e := e) e1 e2 ps => by
    obtain ⟨q1, q2⟩ := pairs_rdd t ps
    refine ⟨.cons ?_ q1, .cons ?_ q2⟩
    · have z : keyIs b.1 e.key = true := e1
      rw [← h.1] at z
      show RdD _ e.key (keyPy a.1)
      rcases keyIs_shape z with ⟨i, t, hk, hv⟩ | ⟨x, t, hk, hv⟩
      · rw [hk, hv]
        exact .int i t
      · rw [hk, hv]
        exact .str x t
    · show RelV a.2 e.val
      rw [e2]
      exact h.2
mutual
theorem Rep.rdd {X : Cx} {pins : List (Addr × Obj)} {σ : L2.St} {H : Hp} {s : Shared} (I : Inv X pins σ H s) : ∀ (n : Nat) (d : D) (v : V) (u : Value), shw n d → Rep X.K H v d → RelV v u → RdD s.heap u d.py
  | _, .non, _, _, _, r, ru => by
    cases r
    cases ru
    exact .non
  | _, .bl b, _, _, _, r, ru => by
    cases r
    cases ru
    exact .bl b
  | _, .int i, _, _, _, r, ru => by
    cases r
    obtain ⟨t, rfl⟩ := ru
    exact .int i t
  | _, .str x, _, _, _, r, ru => by
    cases r
    obtain ⟨t, rfl⟩ := ru
    exact .str x t
  | _, .ty _, _, _, f, _, _ => by simp [shw] at f
  | _, .tok _, _, _, f, _, _ => by simp [shw] at f
  | _, .exc _ _ _ _ _, _, _, f, _, _ => by simp [shw] at f
  | _, .tpl _, _, _, f, _, _ => by simp [shw] at f
  | 0, .dct _ _, _, _, f, _, _ => by cases f
  | 0, .tup _, _, _, f, _, _ => by cases f
  | 0, .lst _, _, _, f, _, _ => by cases f
  | n + 1, .tup ds, _, _, f, r, ru => by
    cases r with
    | tup hs ha =>
      cases ru
      obtain ⟨its, rv, ⟨o, ho, hc, m, hd⟩, _⟩ := I.tuple hs
      exact .tup ho hc hd (RepL.rdd I n ds _ _ f ha rv)
  | n + 1, .lst ds, _, _, f, r, ru => by
    cases r with
    | lst hs ha =>
      cases ru
      obtain ⟨its, rv, ⟨o, m, ho, hc, _, hd⟩, _⟩ := I.list hs
      exact .lst ho hc hd (RepL.rdd I n ds _ _ f ha rv)
  | n + 1, .dct ks ds, _, _, f, r, ru => by
    cases r with
    | @dct _ _ vs0 _ hs hl ha =>
      cases ru
      obtain ⟨_, hm, vs, kv, o, es, ep, h1, h2, h3, _, h5, _⟩ := dk_rd I.hok hs
      obtain ⟨q1, q2⟩ := pairs_rdd (h := s.heap) kv h5
      have e1 : (ks.zip vs0).map (·.1) = ks := List.map_fst_zip (Nat.le_of_eq hl)
      have e2 : (ks.zip vs0).map (·.2) = vs0 := List.map_snd_zip (Nat.le_of_eq hl.symm)
      rw [e1] at q1
      rw [e2] at q2
      have q3 := RepL.rdd I n ds _ _ f.2 ha q2
      have l1 : (ks.map keyPy).length = (pyL ds).length := by
        rw [List.length_map, f.1.1, pyL_len]
      show RdD s.heap _ (.dict ((ks.map keyPy).zip (pyL ds)))
      exact .dct h1 h2.1 h3 hm (by rw [List.map_fst_zip (Nat.le_of_eq l1)]; exact q1) (by rw [List.map_snd_zip (Nat.le_of_eq l1.symm)]; exact q3)
theorem RepL.rdd {X : Cx} {pins : List (Addr × Obj)} {σ : L2.St} {H : Hp} {s : Shared} (I : Inv X pins σ H s) : ∀ (n : Nat) (ds : List D) (vs : List V) (us : List Value), (∀ d ∈ ds, shw n d) → RepL X.K H vs ds → Vals vs us → RdDs s.heap us (pyL ds)
  | _, [], _, _, _, r, ru => by
    cases r
    cases ru
    exact .nil
  | n, d :: ds, _, _, f, r, ru => by
    cases r with
    | cons r1 r2 =>
      cases ru with
      | cons u1 u2 => exact .cons (Rep.rdd I n d _ _ (f d List.mem_cons_self) r1 u1) (RepL.rdd I n ds _ _ (fun x hx => f x (List.mem_cons_of_mem _ hx)) r2 u2)
end
theorem shownAll_len : ∀ ds : List PyData, (PyData.shownAll ds).length = ds.length
  | [] => rfl
  | d :: ds => by rw [PyData.shownAll, List.length_cons, List.length_cons, shownAll_len ds]
mutual
theorem shw_cost : ∀ (n : Nat) (d : D), shw n d → d.py.shown.length ≤ cost d
  | _, .non, _ => by decide
  | _, .bl b, _ => by cases b <;> decide
  | _, .int i, f => by
    have f' : i.natAbs < 2 ^ 200 := by simpa only [shw] using f
    have q := PySem.int_text_length_le (a := i) (k := 200) (by decide) (log200 f')
    have e : (D.int i).py.shown.length = (toString i).length := by
      show (Str.ofString (toString i)).length = _
      rw [PySem.ofString_length]
    rw [e]
    show _ ≤ 210
    omega
  | _, .str x, f => by
    have f' : PySem.PyData.strOk x = true := by simpa only [shw] using f
    have h : ∀ c ∈ x.cps.toList, c < 16 ^ 8 := fun c hc => by
      have z := (Array.all_eq_true'.mp f') c (by simpa using hc)
      have z' : c < 0x110000 := by simpa using z
      exact Nat.lt_trans z' (by decide)
    have q := PySem.StrLaws.reprText_len x h
    show (reprText x).length ≤ 10 * x.length + 4
    omega
  | _, .ty _, f => by simp [shw] at f
  | _, .tok _, f => by simp [shw] at f
  | _, .exc _ _ _ _ _, f => by simp [shw] at f
  | _, .tpl _, f => by simp [shw] at f
  | _, .dct _ _, f => Nat.le_refl _
  | 0, .tup _, f => by cases f
  | 0, .lst _, f => by cases f
  | n + 1, .tup ds, f => by
    have q := shw_costL n ds f
    have z := PySem.tupleText_len_le (PyData.shownAll (pyL ds))
    rw [shownAll_len, pyL_len] at z
    show (tupleText (PyData.shownAll (pyL ds))).length ≤ costL ds + 4
    omega
  | n + 1, .lst ds, f => by
    have q := shw_costL n ds f
    have z := PySem.listText_len_le (PyData.shownAll (pyL ds))
    rw [shownAll_len, pyL_len] at z
    show (listText (PyData.shownAll (pyL ds))).length ≤ costL ds + 4
    omega
theorem shw_costL : ∀ (n : Nat) (ds : List D), (∀ d ∈ ds, shw n d) → ((PyData.shownAll (pyL ds)).map (·.length)).sum + 2 * ds.length ≤ costL ds
  | _, [], _ => Nat.le_refl _
  | n, d :: ds, f => by
    have q1 := shw_cost n d (f d List.mem_cons_self)
    have q2 := shw_costL n ds fun x hx => f x (List.mem_cons_of_mem _ hx)
    simp only [pyL, PyData.shownAll, List.map_cons, List.sum_cons, List.length_cons, costL]
    omega
end
/-- repr(x), by data -/
theorem call_repr_any {X : Cx} {k : Nat} (hr : Room k X.A) (gd : X.A.guards = some []) : CallR X (.builtin "repr") (fun xs H Q => ∃ (x : V) (d : D) (n : Nat), xs = [x] ∧ Rep X.K H x d ∧ shw n d ∧ n ≤ 60 ∧ cost d ≤ 16000000 ∧ Q (.str (shown d)) H) := by
  intro pins s σ H vs us Q I r h
  obtain ⟨x, d, n, rfl, rp, sh, hn, hc, q⟩ := h
  obtain ⟨u, rfl, ru⟩ := vals1 r
  have hs := shw_show n d sh
  have hl := shw_cost n d sh
  have hz : d.py.shown.length ≤ sizeLine := by
    rw [sizeLine_eq]
    omega
  have hd := hs.2
  have hu := hr.units
  have rd := Rep.rdd I n d x u sh rp ru
  cases d with
  | non =>
    cases rp
    cases ru
    exact P.repr_of_none ⟨.str _, H, I.tok _, ⟨_, rfl⟩, q⟩
  | bl b =>
    cases rp
    cases ru
    refine P.repr_of_bool ⟨.str _, H, I.tok _, ⟨_, rfl⟩, ?_⟩
    have e : (if b = true then Str.ofString "True" else Str.ofString "False") = shown (.bl b) := by cases b <;> rfl
    rw [e]
    exact q
  | int i =>
    cases rp
    obtain ⟨t, rfl⟩ := ru
    have sh' : i.natAbs < 2 ^ 200 := by simpa only [shw] using sh
    have q3 := log200 sh'
    exact P.repr_of_int (by omega) ⟨.str _, H, I.tok _, ⟨_, rfl⟩, q⟩
  | str y =>
    cases rp
    obtain ⟨t, rfl⟩ := ru
    exact P.repr_of_str ⟨.str _, H, I.tok _, ⟨_, rfl⟩, q⟩ hz
  | ty _ => simp [shw] at sh
  | tok _ => simp [shw] at sh
  | exc _ _ _ _ _ => simp [shw] at sh
  | tpl _ => simp [shw] at sh
  | dct ks ds =>
    cases rp
    cases ru
    exact rd.repr_call hs.1 gd (by omega) (fun _ _ e => e) (fun h' u' tk hk => ⟨.str _, H, I.kept hk, ⟨_, rfl⟩, q⟩) hz
  | tup ds =>
    cases rp
    cases ru
    exact rd.repr_call hs.1 gd (by omega) (fun _ _ e => e) (fun h' u' tk hk => ⟨.str _, H, I.kept hk, ⟨_, rfl⟩, q⟩) hz
  | lst ds =>
    cases rp
    cases ru
    exact rd.repr_call hs.1 gd (by omega) (fun _ _ e => e) (fun h' u' tk hk => ⟨.str _, H, I.kept hk, ⟨_, rfl⟩, q⟩) hz
end L3
namespace L3
open PySem L2
section
variable {X : Cx} {E : XK} {e a b c : Expr} {es : List Expr} {t ta tb tc te : TE} {w wa wb wc we : WE} {pos : Pos} {k : Nat}
/-! ### names, constants -/
def wVar (i : Nat) : WE := fun ρ M Q => match ρ[i]? with
  | some (some d) => Q d M
  | _ => False
theorem sim_var {K : PySem.W.Frag} (i : Nat) : SimE K (tVar i) (wVar i) := by
  intro Z ρ M σ H Q Q' r h q
  unfold wVar at h
  split at h
  · rename_i d e
    obtain ⟨v, e1, rp⟩ := r.env.2 i d e
    exact ⟨v, e1, q v d H M r.refl rp h⟩
  · exact h.elim
theorem de_var (i : Nat) {x : Str} (hN : X.N[i]? = some x := by rfl) (hv : Vis X.env.scope x := by first | exact Or.inl rfl | exact Or.inr (Or.inl rfl) | exact Or.inr (Or.inr rfl)) (hd : (x == ("__debug__" : Str)) = false := by decide)
    (hcd : (x == ("__classdict__" : Str)) = false := by decide) : DE X (.Name x pos) (tVar i) (wVar i) := ⟨pe_var hN hv hd hcd, sim_var i⟩
def wC (d : D) : WE := fun _ M Q => Q d M
theorem sim_c {K : PySem.W.Frag} {v : V} {d : D} (h : ∀ H, Rep K H v d) : SimE K (tC v) (wC d) := fun _ _ M _ H _ _ r q z => z v d H M r.refl (h _) q
theorem de_int {i j} : DE X (.Constant (.int i) j pos) (tC (.int i)) (wC (.int i)) := ⟨pe_int, sim_c fun _ => .int i⟩
theorem de_bl {i j} : DE X (.Constant (.bool i) j pos) (tC (.bl i)) (wC (.bl i)) := ⟨pe_bl, sim_c fun _ => .bl i⟩
theorem de_non {j} : DE X (.Constant .none j pos) (tC .non) (wC .non) := ⟨pe_non, sim_c fun _ => .non⟩
theorem de_str {x j} : DE X (.Constant (.str x) j pos) (tC (.str x)) (wC (.str x)) := ⟨pe_str, sim_c fun _ => .str x⟩
/-! ### two values -/
abbrev F2 := D → D → Mp → KD → Prop
def SimR (K : PySem.W.Frag) (r : R2) (f : F2) : Prop := ∀ (Z : Hp) (x y : V) (d e : D) (H : Hp) (M : Mp) (Q : KD) (Q' : VK), Sat K Z H M → Rep K (fz Z H M) x d → Rep K (fz Z H M) y e → f d e M Q → (∀ v d' H' M', Go K Z H M H' M' → Rep K (fz Z H' M') v d' → Q d' M' → Q' v H') → r x y H Q'
def wOp (f : F2) (wa wb : WE) : WE := fun ρ M Q => wa ρ M fun d M1 => wb ρ M1 fun e M2 => f d e M2 Q
theorem sim_op {K : PySem.W.Frag} {r : R2} {f : F2} (ha : SimE K ta wa) (hb : SimE K tb wb) (hr : SimR K r f) : SimE K (tOp r ta tb) (wOp f wa wb) := by
  intro Z ρ M σ H Q Q' s h q
  refine ha Z ρ M σ H _ _ s h fun x d H1 M1 g1 r1 q1 => ?_
  refine hb Z ρ M1 σ H1 _ _ (s.go g1) q1 fun y e H2 M2 g2 r2 q2 => ?_
  exact hr Z x y d e H2 M2 Q Q' g2.sat (r1.up g2.ex) r2 q2 fun v d' H3 M3 g3 r3 q3 => q v d' H3 M3 ((g1.trans g2).trans g3) r3 q3
theorem de_op {op : Operator} {r : R2} {f : F2} (ho : OpR X (binaryOp op) r) (hs : SimR X.K r f) (ha : DE X a ta wa) (hb : DE X b tb wb) : DE X (.BinOp a op b pos) (tOp r ta tb) (wOp f wa wb) := ⟨pe_op ho ha.pe hb.pe, sim_op ha.sm hb.sm hs⟩
theorem de_cmp {op : CmpOp} {r : R2} {f : F2} (ho : OpR X (compareOp op) r) (hs : SimR X.K r f) (ha : DE X a ta wa) (hb : DE X b tb wb) (hm : behindInMarks op b = false := by first | exact nomark _ (by decide) (by decide) | rfl) : DE X (.Compare a [op] [b] pos) (tOp r ta tb) (wOp f wa wb) :=
  ⟨pe_cmpR ho ha.pe hb.pe hm, sim_op ha.sm hb.sm hs⟩
/-- a value's answer as a test -/
def wB (w : WE) : WT := fun ρ M Q => w ρ M fun d M1 => match d with
  | .bl x => Q x M1
  | _ => False
theorem sim_test {K : PySem.W.Frag} (ha : SimE K t w) : SimT K (tTest t) (wB w) := by
  intro Z ρ M σ H Q Q' s h q
  refine ha Z ρ M σ H _ _ s h fun x d H1 M1 g1 r1 q1 => ?_
  cases d with
  | bl y =>
    cases r1
    exact ⟨y, rfl, q y H1 M1 g1 q1⟩
  | _ => exact q1.elim
theorem dt_cmp {op : CmpOp} {r : R2} {f : F2} (ho : OpR X (compareOp op) r) (hs : SimR X.K r f) (ha : DE X a ta wa) (hb : DE X b tb wb) (hm : behindInMarks op b = false := by first | exact nomark _ (by decide) (by decide) | rfl) : DT X (.Compare a [op] [b] pos) (tTest (tOp r ta tb)) (wB (wOp f wa wb)) :=
  ⟨pt_cmpR ho ha.pe hb.pe hm, sim_test (sim_op ha.sm hb.sm hs)⟩
/-- a op b op' c -/
def wChain (f f' : F2) (wa wb wc : WE) : WE := fun ρ M Q => wa ρ M fun d M1 => wb ρ M1 fun e M2 => f d e M2 fun z M3 => match z with
  | .bl true => wc ρ M3 fun g M4 => f' e g M4 Q
  | .bl false => Q (.bl false) M3
  | _ => False
/-! ### arithmetic -/
def fI (C : Int → Int → Prop) (g : Int → Int → D) : F2 := fun d e M Q => match d, e with
  | .int i, .int j => C i j ∧ Q (g i j) M
  | _, _ => False
def fI0 (g : Int → Int → D) : F2 := fun d e M Q => match d, e with
  | .int i, .int j => Q (g i j) M
  | _, _ => False
theorem sim_I {K : PySem.W.Frag} {C : Int → Int → Prop} {g : Int → Int → V} {g' : Int → Int → D} (h : ∀ i j H, Rep K H (g i j) (g' i j)) : SimR K (rI C g) (fI C g') := by
  intro Z x y d e H M Q Q' S r1 r2 f q
  cases d <;> cases e <;> first | exact f.elim | skip
  cases r1
  cases r2
  exact ⟨_, _, rfl, rfl, f.1, q _ _ H M (Go.refl S) (h _ _ _) f.2⟩
theorem sim_I0 {K : PySem.W.Frag} {g : Int → Int → V} {g' : Int → Int → D} (h : ∀ i j H, Rep K H (g i j) (g' i j)) : SimR K (rI0 g) (fI0 g') := by
  intro Z x y d e H M Q Q' S r1 r2 f q
  cases d <;> cases e <;> first | exact f.elim | skip
  cases r1
  cases r2
  exact ⟨_, _, rfl, rfl, q _ _ H M (Go.refl S) (h _ _ _) f⟩
def addD : F2 := fun d e M Q => match d, e with
  | .int i, .int j => Q (.int (i + j)) M
  | .str i, .str j => i.length + j.length ≤ sizeLine ∧ Q (.str (i ++ j)) M
  | .tup i, .tup j => i.length + j.length ≤ sizeLine ∧ Q (.tup (i ++ j)) M
  | d, e => ∃ i j, (∃ a, d = .tok a ∨ d = .lst i) ∧ (∃ a, e = .tok a ∨ e = .lst j) ∧ seqD M d = some i ∧ seqD M e = some j ∧ i.length + j.length ≤ sizeLine ∧ Q (.lst (i ++ j)) M
theorem lst_of {K : PySem.W.Frag} {Z : Hp} {H : Hp} {M : Mp} {v : V} {d : D} {ds : List D} (S : Sat K Z H M) (r : Rep K (fz Z H M) v d) (h : ∃ a, d = .tok a ∨ d = .lst ds) (e : seqD M d = some ds) : ∃ a vs, v = .ref a ∧ SqL K H a vs ∧ RepL K (fz Z H M) vs ds := by
  obtain ⟨a, h⟩ := h
  rcases h with rfl | rfl
  · cases r
    have e' : (match M a with | some (.lst ds) => some ds | _ => none) = some ds := e
    cases q : M a with
    | none =>
      rw [q] at e'
      cases e'
    | some c =>
      rw [q] at e'
      cases c with
      | lst es =>
        obtain rfl : es = ds := Option.some.inj e'
        obtain ⟨vs, e1, rl⟩ := S.cell a _ q
        exact ⟨_, _, rfl, .inl (.inl e1), rl⟩
      | aux => cases e'
      | drw _ => cases e'
      | tab _ _ => cases e'
      | box => cases e'
      | ins _ _ => cases e'
      | dic _ _ => cases e'
  · cases r with
    | lst hs ha => exact ⟨_, _, rfl, fz_sub.seq hs, ha⟩
/-- list + list -/
def rCatL (K : PySem.W.Frag) : R2 := fun x y H Q => ∃ l b xs zs, x = .ref l ∧ y = .ref b ∧ SqL K H l xs ∧ SqL K H b zs ∧ xs.length + zs.length ≤ sizeLine ∧ ∀ p, H p = none → Q (.ref p) (upd H p (.lst (xs ++ zs)))
theorem op_catL : OpR X (binaryOp .Add) (rCatL X.K) := by
  intro pins s σ H x y v u Q I rx ry h
  obtain ⟨l, b, xs, zs, rfl, rfl, h1, h2, hz, q⟩ := h
  cases rx
  cases ry
  obtain ⟨its, rv, p1, z1⟩ := I.list h1
  obtain ⟨its2, rv2, p2, z2⟩ := I.list h2
  have l1 := rv.length
  have l2 := rv2.length
  obtain ⟨⟨cl1, dd1, da1, sl1⟩, n1, ho1, hc1, hx1, hd1⟩ := p1
  obtain ⟨⟨cl2, dd2, da2, sl2⟩, n2, ho2, hc2, hx2, hd2⟩ := p2
  simp only at hc1 hd1 hc2 hd2
  subst hc1 hd1 hc2 hd2
  have ea : its.toArray ++ its2.toArray = (its ++ its2).toArray := by simp
  refine PySem.concat_meets ⟨_, ho1, rfl⟩ ⟨_, ho2, rfl⟩ PySem.noFill_list_add PySem.seq_list_add PySem.F.slot_list_add PySem.F.entry_list_add (PySem.F.args_list_add_2 _ _) (PyProof.Rows.list_addW l b its.toArray its2.toArray n1 n2 dd1 dd2 sl1 sl2 (by rw [List.size_toArray, List.size_toArray]; omega)) ⟨ho1, ho2, ?_⟩
  rw [ea]
  exact ⟨.ref _, _, I.lnew (t' := s.toks) (rv.append rv2) (by rw [List.length_append]; omega), rfl, q _ I.fresh⟩
theorem sim_cat {K : PySem.W.Frag} {Z : Hp} : ∀ (x y : V) (d e : D) (H : Hp) (M : Mp) (Q : KD) (Q' : VK) (i j : List D), Sat K Z H M → Rep K (fz Z H M) x d → Rep K (fz Z H M) y e → (∃ a, d = .tok a ∨ d = .lst i) → (∃ a, e = .tok a ∨ e = .lst j) → seqD M d = some i → seqD M e = some j → i.length + j.length ≤ sizeLine → Q (.lst (i ++ j)) M →
    (∀ v d' H' M', Go K Z H M H' M' → Rep K (fz Z H' M') v d' → Q d' M' → Q' v H') → rCatL K x y H Q' := by
  intro x y d e H M Q Q' i j S r1 r2 h1 h2 s1 s2 l q z
  obtain ⟨p, vs, rfl, hp, rl⟩ := lst_of S r1 h1 s1
  obtain ⟨p', ws, rfl, hp', rl'⟩ := lst_of S r2 h2 s2
  refine ⟨p, p', vs, ws, rfl, rfl, hp, hp', by rw [rl.len, rl'.len]; exact l, fun o ho => ?_⟩
  obtain ⟨g, n⟩ := Go.laid (o := .lst (vs ++ ws)) S ho
  exact z _ _ _ _ g (.lst (.inl (.inl n)) ((rl.app rl').up g.ex)) q
def rAddA (K : PySem.W.Frag) : R2 := fun x y H Q => rI0 (fun i j => .int (i + j)) x y H Q ∨ (∃ i j, x = .str i ∧ y = .str j ∧ i.length + j.length ≤ sizeLine ∧ Q (.str (i ++ j)) H) ∨ rCatL K x y H Q ∨ rCatA K x y H Q
theorem op_addA : OpR X (binaryOp .Add) (rAddA X.K) := op_add.or (op_add_str.or (op_catL.or op_catA))
theorem sim_addA {K : PySem.W.Frag} : SimR K (rAddA K) addD := by
  intro Z x y d e H M Q Q' S r1 r2 f q
  have viaL : (∃ i j, (∃ a, d = .tok a ∨ d = .lst i) ∧ (∃ a, e = .tok a ∨ e = .lst j) ∧ seqD M d = some i ∧ seqD M e = some j ∧ i.length + j.length ≤ sizeLine ∧ Q (.lst (i ++ j)) M) → rAddA K x y H Q' := fun ⟨i, j, h1, h2, s1, s2, l, z⟩ =>
    .inr (.inr (.inl (sim_cat x y d e H M Q Q' i j S r1 r2 h1 h2 s1 s2 l z q)))
  unfold addD at f
  split at f
  · cases r1
    cases r2
    exact .inl ⟨_, _, rfl, rfl, q _ _ H M (Go.refl S) (.int _) f⟩
  · cases r1
    cases r2
    exact .inr (.inl ⟨_, _, rfl, rfl, f.1, q _ _ H M (Go.refl S) (.str _) f.2⟩)
  · rename_i i j
    cases r1 with
    | @tup p vs _ h1 l1 =>
      cases r2 with
      | @tup p' ws _ h2 l2 =>
        refine .inr (.inr (.inr ⟨p, p', vs, ws, rfl, rfl, sqt_mono fz_sub h1, sqt_mono fz_sub h2, by rw [l1.len, l2.len]; exact f.1, fun en => ?_, fun _ en => ?_, fun _ _ o ho => ?_⟩))
        · subst en
          cases l1
          exact q _ _ H M (Go.refl S) (.tup h2 l2) f.2
        · subst en
          cases l2
          have z := f.2
          rw [List.append_nil] at z
          exact q _ _ H M (Go.refl S) (.tup h1 l1) z
        · obtain ⟨g, n⟩ := Go.laid (o := .tup (vs ++ ws)) S ho
          exact q _ _ _ _ g (.tup (.inl (.inl n)) ((l1.app l2).up g.ex)) f.2
  · exact viaL f
theorem de_add (ha : DE X a ta wa) (hb : DE X b tb wb) : DE X (.BinOp a .Add b pos) (tOp (rAddA X.K) ta tb) (wOp addD wa wb) := de_op op_addA sim_addA ha hb
theorem de_sub (ha : DE X a ta wa) (hb : DE X b tb wb) : DE X (.BinOp a .Sub b pos) (tOp (rI0 fun i j => .int (i - j)) ta tb) (wOp (fI0 fun i j => .int (i - j)) wa wb) := de_op op_sub (sim_I0 fun _ _ _ => .int _) ha hb
/-- products: one is not too great, or both together -/
def CM (i j : Int) : Prop := CMul i j ∨ CMulW i j
theorem op_mulM {X : Cx} : OpR X (binaryOp .Mult) (rI CM fun i j => .int (i * j)) := fun pins s σ H x y v u Q I r1 r2 ⟨i, j, e1, e2, c, q⟩ => c.elim (fun c => op_mul pins s σ H x y v u Q I r1 r2 ⟨i, j, e1, e2, c, q⟩) fun c => op_mulW pins s σ H x y v u Q I r1 r2 ⟨i, j, e1, e2, c, q⟩
theorem de_mul (ha : DE X a ta wa) (hb : DE X b tb wb) : DE X (.BinOp a .Mult b pos) (tOp (rI CM fun i j => .int (i * j)) ta tb) (wOp (fI CM fun i j => .int (i * j)) wa wb) := de_op op_mulM (sim_I fun _ _ _ => .int _) ha hb
theorem de_fdiv (ha : DE X a ta wa) (hb : DE X b tb wb) : DE X (.BinOp a .FloorDiv b pos) (tOp (rI CDivW fun i j => .int (i / j)) ta tb) (wOp (fI CDivW fun i j => .int (i / j)) wa wb) := de_op op_fdivW (sim_I fun _ _ _ => .int _) ha hb
theorem de_mod (ha : DE X a ta wa) (hb : DE X b tb wb) : DE X (.BinOp a .Mod b pos) (tOp (rI (fun _ j => 0 < j) fun i j => .int (i % j)) ta tb) (wOp (fI (fun _ j => 0 < j) fun i j => .int (i % j)) wa wb) := de_op op_mod (sim_I fun _ _ _ => .int _) ha hb
theorem de_pow (ha : DE X a ta wa) (hb : DE X b tb wb) : DE X (.BinOp a .Pow b pos) (tOp (rI CPow fun i j => .int (i ^ j.toNat)) ta tb) (wOp (fI CPow fun i j => .int (i ^ j.toNat)) wa wb) := de_op op_pow (sim_I fun _ _ _ => .int _) ha hb
def wNeg (wa : WE) : WE := fun ρ M Q => wa ρ M fun d M1 => match d with
  | .int i => Q (.int (-i)) M1
  | _ => False
theorem de_neg (ha : DE X a ta wa) : DE X (.UnaryOp .USub a pos) (tUn (rU fun i => .int (-i)) ta) (wNeg wa) := by
  refine ⟨pe_un un_neg ha.pe, fun Z ρ M σ H Q Q' s h q => ?_⟩
  refine ha.sm Z ρ M σ H _ _ s h fun x d H1 M1 g1 r1 q1 => ?_
  cases d with
  | int i =>
    cases r1
    exact ⟨i, rfl, q _ _ H1 M1 g1 (.int _) q1⟩
  | _ => exact q1.elim
/-! ### comparisons -/
def eqD2 (neg : Bool) : F2 := fun d e M Q => (∃ n, n ≤ 60 ∧ fit n (res M d) ∧ fit n (res M e)) ∧ Q (.bl (if neg then !eqD (res M d) (res M e) else eqD (res M d) (res M e))) M
theorem sim_eq {K : PySem.W.Frag} : SimR K (rEqD K) (eqD2 false) := by
  intro Z x y d e H M Q Q' S r1 r2 ⟨⟨n, hn, f1, f2⟩, f⟩ q
  exact ⟨_, _, Rep.dp n _ _ f1 (res_rep S r1), Rep.dp n _ _ f2 (res_rep S r2), fit_shaped f1 (by omega), fit_shaped f2 (by omega), q _ _ H M (Go.refl S) (.bl _) f⟩
theorem sim_ne {K : PySem.W.Frag} : SimR K (rNeD K) (eqD2 true) := by
  intro Z x y d e H M Q Q' S r1 r2 ⟨⟨n, hn, f1, f2⟩, f⟩ q
  exact ⟨_, _, Rep.dp n _ _ f1 (res_rep S r1), Rep.dp n _ _ f2 (res_rep S r2), fit_shaped f1 (by omega), fit_shaped f2 (by omega), q _ _ H M (Go.refl S) (.bl _) f⟩
theorem op_eqG (hr : Room k X.A) : OpR X (compareOp .Eq) (rEqD X.K) := op_eqD hr.units
theorem op_neG (hr : Room k X.A) : OpR X (compareOp .NotEq) (rNeD X.K) := op_neD hr.units
abbrev fLt : F2 := fI0 fun i j => .bl (decide (i < j))
abbrev fLe : F2 := fI0 fun i j => .bl (decide (i ≤ j))
abbrev fGt : F2 := fI0 fun i j => .bl (decide (j < i))
abbrev fGe : F2 := fI0 fun i j => .bl (decide (j ≤ i))
theorem sim_lt {K : PySem.W.Frag} : SimR K (rI0 fun i j => .bl (decide (i < j))) fLt := sim_I0 fun _ _ _ => .bl _
theorem sim_gt {K : PySem.W.Frag} : SimR K (rI0 fun i j => .bl (decide (j < i))) fGt := sim_I0 fun _ _ _ => .bl _
theorem sim_ge {K : PySem.W.Frag} : SimR K (rI0 fun i j => .bl (decide (j ≤ i))) fGe := sim_I0 fun _ _ _ => .bl _
/-! ### tests -/
/-- a bool's own value as a test: a name, a call, a subscript .. -/
theorem dt_val (h : DE X e t w) (he : ∀ whole, isTrue e X.env whole = (do let v ← whole; standAt e.pos; holding [v] (truthy v)) := by intro _; rfl) : DT X e (tB t) (wB w) := ⟨pt_val h.pe he, sim_test h.sm⟩
def wNot (w : WT) : WT := fun ρ M Q => w ρ M fun b M1 => Q (!b) M1
def wAnd (w u : WT) : WT := fun ρ M Q => w ρ M fun b M1 => if b = true then u ρ M1 Q else Q false M1
def wOr (w u : WT) : WT := fun ρ M Q => w ρ M fun b M1 => if b = true then Q true M1 else u ρ M1 Q
variable {tA tB' : TT} {wA wB' : WT} {rest : List Expr}
theorem dt_not (ha : DT X a tA wA) : DT X (.UnaryOp .Not a pos) (tNot tA) (wNot wA) := ⟨pt_not ha.pe, fun Z ρ M σ H Q Q' s h q => ha.sm Z ρ M σ H _ _ s h fun b H1 M1 g z => q _ H1 M1 g z⟩
theorem sim_and {K : PySem.W.Frag} (ha : SimT K tA wA) (hb : SimT K tB' wB') : SimT K (tAnd tA tB') (wAnd wA wB') := by
  intro Z ρ M σ H Q Q' s h q
  refine ha Z ρ M σ H _ _ s h fun b H1 M1 g z => ?_
  cases b with
  | true => exact hb Z ρ M1 σ H1 _ _ (s.go g) z fun b' H2 M2 g2 z2 => q b' H2 M2 (g.trans g2) z2
  | false => exact q _ H1 M1 g z
theorem sim_or {K : PySem.W.Frag} (ha : SimT K tA wA) (hb : SimT K tB' wB') : SimT K (tOr tA tB') (wOr wA wB') := by
  intro Z ρ M σ H Q Q' s h q
  refine ha Z ρ M σ H _ _ s h fun b H1 M1 g z => ?_
  cases b with
  | false => exact hb Z ρ M1 σ H1 _ _ (s.go g) z fun b' H2 M2 g2 z2 => q b' H2 M2 (g.trans g2) z2
  | true => exact q _ H1 M1 g z
theorem dw_and1 (ha : DT X a tA wA) : DW X (.BoolOp .And [a] pos) tA wA := ⟨pw_and1 ha.pe, ha.sm⟩
theorem dw_or1 (ha : DT X a tA wA) : DW X (.BoolOp .Or [a] pos) tA wA := ⟨pw_or1 ha.pe, ha.sm⟩
theorem dw_and (ha : DT X a tA wA) (hb : DW X (.BoolOp .And (b :: rest) pos) tB' wB') : DW X (.BoolOp .And (a :: b :: rest) pos) (tAnd tA tB') (wAnd wA wB') := ⟨pw_and ha.pe hb.pe, sim_and ha.sm hb.sm⟩
theorem dw_or (ha : DT X a tA wA) (hb : DW X (.BoolOp .Or (b :: rest) pos) tB' wB') : DW X (.BoolOp .Or (a :: b :: rest) pos) (tOr tA tB') (wOr wA wB') := ⟨pw_or ha.pe hb.pe, sim_or ha.sm hb.sm⟩
theorem DW.dt {t : TT} {w : WT} (h : DW X e t w) : DT X e t w := ⟨h.pe.pt, h.sm⟩
/-! .. as values -/
def wAndV (wa wb : WE) : WE := fun ρ M Q => wa ρ M fun d M1 => match d with
  | .bl true => wb ρ M1 Q
  | .bl false => Q (.bl false) M1
  | _ => False
def wOrV (wa wb : WE) : WE := fun ρ M Q => wa ρ M fun d M1 => match d with
  | .bl false => wb ρ M1 Q
  | .bl true => Q (.bl true) M1
  | _ => False
def wNotV (wa : WE) : WE := fun ρ M Q => wa ρ M fun d M1 => match d with
  | .bl b => Q (.bl (!b)) M1
  | _ => False
theorem de_one {op} (h : DE X a t w) : DE X (.BoolOp op [a] pos) t w := ⟨pe_one h.pe, h.sm⟩
theorem de_and (ha : DE X a ta wa) (hb : DE X (.BoolOp .And (b :: rest) pos) tb wb) : DE X (.BoolOp .And (a :: b :: rest) pos) (tAndV ta tb) (wAndV wa wb) := by
  refine ⟨pe_and ha.pe hb.pe, fun Z ρ M σ H Q Q' s h q => ?_⟩
  refine ha.sm Z ρ M σ H _ _ s h fun x d H1 M1 g1 r1 q1 => ?_
  cases d with
  | bl y =>
    cases r1
    cases y with
    | true => exact ⟨true, rfl, hb.sm Z ρ M1 σ H1 _ _ (s.go g1) q1 fun v d2 H2 M2 g2 r2 q2 => q v d2 H2 M2 (g1.trans g2) r2 q2⟩
    | false => exact ⟨false, rfl, q _ _ H1 M1 g1 (.bl _) q1⟩
  | _ => exact q1.elim
theorem de_not (ha : DE X a ta wa) : DE X (.UnaryOp .Not a pos) (tNotV ta) (wNotV wa) := by
  refine ⟨pe_not ha.pe, fun Z ρ M σ H Q Q' s h q => ?_⟩
  refine ha.sm Z ρ M σ H _ _ s h fun x d H1 M1 g1 r1 q1 => ?_
  cases d with
  | bl y =>
    cases r1
    exact ⟨y, rfl, q _ _ H1 M1 g1 (.bl _) q1⟩
  | _ => exact q1.elim
def wIf (c : WT) (wa wb : WE) : WE := fun ρ M Q => c ρ M fun b M1 => if b = true then wa ρ M1 Q else wb ρ M1 Q
theorem de_if {c : Expr} (hc : DT X c tA wA) (ha : DE X a ta wa) (hb : DE X b tb wb) : DE X (.IfExp c a b pos) (tIf tA ta tb) (wIf wA wa wb) := by
  refine ⟨pe_ifExp hc.pe ha.pe hb.pe, fun Z ρ M σ H Q Q' s h q => ?_⟩
  refine hc.sm Z ρ M σ H _ _ s h fun y H1 M1 g1 q1 => ?_
  cases y with
  | true => exact ha.sm Z ρ M1 σ H1 _ _ (s.go g1) q1 fun v d2 H2 M2 g2 r2 q2 => q v d2 H2 M2 (g1.trans g2) r2 q2
  | false => exact hb.sm Z ρ M1 σ H1 _ _ (s.go g1) q1 fun v d2 H2 M2 g2 r2 q2 => q v d2 H2 M2 (g1.trans g2) r2 q2
/-! ### arguments, displays, calls -/
def wNil : WA := fun _ M Q => Q [] M
def wCons (w : WE) (r : WA) : WA := fun ρ M Q => w ρ M fun d M1 => r ρ M1 fun ds M2 => Q (d :: ds) M2
variable {tr : TA} {wr : WA}
theorem sim_nil {K : PySem.W.Frag} : SimA K tNil wNil := fun Z ρ M σ H Q Q' s h q => q [] [] H M s.refl .nil h
theorem sim_cons {K : PySem.W.Frag} (ha : SimE K te we) (hr : SimA K tr wr) : SimA K (tCons te tr) (wCons we wr) := by
  intro Z ρ M σ H Q Q' s h q
  refine ha Z ρ M σ H _ _ s h fun x d H1 M1 g1 r1 q1 => ?_
  refine hr Z ρ M1 σ H1 _ _ (s.go g1) q1 fun xs ds H2 M2 g2 r2 q2 => ?_
  exact q (x :: xs) (d :: ds) H2 M2 (g1.trans g2) (.cons (r1.up g2.ex) r2) q2
theorem da_nil : DA X [] tNil wNil := ⟨pa_nil, sim_nil⟩
theorem da_cons (ha : DE X e te we) (hr : DA X es tr wr) (hs : starEach (e :: es) X.env = (false, eval e X.env) :: starEach es X.env := by rfl) : DA X (e :: es) (tCons te tr) (wCons we wr) := ⟨pa_cons ha.pe hr.pe hs, sim_cons ha.sm hr.sm⟩
def wTup (r : WA) : WE := fun ρ M Q => r ρ M fun ds M1 => ds.length ≤ sizeLine ∧ Q (.tup ds) M1
def wLst (r : WA) : WE := fun ρ M Q => r ρ M fun ds M1 => ds.length ≤ sizeLine ∧ Q (.lst ds) M1
theorem de_tup {x1} (h : DA X es tr wr) : DE X (.Tuple es x1 pos) (tTup tr) (wTup wr) := by
  refine ⟨pe_tup h.pe, fun Z ρ M σ H Q Q' s hh q => ?_⟩
  refine h.sm Z ρ M σ H _ _ s hh fun xs ds H1 M1 g1 r1 ⟨l, q1⟩ => ⟨by rw [r1.len]; exact l, fun p hp => ?_⟩
  obtain ⟨g, n⟩ := Go.laid (o := .tup xs) g1.sat hp
  exact q _ _ _ _ (g1.trans g) (.tup (.inl (.inl n)) (r1.up g.ex)) q1
theorem de_lst (h : DA X es tr wr) : DE X (.List es pos) (tLst tr) (wLst wr) := by
  refine ⟨pe_lst h.pe, fun Z ρ M σ H Q Q' s hh q => ?_⟩
  refine h.sm Z ρ M σ H _ _ s hh fun xs ds H1 M1 g1 r1 ⟨l, q1⟩ => ⟨by rw [r1.len]; exact l, fun p hp => ?_⟩
  obtain ⟨g, n⟩ := Go.laid (o := .lst xs) g1.sat hp
  exact q _ _ _ _ (g1.trans g) (.lst (.inl (.inl n)) (r1.up g.ex)) q1
/-- a list that is to change -/
def wLstM (r : WA) : WE := fun ρ M Q => r ρ M fun ds M1 => ds.length ≤ sizeLine ∧ ∀ p, M1 p = none → Q (.tok p) (setM M1 p (.lst ds))
theorem de_lstM (h : DA X es tr wr) : DE X (.List es pos) (tLst tr) (wLstM wr) := by
  refine ⟨pe_lst h.pe, fun Z ρ M σ H Q Q' s hh q => ?_⟩
  refine h.sm Z ρ M σ H _ _ s hh fun xs ds H1 M1 g1 r1 ⟨l, q1⟩ => ⟨by rw [r1.len]; exact l, fun p hp => ?_⟩
  exact q _ _ _ _ (g1.trans (Go.putL g1.sat (.inl hp) r1)) (.tok p) (q1 p (g1.sat.free hp))
/-- f(e, ..) by its contract -/
def wCall (F : Fs) (r : WA) : WE := fun ρ M Q => r ρ M fun ds M1 => F ds M1 Q fun _ _ _ => False
theorem sim_call {K : PySem.W.Frag} {F : Fs} (ha : SimA K tr wr) : SimE K (tCallG (lift K F) [] E0 tr) (wCall F wr) := by
  intro Z ρ M σ H Q Q' s h q
  refine ha Z ρ M σ H _ _ s h fun xs ds H1 M1 g1 r1 q1 => ?_
  show lift K F (xs ++ []) H1 Q' E0
  rw [List.append_nil]
  exact ⟨Z, ds, M1, Q, _, g1.sat, r1, q1, fun v d H2 M2 g2 r2 q2 => q v d H2 M2 (g1.trans g2) r2 q2, fun _ _ _ _ _ _ _ _ _ _ _ _ z => z.elim⟩
variable {f : Addr} {fd : FuncData} {ps : List Str} {F : Fs} {x : Str} {p : Pos}
theorem de_call (G : FnG X.prog X.w X.K X.mg X.base k f fd ps (lift X.K F)) (hr : Room k X.A) (gd : X.A.guards = some []) (hm : X.mg x = some (.ref f)) (hk : PySem.W.keepIn X.K (.ref f) = true) (hb : Binds X.K fd ps [])
    (ha : DA X (e :: es) tr wr) (hg : Gl X x := by rfl) (hdb : (x == ("__debug__" : Str)) = false := by decide) (he : starEach (e :: es) X.env = (false, eval e X.env) :: starEach es X.env := by rfl) (hpl : (backTo pos (starEach es X.env)).any (·.1) = false := by rfl) :
    DE X (.Call (.Name x p) (e :: es) [] pos) (tCallG (lift X.K F) [] E0 tr) (wCall F wr) := ⟨pe_callG G hr gd hg hm hk hb .nil passL ha.pe hdb he hpl, sim_call ha.sm⟩
end
end L3
namespace L3
open PySem L2
section
variable {X : Cx} {E : XK} {e a b c : Expr} {es : List Expr} {t ta tb tc te : TE} {w wa wb wc we : WE} {pos : Pos} {k : Nat} {tr : TA} {wr : WA}
/-! ### keywords -/
structure DK (X : Cx) (kws : List Keyword) (t : TA) (w : WA) : Prop where
  pe : PK X kws t
  sm : SimA X.K t w
variable {nm : Option Str} {kpos : Pos} {kws : List Keyword} {tk : TA} {wk : WA}
theorem dk_nil : DK X [] tNil wNil := ⟨pk_nil, sim_nil⟩
theorem dk_cons (ha : DE X e te we) (hr : DK X kws tk wk) : DK X (⟨nm, e, kpos⟩ :: kws) (tCons te tk) (wCons we wk) := ⟨pk_cons ha.pe hr.pe, sim_cons ha.sm hr.sm⟩
def permD (idx : List Nat) (ds es : List D) : List D := idx.map fun i => (ds ++ es).getD i .non
theorem rep_getD {K : PySem.W.Frag} {H : Hp} : ∀ {vs : List V} {ds : List D} (i : Nat), RepL K H vs ds → Rep K H (vs.getD i .non) (ds.getD i .non)
  | _, _, _, .nil => .non
  | _, _, 0, .cons r _ => r
  | _, _, i + 1, .cons _ q => rep_getD i q
theorem perm_repL {K : PySem.W.Frag} {H : Hp} (idx : List Nat) {vs zs : List V} {ds es : List D} (r : RepL K H vs ds) (q : RepL K H zs es) : RepL K H (perm idx vs zs) (permD idx ds es) := by
  have ra := r.app q
  unfold perm permD
  induction idx with
  | nil => exact .nil
  | cons i is ih => exact .cons (rep_getD i ra) ih
def wCallK (n m : Nat) (idx : List Nat) (F : Fs) (r rk : WA) : WE := fun ρ M Q => r ρ M fun ds M1 => rk ρ M1 fun es M2 => ds.length = n ∧ es.length = m ∧ F (permD idx ds es) M2 Q fun _ _ _ => False
theorem sim_callK {K : PySem.W.Frag} {F : Fs} {n m : Nat} {idx : List Nat} (ha : SimA K tr wr) (hk : SimA K tk wk) : SimE K (tCallGK n m idx (lift K F) E0 tr tk) (wCallK n m idx F wr wk) := by
  intro Z ρ M σ H Q Q' s h q
  refine ha Z ρ M σ H _ _ s h fun xs ds H1 M1 g1 r1 q1 => ?_
  refine hk Z ρ M1 σ H1 _ _ (s.go g1) q1 fun ys es H2 M2 g2 r2 ⟨l1, l2, q2⟩ => ⟨by rw [r1.len]; exact l1, by rw [r2.len]; exact l2, ?_⟩
  exact ⟨Z, _, M2, Q, _, g2.sat, perm_repL idx (r1.up g2.ex) r2, q2, fun v d H3 M3 g3 r3 q3 => q v d H3 M3 ((g1.trans g2).trans g3) r3 q3, fun _ _ _ _ _ _ _ _ _ _ _ _ z => z.elim⟩
variable {f : Addr} {fd : FuncData} {ps : List Str} {F : Fs} {x : Str} {p : Pos}
theorem de_callK0 {ks : List Str} {idx : List Nat} (G : FnG X.prog X.w X.K X.mg X.base k f fd ps (lift X.K F)) (hr : Room k X.A) (gd : X.A.guards = some []) (hm : X.mg x = some (.ref f)) (hk : PySem.W.keepIn X.K (.ref f) = true) (hb : KB X.K fd ps 0 ks idx)
    (hkw : DK X kws tk wk) (hg : Gl X x := by rfl) (hall : (backToKw pos (keywordEach kws X.env)).all (·.1.isSome) = true := by rfl) (hks : (backToKw pos (keywordEach kws X.env)).filterMap (·.1) = ks := by rfl)
    (hdb : (x == ("__debug__" : Str)) = false := by decide)
    (hpl : ((backTo pos (starEach [] X.env)).any (·.1) || (backToKw pos (keywordEach kws X.env)).any (·.1.isNone)) = false := by rfl) :
    DE X (.Call (.Name x p) [] kws pos) (tCallGK 0 ks.length idx (lift X.K F) E0 tNil tk) (wCallK 0 ks.length idx F wNil wk) := ⟨pe_callGK0 G hr gd hg hm hk hb passL hkw.pe hall hks hdb hpl, sim_callK sim_nil hkw.sm⟩
/-! ### places of lists, tuples, texts -/
def ixD : F2 := fun d e M Q => match d, e with
  | .str z, .int i => z.length ≤ sizeLine ∧ ∃ c, atI z.cps.toList i = some c ∧ Q (.str ⟨#[c]⟩) M
  | d, .int i => ∃ ds x, seqD M d = some ds ∧ atI ds i = some x ∧ Q x M
  | _, _ => False
theorem atI_len {α β : Type} {xs : List α} {ys : List β} {i : Int} {x : α} (h : atI xs i = some x) (l : xs.length = ys.length) : ∃ (y : β) (j : Nat), atI ys i = some y ∧ ys[j]? = some y ∧ xs[j]? = some x := by
  unfold atI at h ⊢
  rw [l] at h
  cases q : ixN ys.length i with
  | none =>
    rw [q] at h
    cases h
  | some j =>
    rw [q] at h
    have h' : xs[j]? = some x := h
    have hj : j < ys.length := by
      rw [← l]
      exact (List.getElem?_eq_some_iff.mp h').1
    exact ⟨ys[j], j, List.getElem?_eq_getElem hj, List.getElem?_eq_getElem hj, h'⟩
theorem sim_ix {K : PySem.W.Frag} : SimR K (rIx K) ixD := by
  intro Z x y d e H M Q Q' S r1 r2 f q
  unfold ixD at f
  split at f
  · cases r1
    cases r2
    obtain ⟨l, c, ha, z⟩ := f
    exact .inr (.inr ⟨_, _, c, rfl, rfl, l, ha, q _ _ H M (Go.refl S) (.str _) z⟩)
  · cases r2
    obtain ⟨ds, x', hs, ha, z⟩ := f
    obtain ⟨a, vs, rfl, hv, rl⟩ := seq_of S r1 hs
    obtain ⟨v, j, a1, a2, a3⟩ := atI_len ha rl.len.symm
    obtain ⟨v', b1, b2⟩ := rl.get a3
    rw [a2] at b1
    cases b1
    rcases hv with hv | hv
    · exact .inl ⟨a, vs, _, v, rfl, rfl, hv, a1, q _ _ H M (Go.refl S) b2 z⟩
    · exact .inr (.inl ⟨a, vs, _, v, rfl, rfl, hv, a1, q _ _ H M (Go.refl S) b2 z⟩)
  · exact f.elim
theorem de_ix (ha : DE X a ta wa) (hb : DE X b tb wb) (hs : PlainIx b := by intro _ _; rfl) : DE X (.Subscript a b pos) (tOp (rIx X.K) ta tb) (wOp ixD wa wb) := ⟨pe_ix ix_seq ha.pe hb.pe hs, sim_op ha.sm hb.sm sim_ix⟩
/-! ### slices -/
abbrev WO := En → Mp → (Option Int → Mp → Prop) → Prop
def SimO (K : PySem.W.Frag) (t : TO) (w : WO) : Prop := ∀ (Z : Hp) (ρ : En) (M : Mp) (σ : L2.St) (H : Hp) (Q : Option Int → Mp → Prop) (Q' : Option Int → Hp → Prop), R3 K Z ρ M σ H → w ρ M Q → (∀ b H' M', Go K Z H M H' M' → Q b M' → Q' b H') → t σ H Q'
structure DO (X : Cx) (e : Option Expr) (t : TO) (w : WO) : Prop where
  pe : PO X e t
  sm : SimO X.K t w
def wNoP : WO := fun _ M Q => Q none M
def wPart (w : WE) : WO := fun ρ M Q => w ρ M fun d M1 => match d with
  | .int i => Q (some i) M1
  | _ => False
theorem do_none : DO X none tNoPart wNoP := ⟨po_none, fun Z ρ M σ H Q Q' s h q => q _ H M s.refl h⟩
theorem do_some (h : DE X e te we) : DO X (some e) (tPart te) (wPart we) := by
  refine ⟨po_some h.pe, fun Z ρ M σ H Q Q' s hh q => ?_⟩
  refine h.sm Z ρ M σ H _ _ s hh fun x d H1 M1 g1 r1 q1 => ?_
  cases d with
  | int i =>
    cases r1
    exact ⟨i, rfl, q _ H1 M1 g1 q1⟩
  | _ => exact q1.elim
def cutD (xs : List D) (lo hi : Option Int) : List D := (xs.drop (HT.sIx xs.length 0 lo)).take (HT.sIx xs.length xs.length hi - HT.sIx xs.length 0 lo)
theorem cut_rep {K : PySem.W.Frag} {H : Hp} {vs : List V} {ds : List D} (r : RepL K H vs ds) (lo hi : Option Int) : RepL K H (cutV vs lo hi) (cutD ds lo hi) := by
  unfold cutV cutD
  rw [r.len]
  exact (r.drop _).take _
def slD : D → Option Int → Option Int → Mp → KD → Prop := fun d lo hi M Q => match d with
  | .tup ds => Q (.tup (cutD ds lo hi)) M
  | .str z => z.length ≤ sizeLine ∧ Q (.str (cutS z lo hi)) M
  | d => ∃ ds, (∃ a, d = .tok a ∨ d = .lst ds) ∧ seqD M d = some ds ∧ Q (.lst (cutD ds lo hi)) M
def rSlU (K : PySem.W.Frag) : V → Option Int → Option Int → Hp → VK → Prop := fun x lo hi H Q => rSlL K x lo hi H Q ∨ rSlA K x lo hi H Q ∨ rSlS x lo hi H Q
theorem sl_any : SlR X (rSlU X.K) := sl_list.or (sl_tupA.or sl_str)
def wSl (w : WE) (wl wh : WO) : WE := fun ρ M Q => w ρ M fun d M1 => wl ρ M1 fun l M2 => wh ρ M2 fun u M3 => slD d l u M3 Q
theorem sim_sl {K : PySem.W.Frag} {tl th : TO} {wl wh : WO} (h : SimE K te we) (hl : SimO K tl wl) (hh : SimO K th wh) : SimE K (tSl (rSlU K) te tl th) (wSl we wl wh) := by
  intro Z ρ M σ H Q Q' s hw q
  refine h Z ρ M σ H _ _ s hw fun x d H1 M1 g1 r1 q1 => ?_
  refine hl Z ρ M1 σ H1 _ _ (s.go g1) q1 fun lo H2 M2 g2 q2 => ?_
  refine hh Z ρ M2 σ H2 _ _ (s.go (g1.trans g2)) q2 fun hi H3 M3 g3 q3 => ?_
  have g := (g1.trans g2).trans g3
  have r3 := (r1.up g2.ex).up g3.ex
  unfold slD at q3
  split at q3
  · rename_i ds
    cases r3 with
    | @tup a vs _ hs rl =>
      refine .inr (.inl ⟨a, vs, rfl, sqt_mono fz_sub hs, fun ⟨e1, e2⟩ => ?_, fun _ p hp => ?_⟩)
      · have e : cutD ds lo hi = ds := by
          unfold cutD
          rw [← rl.len, e1, e2, Nat.sub_zero, List.drop_zero, rl.len, List.take_length]
        rw [e] at q3
        exact q _ _ H3 M3 g (.tup hs rl) q3
      · obtain ⟨g4, n⟩ := Go.laid (o := .tup (cutV vs lo hi)) g3.sat hp
        exact q _ _ _ _ (g.trans g4) (.tup (.inl (.inl n)) ((cut_rep rl lo hi).up g4.ex)) q3
  · rename_i z
    cases r3
    exact .inr (.inr ⟨z, rfl, q3.1, q _ _ H3 M3 g (.str _) q3.2⟩)
  · obtain ⟨ds, hd, hs, z⟩ := q3
    obtain ⟨a, vs, rfl, ha, rl⟩ := lst_of g3.sat r3 hd hs
    refine .inl ⟨a, vs, rfl, ha, fun p hp => ?_⟩
    obtain ⟨g4, n⟩ := Go.laid (o := .lst (cutV vs lo hi)) g3.sat hp
    exact q _ _ _ _ (g.trans g4) (.lst (.inl (.inl n)) ((cut_rep rl lo hi).up g4.ex)) z
theorem de_slice {lo hi : Option Expr} {tl th : TO} {wl wh : WO} {p2 : Pos} (he : DE X e te we) (hl : DO X lo tl wl) (hu : DO X hi th wh) : DE X (.Subscript e (.Slice lo hi none p2) pos) (tSl (rSlU X.K) te tl th) (wSl we wl wh) := ⟨pe_slice sl_any he.pe hl.pe hu.pe, sim_sl he.sm hl.sm hu.sm⟩
end
end L3
namespace L3
open PySem L2
section
variable {X : Cx} {E : WX3} {e a b c : Expr} {es : List Expr} {t ta tb tc te : TE} {w wa wb wc we : WE} {pos : Pos} {k : Nat} {tr : TA} {wr : WA} {st : Stmt} {rest : List Stmt} {ts tu : TS} {ws wu : WS} {tA : TT} {wA : WT}
/-! ### truth of any value -/
/-! ### blocks and small statements -/
def wNext : WS := fun D ρ M => D.nx ρ M
def wSeq (w u : WS) : WS := fun D ρ M => w { D with nx := u D } ρ M
theorem sim_seq {K : PySem.W.Frag} (h1 : SimS K E ts ws) (h2 : SimS K E tu wu) : SimS K E (tSeq ts tu) (wSeq ws wu) := by
  intro Z D3 ρ M σ H D r h en
  refine h1 Z _ ρ M σ H _ r h ⟨fun ρ' M' σ' H' r' g n => ?_, en.rt, en.bk, en.ct, en.xr⟩
  exact h2 Z D3 ρ' M' σ' H' D r' n (en.go g)
theorem dss_nil : DSs X E [] tNext wNext := ⟨pss_nil, fun Z D3 ρ M σ H D r h en => en.nx ρ M σ H r r.refl h⟩
theorem dss_cons (h1 : DS X E st ts ws) (h2 : DSs X E rest tu wu) : DSs X E (st :: rest) (tSeq ts tu) (wSeq ws wu) := ⟨pss_cons h1.pe h2.pe, sim_seq h1.sm h2.sm⟩
theorem dss_one (h1 : DS X E st ts ws) : DSs X E [st] ts ws := ⟨pss_one h1.pe, h1.sm⟩
def wDrop (w : WE) : WS := fun D ρ M => w ρ M fun _ M1 => D.nx ρ M1
theorem ds_expr (he : DE X e te we) (hs : swapsWith e none pos.line X.env = pure false := by rfl) : DS X E (.Expr e pos) (tDrop te) (wDrop we) :=
  ⟨ps_expr he.pe hs, fun Z D3 ρ M σ H D r h en => he.sm Z ρ M σ H _ _ r h fun v d H1 M1 g r1 q => en.nx ρ M1 σ H1 (r.go g) g q⟩
def wRet (w : WE) : WS := fun D ρ M => w ρ M D.rt
theorem ds_ret (he : DE X e te we) : DS X E (.Return (some e) pos) (tRet te) (wRet we) := ⟨ps_ret he.pe, fun Z D3 ρ M σ H D r h en => he.sm Z ρ M σ H _ _ r h fun v d H1 M1 g r1 q => en.rt v d H1 M1 g r1 q⟩
def wRetN : WS := fun D _ M => D.rt .non M
def wIfS (c : WT) (w u : WS) : WS := fun D ρ M => c ρ M fun b M1 => if b = true then w D ρ M1 else u D ρ M1
theorem ds_if {c : Expr} {p q : List Stmt} (hc : DT X c tA wA) (hp : DSs X E p ts ws) (hq : DSs X E q tu wu) : DS X E (.If c p q pos) (tIfS tA ts tu) (wIfS wA ws wu) := by
  refine ⟨ps_if hc.pe hp.pe hq.pe, fun Z D3 ρ M σ H D r h en => hc.sm Z ρ M σ H _ _ r h fun b H1 M1 g z => ?_⟩
  cases b with
  | true => exact hp.sm Z D3 ρ M1 σ H1 D (r.go g) z (en.go g)
  | false => exact hq.sm Z D3 ρ M1 σ H1 D (r.go g) z (en.go g)
/-! ### targets -/
abbrev WG := D → En → Mp → (En → Mp → Prop) → Prop
abbrev WGs := List D → En → Mp → (En → Mp → Prop) → Prop
def SimG (K : PySem.W.Frag) (t : TG) (w : WG) : Prop := ∀ (Z : Hp) (v : V) (d : D) (ρ : En) (M : Mp) (σ : L2.St) (H : Hp) (Q : En → Mp → Prop) (Q' : L2.St → Hp → Prop), R3 K Z ρ M σ H → Rep K (fz Z H M) v d → w d ρ M Q → (∀ ρ' M' σ' H', R3 K Z ρ' M' σ' H' → Go K Z H M H' M' → Q ρ' M' → Q' σ' H') → t v σ H Q'
def SimGs (K : PySem.W.Frag) (t : TGs) (w : WGs) : Prop := ∀ (Z : Hp) (v : List V) (d : List D) (ρ : En) (M : Mp) (σ : L2.St) (H : Hp) (Q : En → Mp → Prop) (Q' : L2.St → Hp → Prop), R3 K Z ρ M σ H → RepL K (fz Z H M) v d → w d ρ M Q → (∀ ρ' M' σ' H', R3 K Z ρ' M' σ' H' → Go K Z H M H' M' → Q ρ' M' → Q' σ' H') → t v σ H Q'
structure DG (X : Cx) (e : Expr) (t : TG) (w : WG) : Prop where
  pe : PG X e t
  sm : SimG X.K t w
structure DGs (X : Cx) (e : List Expr) (t : TGs) (w : WGs) : Prop where
  pe : PGs X e t
  sm : SimGs X.K t w
def wgName (i : Nat) : WG := fun d ρ M Q => Q (ρ.set i (some d)) M
theorem sim_gname {K : PySem.W.Frag} (i : Nat) : SimG K (gName i) (wgName i) := fun Z v d ρ M σ H Q Q' r rp h q => q _ M _ H ⟨r.sat, r.env.set i rp⟩ r.refl h
theorem dg_name (i : Nat) {x : Str} (hN : X.N.Nodup) (hi : X.N[i]? = some x := by rfl) (hx : Loc X.env.scope x := by first | exact .inl rfl | exact .inr rfl) (hf : X.fn x = true ∨ X.env.scope.names.lookup x = some .local := by first | exact .inl rfl | exact .inr rfl) : DG X (.Name x pos) (gName i) (wgName i) := ⟨pg_name hN hi hx hf, sim_gname i⟩
def wgNil : WGs := fun ds ρ M Q => ds = [] ∧ Q ρ M
def wgCons (w : WG) (u : WGs) : WGs := fun ds ρ M Q => match ds with
  | [] => False
  | d :: r => w d ρ M fun ρ' M' => u r ρ' M' Q
variable {tg : TG} {wg : WG} {tgs : TGs} {wgs : WGs}
theorem dgs_nil : DGs X [] gNil wgNil := ⟨pgs_nil, fun Z v d ρ M σ H Q Q' r rp h q => by
  obtain ⟨rfl, h⟩ := h
  cases rp
  exact ⟨rfl, q ρ M σ H r r.refl h⟩⟩
theorem dgs_cons (h1 : DG X e tg wg) (h2 : DGs X es tgs wgs) (hs : (assignEach (e :: es) X.env).map (·.2) = assign e X.env :: (assignEach es X.env).map (·.2) := by rfl) : DGs X (e :: es) (gCons tg tgs) (wgCons wg wgs) := by
  refine ⟨pgs_cons h1.pe h2.pe hs, fun Z v d ρ M σ H Q Q' r rp h q => ?_⟩
  cases rp with
  | nil => exact h.elim
  | cons r1 r2 =>
    refine ⟨_, _, rfl, h1.sm Z _ _ ρ M σ H _ _ r r1 h fun ρ1 M1 σ1 H1 s1 g1 z => ?_⟩
    exact h2.sm Z _ _ ρ1 M1 σ1 H1 _ _ s1 (r2.up g1.ex) z fun ρ2 M2 σ2 H2 s2 g2 z2 => q ρ2 M2 σ2 H2 s2 (g1.trans g2) z2
def wgTup (n : Nat) (w : WGs) : WG := fun d ρ M Q => match d with
  | .tup ds => ds.length = n ∧ w ds ρ M Q
  | _ => False
theorem sim_gtup {K : PySem.W.Frag} {n : Nat} (h : SimGs K tgs wgs) : SimG K (gTup K n tgs) (wgTup n wgs) := by
  intro Z v d ρ M σ H Q Q' r rp hw q
  cases d with
  | tup ds =>
    cases rp with
    | tup hs rl => exact ⟨_, _, rfl, sqt_mono fz_sub hs, by rw [rl.len]; exact hw.1, h Z _ _ ρ M σ H _ _ r rl hw.2 q⟩
  | _ => exact hw.elim
theorem dg_tup {es : List Expr} {k : Nat} {n : Nat} (hc : X.calm = true) (h : DGs X es tgs wgs) (hn : (assignEach es X.env).length = n := by rfl) (hst : (assignEach es X.env).findIdx? (·.1) = none := by rfl) : DG X (.Tuple es k pos) (gTup X.K n tgs) (wgTup n wgs) := ⟨pg_tup hc h.pe hn hst, sim_gtup h.sm⟩
/-- o[i] = v of a list of the store -/
def setD (o i v : D) (M : Mp) (Q : Mp → Prop) : Prop := match o, i with
  | .tok a, .int n => ∃ ds j, M a = some (.lst ds) ∧ ixN ds.length n = some j ∧ Q (setM M a (.lst (ds.set j v)))
  | _, _ => False
def wgSub (wo wi : WE) : WG := fun d ρ M Q => wo ρ M fun o M1 => wi ρ M1 fun i M2 => setD o i d M2 fun M3 => Q ρ M3
theorem dg_sub {o i : Expr} {to ti : TE} {wo wi : WE} (ho : DE X o to wo) (hi : DE X i ti wi) (ha : ∀ v, assign (.Subscript o i pos) X.env v = (do
      let ov ← holding [v] (eval o X.env)
      let iv ← holding [v, ov] (eval i X.env)
      standAt pos
      holding [v, ov, iv] (setItem ov iv v)
      release [v, ov, iv] []) := by intro _; rfl) : DG X (.Subscript o i pos) (gSub to ti rSetL) (wgSub wo wi) := by
  refine ⟨pg_sub ho.pe hi.pe set_list ha, fun Z v d ρ M σ H Q Q' r rp hw q => ?_⟩
  refine ho.sm Z ρ M σ H _ _ r hw fun x d1 H1 M1 g1 r1 q1 => ?_
  refine hi.sm Z ρ M1 σ H1 _ _ (r.go g1) q1 fun y d2 H2 M2 g2 r2 q2 => ?_
  unfold setD at q2
  split at q2
  · rename_i a n
    obtain ⟨ds, j, hm, hj, z⟩ := q2
    have r1' := r1.up g2.ex
    cases r1'
    cases r2
    obtain ⟨vs, e1, rl⟩ := g2.sat.cell a _ hm
    have g3 := Go.putL (p := a) g2.sat (.inr ⟨ds, hm⟩) (RepL.set ((rp.up g1.ex).up g2.ex) j rl)
    exact ⟨a, vs, n, j, rfl, rfl, e1, by rw [rl.len]; exact hj, q ρ _ σ _ (r.go ((g1.trans g2).trans g3)) ((g1.trans g2).trans g3) z⟩
  · exact q2.elim
def wAsg (w : WE) (g : WG) : WS := fun D ρ M => w ρ M fun d M1 => g d ρ M1 D.nx
theorem sim_asg {K : PySem.W.Frag} (he : SimE K te we) (hg : SimG K tg wg) : SimS K E (tAsg te tg) (wAsg we wg) := by
  intro Z D3 ρ M σ H D r h en
  refine he Z ρ M σ H _ _ r h fun v d H1 M1 g1 r1 q1 => ?_
  exact hg Z v d ρ M1 σ H1 _ _ (r.go g1) r1 q1 fun ρ2 M2 σ2 H2 s2 g2 z => en.nx ρ2 M2 σ2 H2 s2 (g1.trans g2) z
theorem ds_set (i : Nat) {x : Str} {pos' : Pos} (hN : X.N.Nodup) (he : DE X e te we) (hi : X.N[i]? = some x := by rfl) (hx : Loc X.env.scope x := by first | exact .inl rfl | exact .inr rfl) (hs : swapsWith e (some (.Name x pos')) pos.line X.env = pure false := by rfl)
    (hf : X.fn x = true ∨ X.env.scope.names.lookup x = some .local := by first | exact .inl rfl | exact .inr rfl) : DS X E (.Assign [.Name x pos'] e pos) (tAsg te (gName i)) (wAsg we (wgName i)) := ⟨ps_set hN hi hx he.pe hs hf, sim_asg he.sm (sim_gname i)⟩
theorem ds_asg {tgt : Expr} (he : DE X e te we) (hg : DG X tgt tg wg) (hs : swapsWithSole [tgt] e pos.line X.env = pure false := by rfl) (hw : swappedStores [tgt] e X.env = pure none := by rfl)
    (h1 : (assignEach [tgt] X.env).map (·.2) = [assign tgt X.env] := by rfl) : DS X E (.Assign [tgt] e pos) (tAsg te tg) (wAsg we wg) := ⟨ps_asg he.pe hg.pe hs hw h1, sim_asg he.sm hg.sm⟩
/-- a, b = x, y -/
def wPar (i j : Nat) (w : WA) : WS := fun D ρ M => w ρ M fun ds M1 => match ds with
  | [d, e] => D.nx ((ρ.set i (some d)).set j (some e)) M1
  | _ => False
theorem ds_par (i j : Nat) {x y : Str} {a b : Expr} {px py pt : Pos} {kt k2 pt2} (hc : X.calm = true) (hN : X.N.Nodup) (ha : DA X [a, b] tr wr) (hi : X.N[i]? = some x := by rfl) (hj : X.N[j]? = some y := by rfl) (hij : i ≠ j := by decide)
    (hx : X.env.scope.names.lookup x = some .local := by rfl) (hy : X.env.scope.names.lookup y = some .local := by rfl)
    (hw : swappedStores [.Tuple [.Name x px, .Name y py] kt pt] (.Tuple [a, b] k2 pt2) X.env = pure (some [x, y]) := by rfl)
    (hs : swapsWithSole [.Tuple [.Name x px, .Name y py] kt pt] (.Tuple [a, b] k2 pt2) pos.line X.env = pure false := by rfl) :
    DS X E (.Assign [.Tuple [.Name x px, .Name y py] kt pt] (.Tuple [a, b] k2 pt2) pos) (tPar i j tr) (wPar i j wr) := by
  refine ⟨ps_par hc hN hi hj hij hx hy ha.pe hw hs, fun Z D3 ρ M σ H D r h en => ?_⟩
  refine ha.sm Z ρ M σ H _ _ r h fun vs ds H1 M1 g1 r1 q1 => ?_
  cases r1 with
  | nil => exact q1.elim
  | cons r1 r2 =>
    cases r2 with
    | nil => exact q1.elim
    | cons r2 r3 =>
      cases r3 with
      | nil => exact ⟨_, _, rfl, en.nx _ M1 _ H1 ⟨g1.sat, (((r.go g1).env.set i r1).set j r2)⟩ g1 q1⟩
      | cons _ _ => exact q1.elim
def wPar3 (i j l : Nat) (w : WA) : WS := fun D ρ M => w ρ M fun ds M1 => match ds with
  | [d, e, f] => D.nx (((ρ.set i (some d)).set j (some e)).set l (some f)) M1
  | _ => False
theorem ds_par3 (i j l : Nat) {x y z : Str} {a b c : Expr} {px py pz pt : Pos} {kt k2 pt2} (hc : X.calm = true) (hN : X.N.Nodup) (ha : DA X [a, b, c] tr wr) (hi : X.N[i]? = some x := by rfl) (hj : X.N[j]? = some y := by rfl) (hl : X.N[l]? = some z := by rfl) (hij : i ≠ j := by decide) (hil : i ≠ l := by decide) (hjl : j ≠ l := by decide)
    (hx : X.env.scope.names.lookup x = some .local := by rfl) (hy : X.env.scope.names.lookup y = some .local := by rfl) (hz : X.env.scope.names.lookup z = some .local := by rfl)
    (hw : swappedStores [.Tuple [.Name x px, .Name y py, .Name z pz] kt pt] (.Tuple [a, b, c] k2 pt2) X.env = pure (some [x, y, z]) := by rfl)
    (hs : swapsWithSole [.Tuple [.Name x px, .Name y py, .Name z pz] kt pt] (.Tuple [a, b, c] k2 pt2) pos.line X.env = pure false := by rfl) :
    DS X E (.Assign [.Tuple [.Name x px, .Name y py, .Name z pz] kt pt] (.Tuple [a, b, c] k2 pt2) pos) (tPar3 i j l tr) (wPar3 i j l wr) := by
  refine ⟨ps_par3 hc hN hi hj hl hij hil hjl hx hy hz ha.pe hw hs, fun Z D3 ρ M σ H D r h en => ?_⟩
  refine ha.sm Z ρ M σ H _ _ r h fun vs ds H1 M1 g1 r1 q1 => ?_
  cases r1 with
  | nil => exact q1.elim
  | cons r1 r2 =>
    cases r2 with
    | nil => exact q1.elim
    | cons r2 r3 =>
      cases r3 with
      | nil => exact q1.elim
      | cons r3 r4 =>
        cases r4 with
        | nil => exact ⟨_, _, _, rfl, en.nx _ M1 _ H1 ⟨g1.sat, ((((r.go g1).env.set i r1).set j r2).set l r3)⟩ g1 q1⟩
        | cons _ _ => exact q1.elim
end
end L3
namespace L3
open PySem L2
section
variable {X : Cx} {E : WX3} {e a b c : Expr} {es : List Expr} {t ta tb tc te : TE} {w wa wb wc we : WE} {pos : Pos} {k : Nat} {tr : TA} {wr : WA} {st : Stmt} {rest : List Stmt} {ts tu : TS} {ws wu : WS} {tA : TT} {wA : WT} {tg : TG} {wg : WG} {tgt : Expr}
/-! ### what is walked -/
/-- the iterator yields the data ds, one by one, as long as Ok holds of the store -/
def Walks3 (K : PySem.W.Frag) (Z : Hp) (H : Hp) (M : Mp) (J : It) (ds : List D) (Ok : Mp → Prop) : Prop := ∀ (Z2 H2 : Hp) (M2 : Mp), Sat K Z2 H2 M2 → Same (fz Z H M) (fz Z2 H2 M2) → Ok M2 →
  (∀ (i : Nat) (d : D), ds[i]? = some d → J.go i H2 ∧ ∀ x H3, J.yld i H2 x H3 → Go K Z2 H2 M2 H3 M2 ∧ Rep K (fz Z2 H3 M2) x d) ∧ ∀ i, ds.length ≤ i → J.stop i H2
abbrev WI := En → Mp → (List D → (Mp → Prop) → Mp → Prop) → Prop
def SimI (K : PySem.W.Frag) (t : TI) (w : WI) : Prop := ∀ (Z : Hp) (ρ : En) (M : Mp) (σ : L2.St) (H : Hp) (R : List D → (Mp → Prop) → Mp → Prop) (R' : It → Hp → Prop), R3 K Z ρ M σ H → w ρ M R → (∀ J ds Ok H' M', Go K Z H M H' M' → Walks3 K Z H' M' J ds Ok → R ds Ok M' → R' J H') → t σ H R'
structure DI (X : Cx) (tgt e : Expr) (t : TI) (w : WI) : Prop where
  pe : PI X tgt e t
  sm : SimI X.K t w
def AnyM : Mp → Prop := fun _ => True
/-- a list, a tuple -/
def iSeq (K : PySem.W.Frag) (tl : TE) : TI := fun σ H R => tl σ H fun x J => ∃ p, x = .ref p ∧ (((∃ xs, SqL K J p xs) ∧ R (Itl K p) J) ∨ ((∃ xs, SqT K J p xs) ∧ R (Itt K p) J))
theorem pi_seq {l : Expr} {tl : TE} (hl : PE X l tl) : PI X tgt l (iSeq X.K tl) := by
  constructor
  intro pins s σ H R I h
  refine thn (hl.run pins s σ H _ I h) fun v s1 ⟨x, H1, I1, r1, p, e, q1⟩ => ?_
  subst e
  cases r1
  rcases q1 with ⟨⟨xs, hq⟩, q⟩ | ⟨⟨xs, hq⟩, q⟩
  · obtain ⟨its, rv, pl, hz⟩ := I1.list hq
    refine wpAny_pyIter_list pl.isList ?_
    refine ⟨s1.heap.objs.size, [s1.heap.objs.size], _, _, H1, rfl, I1.kept (t' := s1.toks) fun b o e => Heap.get?_push_of_some _ e, turn_list p _, ⟨_, Heap.get?_push_size _ rfl, rfl, rfl⟩, fun b hb => ?_, q⟩
    obtain rfl : b = s1.heap.objs.size := by simpa using hb
    exact I1.fpOk (Nat.le_refl _) (I1.hok.fresh (Nat.le_refl _))
  · obtain ⟨its, rv, pl, hz⟩ := I1.tuple hq
    refine wpAny_pyIter_tuple (show s1.heap.IsTuple p its.toArray from pl) ?_
    refine ⟨s1.heap.objs.size, [s1.heap.objs.size], _, _, H1, rfl, I1.kept (t' := s1.toks) fun b o e => Heap.get?_push_of_some _ e, turn_tuple p _, ⟨_, Heap.get?_push_size _ rfl, rfl, rfl⟩, fun b hb => ?_, q⟩
    obtain rfl : b = s1.heap.objs.size := by simpa using hb
    exact I1.fpOk (Nat.le_refl _) (I1.hok.fresh (Nat.le_refl _))
def wiSeq (w : WE) : WI := fun ρ M R => w ρ M fun d M1 => match d with
  | .tup ds => R ds AnyM M1
  | .lst ds => R ds AnyM M1
  | .tok p => ∃ ds, M1 p = some (.lst ds) ∧ R ds (fun M2 => M2 p = some (.lst ds)) M1
  | _ => False
theorem walks_l {K : PySem.W.Frag} {Z H : Hp} {M : Mp} {p : Addr} {vs : List V} {ds : List D} (h : SqL K (fz Z H M) p vs) (r : RepL K (fz Z H M) vs ds) : Walks3 K Z H M (Itl K p) ds AnyM := by
  intro Z2 H2 M2 S ex _
  have hq : SqL K H2 p vs := (ex.trans fz_sub).seq h
  refine ⟨fun i d e => ?_, fun i hi => ⟨vs, hq, by rw [r.len]; exact hi⟩⟩
  obtain ⟨v, e1, rp⟩ := r.get e
  refine ⟨⟨vs, v, hq, e1⟩, fun x H3 ⟨e2, y⟩ => ?_⟩
  subst e2
  obtain rfl : x = v := Option.some.inj ((y vs hq).symm.trans e1)
  exact ⟨Go.refl S, rp.up ex⟩
theorem walks_t {K : PySem.W.Frag} {Z H : Hp} {M : Mp} {p : Addr} {vs : List V} {ds : List D} (h : SqT K (fz Z H M) p vs) (r : RepL K (fz Z H M) vs ds) : Walks3 K Z H M (Itt K p) ds AnyM := by
  intro Z2 H2 M2 S ex _
  have hq : SqT K H2 p vs := sqt_mono (ex.trans fz_sub) h
  refine ⟨fun i d e => ?_, fun i hi => ⟨vs, hq, by rw [r.len]; exact hi⟩⟩
  obtain ⟨v, e1, rp⟩ := r.get e
  refine ⟨⟨vs, v, hq, e1⟩, fun x H3 ⟨e2, y⟩ => ?_⟩
  subst e2
  obtain rfl : x = v := Option.some.inj ((y vs hq).symm.trans e1)
  exact ⟨Go.refl S, rp.up ex⟩
theorem walks_m {K : PySem.W.Frag} {Z H : Hp} {M : Mp} {p : Addr} {ds : List D} : Walks3 K Z H M (Itl K p) ds (fun M2 => M2 p = some (.lst ds)) := by
  intro Z2 H2 M2 S ex ok
  obtain ⟨vs, e0, r⟩ := S.cell p _ ok
  have hq : SqL K H2 p vs := .inl (.inl e0)
  refine ⟨fun i d e => ?_, fun i hi => ⟨vs, hq, by rw [r.len]; exact hi⟩⟩
  obtain ⟨v, e1, rp⟩ := r.get e
  refine ⟨⟨vs, v, hq, e1⟩, fun x H3 ⟨e2, y⟩ => ?_⟩
  subst e2
  have e3 := y vs hq
  obtain rfl : x = v := Option.some.inj (e3.symm.trans e1)
  exact ⟨Go.refl S, rp⟩
theorem di_seq (h : DE X e te we) : DI X tgt e (iSeq X.K te) (wiSeq we) := by
  refine ⟨pi_seq h.pe, fun Z ρ M σ H R R' s hw q => ?_⟩
  refine h.sm Z ρ M σ H _ _ s hw fun x d H1 M1 g1 r1 q1 => ?_
  cases d with
  | tup ds =>
    cases r1 with
    | tup hs rl => exact ⟨_, rfl, .inr ⟨⟨_, sqt_mono fz_sub hs⟩, q _ _ _ H1 M1 g1 (walks_t hs rl) q1⟩⟩
  | lst ds =>
    cases r1 with
    | lst hs rl => exact ⟨_, rfl, .inl ⟨⟨_, fz_sub.seq hs⟩, q _ _ _ H1 M1 g1 (walks_l hs rl) q1⟩⟩
  | tok p =>
    cases r1
    obtain ⟨ds, hm, z⟩ := q1
    obtain ⟨vs, e1, rl⟩ := g1.sat.cell p _ hm
    exact ⟨_, rfl, .inl ⟨⟨vs, .inl (.inl e1)⟩, q _ _ _ H1 M1 g1 walks_m z⟩⟩
  | _ => exact q1.elim
/-- range(n), range(a, b) -/
def intsD (lo : Int) (n : Nat) : List D := (List.range n).map fun (i : Nat) => D.int (lo + (i : Int))
theorem walks_r {K : PySem.W.Frag} {Z H : Hp} {M : Mp} (lo : Int) (n : Nat) : Walks3 K Z H M (Itr lo n) (intsD lo n) AnyM := by
  intro Z2 H2 M2 S ex _
  refine ⟨fun i d e => ?_, fun i hi => ?_⟩
  · have hi : i < n := by
      have z := (List.getElem?_eq_some_iff.mp e).1
      unfold intsD at z
      rw [List.length_map, List.length_range] at z
      exact z
    have ed : d = .int (lo + (i : Int)) := by
      unfold intsD at e
      rw [List.getElem?_map, List.getElem?_range hi] at e
      exact (Option.some.inj e).symm
    subst ed
    refine ⟨hi, fun x H3 ⟨e1, e2⟩ => ?_⟩
    subst e1
    subst e2
    exact ⟨Go.refl S, .int _⟩
  · unfold intsD at hi
    rw [List.length_map, List.length_range] at hi
    exact hi
def wiRange1 (w : WA) : WI := fun ρ M R => w ρ M fun ds M1 => match ds with
  | [.int j] => j < 2 ^ 62 ∧ -(2 ^ 62) ≤ j ∧ R (intsD 0 j.toNat) AnyM M1
  | _ => False
theorem di_range1 {p : Pos} (hm : X.mg "range" = none) (ha : DA X [a] tr wr) (hg : Gl X "range" := by rfl) (hs : starEach [a] X.env = [(false, eval a X.env)] := by rfl) : DI X tgt (.Call (.Name "range" p) [a] [] pos) (iRng1 tr) (wiRange1 wr) := by
  refine ⟨pi_range1 hg hm ha.pe hs, fun Z ρ M σ H R R' s hw q => ?_⟩
  refine ha.sm Z ρ M σ H _ _ s hw fun xs ds H1 M1 g1 r1 q1 => ?_
  unfold wiRange1 at hw
  split at q1
  · cases r1 with
    | cons r1 r2 =>
      cases r1
      cases r2
      exact ⟨_, rfl, q1.2.1, q1.1, q _ _ _ H1 M1 g1 (walks_r _ _) q1.2.2⟩
  · exact q1.elim
/-! ### for -/
def wLoop (g : WG) (wb : WS) (Ok : Mp → Prop) (D3 : Ends3) : List D → En → Mp → Prop
  | [], ρ, M => Ok M ∧ D3.nx ρ M
  | d :: ds, ρ, M => Ok M ∧ g d ρ M fun ρ1 M1 => wb { D3 with nx := wLoop g wb Ok D3 ds, ct := wLoop g wb Ok D3 ds, bk := D3.nx } ρ1 M1
def wFor (wi : WI) (g : WG) (wb : WS) : WS := fun D3 ρ M => wi ρ M fun ds Ok M1 => wLoop g wb Ok D3 ds ρ M1
theorem sim_for {ti : TI} {wi : WI} (K : PySem.W.Frag) (hi : SimI K ti wi) (hg : SimG K tg wg) (hb : SimS K E ts ws) : SimS K E (tFor ti tg ts) (wFor wi wg ws) := by
  intro Z D3 ρ M σ H D r h en
  refine hi Z ρ M σ H _ _ r h fun J ds Ok H1 M1 g1 wk q1 => ?_
  refine ⟨fun i m σ' H' => m + i = ds.length ∧ ∃ ρ' M', R3 K Z ρ' M' σ' H' ∧ Go K Z H1 M1 H' M' ∧ wLoop wg ws Ok D3 (ds.drop i) ρ' M', ⟨ds.length, rfl, ρ, M1, r.go g1, Go.refl g1.sat, q1⟩, fun i m σ' H' ⟨em, ρ', M', r', g', l⟩ => ?_⟩
  by_cases hlt : i < ds.length
  · have e : ds.drop i = ds[i] :: ds.drop (i + 1) := List.drop_eq_getElem_cons hlt
    rw [e] at l
    obtain ⟨ok, l⟩ := l
    obtain ⟨go, yl⟩ := (wk Z H' M' g'.sat g'.ex ok).1 i ds[i] (List.getElem?_eq_getElem hlt)
    refine .inr ⟨go, fun σ2 H2 => ∃ ρ2 M2, R3 K Z ρ2 M2 σ2 H2 ∧ Go K Z H1 M1 H2 M2 ∧ wLoop wg ws Ok D3 (ds.drop (i + 1)) ρ2 M2, fun σ2 H2 ⟨ρ2, M2, r2, g2, l2⟩ => ⟨m - 1, by omega, by omega, ρ2, M2, r2, g2, l2⟩, fun x H3 hy => ?_⟩
    obtain ⟨g3, rp⟩ := yl x H3 hy
    refine hg Z x _ ρ' M' σ' H3 _ _ (r'.go g3) rp l fun ρ4 M4 σ4 H4 r4 g4 z => ?_
    have g14 := (g'.trans g3).trans g4
    refine hb Z _ ρ4 M4 σ4 H4 _ r4 z ⟨fun ρ5 M5 σ5 H5 r5 g5 z5 => ⟨ρ5, M5, r5, g14.trans g5, z5⟩, fun v d H5 M5 g5 rp5 z5 => en.rt v d H5 M5 ((g1.trans g14).trans g5) rp5 z5,
      fun ρ5 M5 σ5 H5 r5 g5 z5 => en.nx ρ5 M5 σ5 H5 r5 ((g1.trans g14).trans g5) z5, fun ρ5 M5 σ5 H5 r5 g5 z5 => ⟨ρ5, M5, r5, g14.trans g5, z5⟩, fun x C dx vs fs ρ5 σ5 H5 M5 ca5 r5 g5 e5 l5 rf5 z5 => en.xr x C dx vs fs ρ5 σ5 H5 M5 ca5 r5 ((g1.trans g14).trans g5) e5 l5 rf5 z5⟩
  · have e : ds.drop i = [] := List.drop_eq_nil_of_le (by omega)
    rw [e] at l
    exact .inl ⟨(wk Z H' M' g'.sat g'.ex l.1).2 i (by omega), en.nx ρ' M' σ' H' r' (g1.trans g') l.2⟩
theorem ds_for {ti : TI} {wi : WI} {body : List Stmt} (hp : PassesOwn (model X.prog X.w) X.A X.env X.xe) (hc : X.calm = true) (hi : DI X tgt e ti wi) (hg : DG X tgt tg wg) (hb : DSs X E body ts ws) (hs : ∀ x, foldedSetIterable e X.env x = pure x := by intro _; rfl) :
    DS X E (.For tgt e body [] pos) (tFor ti tg ts) (wFor wi wg ws) := ⟨ps_for hp hc hi.pe hg.pe hb.pe hs, sim_for X.K hi.sm hg.sm hb.sm⟩
/-! ### while -/
end
end L3
namespace L3
open PySem L2
section
variable {X : Cx} {E : WX3} {e a b c elt iter tgt : Expr} {es ifs : List Expr} {t ta tb tc te : TE} {w wa wb wc we : WE} {pos : Pos} {k : Nat} {tr : TA} {wr : WA} {tt : TT} {wt : WT} {tg : TG} {wg : WG} {ti : TI} {wi : WI}
/-! ### comprehensions -/
def wipeE (ρ : En) : List Nat → En
  | [] => ρ
  | v :: vs => (wipeE ρ vs).set v none
theorem wipe_rel {K : PySem.W.Frag} {H : Hp} {σ : L2.St} {ρ : En} (r : RelS K H σ ρ) : ∀ vs : List Nat, RelS K H (wipe σ vs) (wipeE ρ vs)
  | [] => r
  | v :: vs => by
    have ih := wipe_rel r vs
    refine ⟨by show ((wipe σ vs).set v none).length = ((wipeE ρ vs).set v none).length; rw [List.length_set, List.length_set]; exact ih.1, fun i d q => ?_⟩
    have q' : ((wipeE ρ vs).set v none)[i]? = some (some d) := q
    by_cases hi : v = i
    · subst hi
      rw [List.getElem?_set_self'] at q'
      cases z : (wipeE ρ vs)[v]? with
      | none =>
        rw [z] at q'
        cases q'
      | some o =>
        rw [z] at q'
        cases q'
    · rw [List.getElem?_set_ne hi] at q'
      obtain ⟨u, h1, h2⟩ := ih.2 i d q'
      exact ⟨u, by show ((wipe σ vs).set v none)[i]? = _; rw [List.getElem?_set_ne hi]; exact h1, h2⟩
theorem wipe_set {σ : L2.St} {j : Nat} {o : Option V} : ∀ {vs : List Nat}, j ∈ vs → wipe (σ.set j o) vs = wipe σ vs
  | v :: vs, h => by
    show (wipe (σ.set j o) vs).set v none = (wipe σ vs).set v none
    by_cases hm : j ∈ vs
    · rw [wipe_set hm]
    · have hj : j = v := (List.mem_cons.mp h).resolve_right hm
      subst hj
      have cm : ∀ (us : List Nat), wipe (σ.set j o) us = wipe σ us ∨ wipe (σ.set j o) us = (wipe σ us).set j o := fun us => by
        induction us with
        | nil => exact .inr rfl
        | cons u us ih =>
          rcases ih with h1 | h1
          · left
            show (wipe (σ.set j o) us).set u none = (wipe σ us).set u none
            rw [h1]
          · by_cases hu : u = j
            · subst hu
              left
              show (wipe (σ.set u o) us).set u none = (wipe σ us).set u none
              rw [h1, List.set_set]
            · right
              show (wipe (σ.set j o) us).set u none = ((wipe σ us).set u none).set j o
              rw [h1, List.set_comm _ _ (Ne.symm hu)]
      rcases cm vs with h1 | h1
      · rw [h1]
      · rw [h1, List.set_set]
/-- the target stores into the block's own slots alone -/
def KeepG (vs : List Nat) (tg : TG) : Prop := ∀ (v : V) (σ0 σ : L2.St) (H : Hp) (Q : L2.St → Hp → Prop), wipe σ vs = σ0 → tg v σ H Q → tg v σ H fun σ2 H2 => wipe σ2 vs = σ0 ∧ Q σ2 H2
def KeepGs (vs : List Nat) (tg : TGs) : Prop := ∀ (v : List V) (σ0 σ : L2.St) (H : Hp) (Q : L2.St → Hp → Prop), wipe σ vs = σ0 → tg v σ H Q → tg v σ H fun σ2 H2 => wipe σ2 vs = σ0 ∧ Q σ2 H2
theorem keep_name {vs : List Nat} {j : Nat} (h : j ∈ vs := by decide) : KeepG vs (gName j) := fun v σ0 σ H Q e q => ⟨by rw [wipe_set h]; exact e, q⟩
theorem keep_nil {vs : List Nat} : KeepGs vs gNil := fun v σ0 σ H Q e q => ⟨q.1, e, q.2⟩
theorem keep_cons {vs : List Nat} {t : TG} {u : TGs} (h1 : KeepG vs t) (h2 : KeepGs vs u) (mono : ∀ v σ H (Q Q' : L2.St → Hp → Prop), (∀ s J, Q s J → Q' s J) → t v σ H Q → t v σ H Q') : KeepGs vs (gCons t u) := fun v σ0 σ H Q e q => by
  obtain ⟨x, r, e1, q⟩ := q
  refine ⟨x, r, e1, ?_⟩
  exact mono x σ H _ _ (fun s J z => h2 r σ0 s J Q z.1 z.2) (h1 x σ0 σ H _ e q)
theorem keep_tup {vs : List Nat} {K : PySem.W.Frag} {n : Nat} {u : TGs} (h : KeepGs vs u) : KeepG vs (gTup K n u) := fun v σ0 σ H Q e q => by
  obtain ⟨p, xs, e1, h1, h2, q⟩ := q
  exact ⟨p, xs, e1, h1, h2, h xs σ0 σ H Q e q⟩
structure DTs (X : Cx) (ifs : List Expr) (t : TT) (w : WT) : Prop where
  pe : PTs X ifs t
  sm : SimT X.K t w
def wYes : WT := fun _ M Q => Q true M
theorem dts_nil : DTs X [] tYes wYes := ⟨pts_nil, fun Z ρ M σ H Q Q' s h q => q true H M s.refl h⟩
theorem dts_one (h : DT X e tt wt) : DTs X [e] tt wt := ⟨pts_one h.pe, h.sm⟩
def wLcL (g : WG) (wt : WT) (we : WE) (Ok : Mp → Prop) (ρ : En) : List D → List D → Mp → KD → Prop
  | [], acc, M, Q => Ok M ∧ Q (.lst acc) M
  | d :: ds, acc, M, Q => Ok M ∧ acc.length < sizeLine ∧ g d ρ M fun ρ1 M1 => wt ρ1 M1 fun b M2 => if b = true then we ρ1 M2 fun y M3 => wLcL g wt we Ok ρ ds (acc ++ [y]) M3 Q else wLcL g wt we Ok ρ ds acc M2 Q
def wLc (wi : WI) (g : WG) (wt : WT) (we : WE) (vs : List Nat) : WE := fun ρ M Q => wi ρ M fun ds Ok M1 => wLcL g wt we Ok (wipeE ρ vs) ds [] M1 Q
theorem sim_lc {K : PySem.W.Frag} {vs : List Nat} (hi : SimI K ti wi) (hg : SimG K tg wg) (ht : SimT K tt wt) (he : SimE K te we) (kp : KeepG vs tg) : SimE K (tLc ti tg tt te vs) (wLc wi wg wt we vs) := by
  intro Z ρ M σ H Q Q' r h q
  refine hi Z ρ M σ H _ _ r h fun J ds Ok H1 M1 g1 wk q1 => ?_
  intro D hD
  have m1 := g1.sat.free hD
  have z1 := g1.sat.freeZ hD
  have f1 : fz Z H1 M1 D = none := by
    rw [fz_none m1 z1]
    exact hD
  have s0 := Sat.swap (Z' := upd Z D (.lst [])) (H' := upd H1 D (.lst [])) g1.sat m1 f1 (fun b hb => upd_ne hb) (fun b hb => upd_ne hb) (fun o e => by rw [upd_same] at e ⊢; exact e)
  refine ⟨fun i m H' => m + i = ds.length ∧ ∃ (acc : List L3.D) (va : List V) (M' : Mp), Sat K (upd Z D (.lst va)) H' M' ∧ Same (fz Z H1 M1) (fz (upd Z D (.lst va)) H' M') ∧ RepL K (fz (upd Z D (.lst va)) H' M') va acc ∧ wLcL wg wt we Ok (wipeE ρ vs) (ds.drop i) acc M' Q,
    ⟨ds.length, rfl, [], [], M1, s0.1, s0.2, .nil, q1⟩, fun i m H' ⟨em, acc, va, M', S, ex, ra, l⟩ => ?_⟩
  have zd : upd Z D (.lst va) D = some (.lst va) := upd_same
  by_cases hlt : i < ds.length
  · have e : ds.drop i = ds[i] :: ds.drop (i + 1) := List.drop_eq_getElem_cons hlt
    rw [e] at l
    obtain ⟨ok, hacc, l⟩ := l
    obtain ⟨go, yl⟩ := (wk _ H' M' S ex ok).1 i ds[i] (List.getElem?_eq_getElem hlt)
    refine .inr ⟨go, fun H2 => ∃ (acc : List L3.D) (va : List V) (M' : Mp), Sat K (upd Z D (.lst va)) H2 M' ∧ Same (fz Z H1 M1) (fz (upd Z D (.lst va)) H2 M') ∧ RepL K (fz (upd Z D (.lst va)) H2 M') va acc ∧ wLcL wg wt we Ok (wipeE ρ vs) (ds.drop (i + 1)) acc M' Q,
      fun H2 z => ⟨m - 1, by omega, by omega, z⟩, fun x H3 hy => ?_⟩
    obtain ⟨g3, rp⟩ := yl x H3 hy
    have r3 : R3 K (upd Z D (.lst va)) (wipeE ρ vs) M' (wipe σ vs) H3 := ⟨g3.sat, (wipe_rel (r.env.up g1.ex) vs).up (ex.trans g3.ex)⟩
    have ww : wipe (wipe σ vs) vs = wipe σ vs := by
      have idem : ∀ us : List Nat, (∀ u ∈ us, u ∈ vs) → wipe (wipe σ us) vs = wipe σ vs := fun us => by
        induction us with
        | nil => intro _; rfl
        | cons u us ih =>
          intro hu
          show wipe ((wipe σ us).set u none) vs = _
          rw [wipe_set (hu u List.mem_cons_self)]
          exact ih fun y hy => hu y (List.mem_cons_of_mem _ hy)
      exact idem vs fun u hu => hu
    refine kp x _ _ H3 _ ww ?_
    refine hg _ x _ _ M' _ H3 _ _ r3 rp l fun ρ4 M4 σ4 H4 r4 g4 z => ?_
    refine ht _ ρ4 M4 σ4 H4 _ _ r4 z fun b H5 M5 g5 z5 => ?_
    have g35 := (g3.trans g4).trans g5
    cases b with
    | true =>
      rw [if_pos rfl] at z5 ⊢
      refine he _ ρ4 M5 σ4 H5 _ _ (r4.go g5) z5 fun y d H6 M6 g6 r6 z6 => ?_
      have g36 := g35.trans g6
      have h6 := g36.sat.zed D _ zd
      refine ⟨va, h6.1, by rw [ra.len]; exact hacc, ?_⟩
      have s6 := Sat.swap (Z' := upd Z D (.lst (va ++ [y]))) (H' := upd H6 D (.lst (va ++ [y]))) g36.sat h6.2 (fz_hid zd) (fun b hb => upd_ne hb) (fun b hb => by rw [upd_ne hb, upd_ne hb]) (fun o e => by rw [upd_same] at e ⊢; exact e)
      exact ⟨acc ++ [d], va ++ [y], M6, s6.1, (ex.trans g36.ex).trans s6.2, ((ra.up g36.ex).up s6.2).app (.cons (r6.up s6.2) .nil), z6⟩
    | false =>
      rw [if_neg Bool.false_ne_true] at z5 ⊢
      exact ⟨acc, va, M5, g35.sat, ex.trans g35.ex, ra.up g35.ex, z5⟩
  · have e : ds.drop i = [] := List.drop_eq_nil_of_le (by omega)
    rw [e] at l
    have hd := S.zed D _ zd
    have s2 := Sat.swap (Z' := Z) (H' := H') S hd.2 (fz_hid zd) (fun b hb => rfl) (fun b hb => by rw [upd_ne hb]) (fun o e => by rw [z1] at e; cases e)
    refine .inl ⟨(wk _ H' M' S ex l.1).2 i (by omega), ?_⟩
    exact q _ _ H' M' ⟨s2.1, (g1.ex.trans ex).trans s2.2⟩ (.lst (.inl (.inl (fz_to hd.2 z1 hd.1))) (ra.up s2.2)) l.2
theorem de_lc0 {scope : Scope} {own : List (Str × Nat)} (hc : X.calm = true) (hN : X.N.Nodup) (hi : DI X tgt iter ti wi) (ok : BlkOk X.N X.env.scope scope own)
    (hg : ∀ (s : Shared) (H : Hp) (C : Addr) (cl : List (Str × Addr)) (fp : List Addr), DG (X.blk s H scope (compEnvC scope cl C X.env) fp) tgt tg wg) (ht : ∀ (s : Shared) (H : Hp) (C : Addr) (cl : List (Str × Addr)) (fp : List Addr), DTs (X.blk s H scope (compEnvC scope cl C X.env) fp) ifs tt wt)
    (he : ∀ (s : Shared) (H : Hp) (C : Addr) (cl : List (Str × Addr)) (fp : List Addr), DE (X.blk s H scope (compEnvC scope cl C X.env) fp) elt te we) (kp : KeepG (own.map (·.2)) tg) (hs : ∀ x, foldedSetIterable iter X.env x = pure x := by intro _; rfl) :
    DE X (.ListComp elt [⟨tgt, iter, ifs, 0⟩] scope pos) (tLc ti tg tt te (own.map (·.2))) (wLc wi wg wt we (own.map (·.2))) :=
  ⟨pe_lc hc hN hi.pe ok (fun s H C cl fp => (hg s H C cl fp).pe) (fun s H C cl fp => (ht s H C cl fp).pe) (fun s H C cl fp => (he s H C cl fp).pe) hs, sim_lc hi.sm (hg X.s_0 X.H_0 0 [] []).sm (ht X.s_0 X.H_0 0 [] []).sm (he X.s_0 X.H_0 0 [] []).sm kp⟩
/-- name = [..] on one line -/
theorem ds_setLc0 (i : Nat) {y : Str} {py : Pos} {scope : Scope} {own : List (Str × Nat)} {spos : Pos} (hc : X.calm = true) (hN : X.N.Nodup)
    (hi : DI X tgt iter ti wi) (ok : BlkOk X.N X.env.scope scope own)
    (hg : ∀ (s : Shared) (H : Hp) (C : Addr) (cl : List (Str × Addr)) (fp : List Addr), DG (X.blk s H scope (compEnvC scope cl C X.env) fp) tgt tg wg) (ht : ∀ (s : Shared) (H : Hp) (C : Addr) (cl : List (Str × Addr)) (fp : List Addr), DTs (X.blk s H scope (compEnvC scope cl C X.env) fp) ifs tt wt)
    (he : ∀ (s : Shared) (H : Hp) (C : Addr) (cl : List (Str × Addr)) (fp : List Addr), DE (X.blk s H scope (compEnvC scope cl C X.env) fp) elt te we) (kp : KeepG (own.map (·.2)) tg)
    (hsw : swapsWith (.ListComp elt [⟨tgt, iter, ifs, 0⟩] scope pos) (some (.Name y py)) spos.line X.env = pure true) (hy : X.N[i]? = some y := by rfl) (hyl : X.env.scope.names.lookup y = some .local := by rfl) (hs : ∀ x, foldedSetIterable iter X.env x = pure x := by intro _; rfl) :
    DS X E (.Assign [.Name y py] (.ListComp elt [⟨tgt, iter, ifs, 0⟩] scope pos) spos) (tAsg (tLc ti tg tt te (own.map (·.2))) (gName i)) (wAsg (wLc wi wg wt we (own.map (·.2))) (wgName i)) :=
  ⟨ps_setLc hc hN hy hyl hsw hi.pe ok (fun s H C cl fp => (hg s H C cl fp).pe) (fun s H C cl fp => (ht s H C cl fp).pe) (fun s H C cl fp => (he s H C cl fp).pe) hs, sim_asg (sim_lc hi.sm (hg X.s_0 X.H_0 0 [] []).sm (ht X.s_0 X.H_0 0 [] []).sm (he X.s_0 X.H_0 0 [] []).sm kp) (sim_gname i)⟩
section
variable {scope : Scope} {own : List (Str × Nat)} {gF : Shared → Hp → Addr → List (Str × Addr) → List Addr → TG} {tF : Shared → Hp → Addr → List (Str × Addr) → List Addr → TT} {eF : Shared → Hp → Addr → List (Str × Addr) → List Addr → TE}
theorem de_lc (hc : X.calm = true) (hN : X.N.Nodup) (hi : DI X tgt iter ti wi) (ok : BlkOk X.N X.env.scope scope own)
    (hg : ∀ (s : Shared) (H : Hp) (C : Addr) (cl : List (Str × Addr)) (fp : List Addr), DG (X.blk s H scope (compEnvC scope cl C X.env) fp) tgt (gF s H C cl fp) wg) (ht : ∀ (s : Shared) (H : Hp) (C : Addr) (cl : List (Str × Addr)) (fp : List Addr), DTs (X.blk s H scope (compEnvC scope cl C X.env) fp) ifs (tF s H C cl fp) wt)
    (he : ∀ (s : Shared) (H : Hp) (C : Addr) (cl : List (Str × Addr)) (fp : List Addr), DE (X.blk s H scope (compEnvC scope cl C X.env) fp) elt (eF s H C cl fp) we) (kp : KeepG (own.map (·.2)) (gF X.s_0 X.H_0 0 [] [])) (hs : ∀ x, foldedSetIterable iter X.env x = pure x := by intro _; rfl)
    (qg : ∀ s H C cl fp, gF s H C cl fp = gF X.s_0 X.H_0 0 [] [] := by intros; rfl) (qt : ∀ s H C cl fp, tF s H C cl fp = tF X.s_0 X.H_0 0 [] [] := by intros; rfl) (qe : ∀ s H C cl fp, eF s H C cl fp = eF X.s_0 X.H_0 0 [] [] := by intros; rfl) :
    DE X (.ListComp elt [⟨tgt, iter, ifs, 0⟩] scope pos) (tLc ti (gF X.s_0 X.H_0 0 [] []) (tF X.s_0 X.H_0 0 [] []) (eF X.s_0 X.H_0 0 [] []) (own.map (·.2))) (wLc wi wg wt we (own.map (·.2))) :=
  de_lc0 hc hN hi ok (fun s H C cl fp => qg s H C cl fp ▸ hg s H C cl fp) (fun s H C cl fp => qt s H C cl fp ▸ ht s H C cl fp) (fun s H C cl fp => qe s H C cl fp ▸ he s H C cl fp) kp hs
theorem ds_setLc (i : Nat) {y : Str} {py : Pos} {spos : Pos} (hc : X.calm = true) (hN : X.N.Nodup) (hi : DI X tgt iter ti wi) (ok : BlkOk X.N X.env.scope scope own)
    (hg : ∀ (s : Shared) (H : Hp) (C : Addr) (cl : List (Str × Addr)) (fp : List Addr), DG (X.blk s H scope (compEnvC scope cl C X.env) fp) tgt (gF s H C cl fp) wg) (ht : ∀ (s : Shared) (H : Hp) (C : Addr) (cl : List (Str × Addr)) (fp : List Addr), DTs (X.blk s H scope (compEnvC scope cl C X.env) fp) ifs (tF s H C cl fp) wt)
    (he : ∀ (s : Shared) (H : Hp) (C : Addr) (cl : List (Str × Addr)) (fp : List Addr), DE (X.blk s H scope (compEnvC scope cl C X.env) fp) elt (eF s H C cl fp) we) (kp : KeepG (own.map (·.2)) (gF X.s_0 X.H_0 0 [] []))
    (hsw : swapsWith (.ListComp elt [⟨tgt, iter, ifs, 0⟩] scope pos) (some (.Name y py)) spos.line X.env = pure true) (hy : X.N[i]? = some y := by rfl) (hyl : X.env.scope.names.lookup y = some .local := by rfl) (hs : ∀ x, foldedSetIterable iter X.env x = pure x := by intro _; rfl)
    (qg : ∀ s H C cl fp, gF s H C cl fp = gF X.s_0 X.H_0 0 [] [] := by intros; rfl) (qt : ∀ s H C cl fp, tF s H C cl fp = tF X.s_0 X.H_0 0 [] [] := by intros; rfl) (qe : ∀ s H C cl fp, eF s H C cl fp = eF X.s_0 X.H_0 0 [] [] := by intros; rfl) :
    DS X E (.Assign [.Name y py] (.ListComp elt [⟨tgt, iter, ifs, 0⟩] scope pos) spos) (tAsg (tLc ti (gF X.s_0 X.H_0 0 [] []) (tF X.s_0 X.H_0 0 [] []) (eF X.s_0 X.H_0 0 [] []) (own.map (·.2))) (gName i)) (wAsg (wLc wi wg wt we (own.map (·.2))) (wgName i)) :=
  ds_setLc0 i hc hN hi ok (fun s H C cl fp => qg s H C cl fp ▸ hg s H C cl fp) (fun s H C cl fp => qt s H C cl fp ▸ ht s H C cl fp) (fun s H C cl fp => qe s H C cl fp ▸ he s H C cl fp) kp hsw hy hyl hs
end
/-! ### built-in functions -/
abbrev FC := List D → Mp → KD → Prop
def SimC (K : PySem.W.Frag) (r : List V → Hp → VK → Prop) (f : FC) : Prop := ∀ (Z : Hp) (xs : List V) (ds : List D) (H : Hp) (M : Mp) (Q : KD) (Q' : VK), Sat K Z H M → RepL K (fz Z H M) xs ds → f ds M Q → (∀ v d' H' M', Go K Z H M H' M' → Rep K (fz Z H' M') v d' → Q d' M' → Q' v H') → r xs H Q'
def wCB (f : FC) (r : WA) : WE := fun ρ M Q => r ρ M fun ds M1 => f ds M1 Q
theorem sim_CB {K : PySem.W.Frag} {r : List V → Hp → VK → Prop} {f : FC} (ha : SimA K tr wr) (hs : SimC K r f) : SimE K (tCB r tr) (wCB f wr) := by
  intro Z ρ M σ H Q Q' s h q
  refine ha Z ρ M σ H _ _ s h fun xs ds H1 M1 g1 r1 q1 => ?_
  exact hs Z xs ds H1 M1 Q Q' g1.sat r1 q1 fun v d H2 M2 g2 r2 q2 => q v d H2 M2 (g1.trans g2) r2 q2
theorem de_callB {x : Str} {p : Pos} {id : String} {r : List V → Hp → VK → Prop} {f : FC} (hc : CallR X (.builtin id) r) (hs : SimC X.K r f) (hm : X.mg x = none) (hv : bootBuiltins x = some (.builtin id)) (ha : DA X (e :: es) tr wr) (hg : Gl X x := by rfl) (hn : x ≠ "__name__" := by decide) (hdb : (x == ("__debug__" : Str)) = false := by decide)
    (he : starEach (e :: es) X.env = (false, eval e X.env) :: starEach es X.env := by rfl) (hpl : (backTo pos (starEach es X.env)).any (·.1) = false := by rfl) : DE X (.Call (.Name x p) (e :: es) [] pos) (tCB r tr) (wCB f wr) := ⟨pe_callB hc hg hm hv ha.pe hn hdb he hpl, sim_CB ha.sm hs⟩
theorem de_callTy {x : Str} {p : Pos} {T : String} {r : List V → Hp → VK → Prop} {f : FC} (hc : CallR X (.type T) r) (hs : SimC X.K r f) (hm : X.mg x = none) (hv : bootBuiltins x = some (.type T)) (ha : DA X (e :: es) tr wr) (hg : Gl X x := by rfl) (hn : x ≠ "__name__" := by decide) (hdb : (x == ("__debug__" : Str)) = false := by decide)
    (he : starEach (e :: es) X.env = (false, eval e X.env) :: starEach es X.env := by rfl) (hpl : (backTo pos (starEach es X.env)).any (·.1) = false := by rfl) : DE X (.Call (.Name x p) (e :: es) [] pos) (tCB r tr) (wCB f wr) := ⟨pe_callTy hc hg hm hv ha.pe hn hdb he hpl, sim_CB ha.sm hs⟩
/-- repr -/
def fRepr : FC := fun ds M Q => match ds with
  | [d] => (∃ n, n ≤ 60 ∧ shw n (res M d)) ∧ cost (res M d) ≤ 16000000 ∧ Q (.str (shown (res M d))) M
  | _ => False
theorem sim_repr {K : PySem.W.Frag} : SimC K (fun xs H Q => ∃ (x : V) (d : D) (n : Nat), xs = [x] ∧ Rep K H x d ∧ shw n d ∧ n ≤ 60 ∧ cost d ≤ 16000000 ∧ Q (.str (shown d)) H) fRepr := by
  intro Z xs ds H M Q Q' S r f q
  unfold fRepr at f
  split at f
  · cases r with
    | cons r1 r2 =>
      cases r2
      obtain ⟨⟨n, hn, hs⟩, hc, z⟩ := f
      exact ⟨_, _, n, rfl, res_rep S r1, hs, hn, hc, q _ _ H M (Go.refl S) (.str _) z⟩
  · exact f.elim
/-- len -/
def fLen : FC := fun ds M Q => match ds with
  | [.str x] => x.length ≤ sizeLine ∧ Q (.int (x.length : Int)) M
  | [d] => ∃ es, seqD M d = some es ∧ Q (.int (es.length : Int)) M
  | _ => False
def rLenA (K : PySem.W.Frag) : List V → Hp → VK → Prop := fun xs H Q => (∃ p ys, xs = [.ref p] ∧ (SqL K H p ys ∨ SqT K H p ys) ∧ Q (.int ys.length) H) ∨ ∃ z, xs = [.str z] ∧ z.length ≤ sizeLine ∧ Q (.int z.length) H
theorem call_lenA : CallR X (.builtin "len") (rLenA X.K) := call_len_seq.or call_len_str
theorem sim_len {K : PySem.W.Frag} : SimC K (rLenA K) fLen := by
  intro Z xs ds H M Q Q' S r f q
  unfold fLen at f
  split at f
  · cases r with
    | cons r1 r2 =>
      cases r2
      cases r1
      exact .inr ⟨_, rfl, f.1, q _ _ H M (Go.refl S) (.int _) f.2⟩
  · cases r with
    | cons r1 r2 =>
      cases r2
      obtain ⟨es, hs, z⟩ := f
      obtain ⟨p, vs, rfl, hv, rl⟩ := seq_of S r1 hs
      refine .inl ⟨p, vs, rfl, hv, q _ _ H M (Go.refl S) ?_ z⟩
      rw [rl.len]
      exact .int _
  · exact f.elim
/-- int(x) of an int, a bool -/
def fInt : FC := fun ds M Q => match ds with
  | [.int i] => Q (.int i) M
  | [.bl b] => Q (.int (if b then 1 else 0)) M
  | _ => False
theorem sim_int {K : PySem.W.Frag} : SimC K (fun xs H Q => (∃ i, xs = [.int i] ∧ Q (.int i) H) ∨ ∃ k, xs = [.bl k] ∧ Q (.int (if k then 1 else 0)) H) fInt := by
  intro Z xs ds H M Q Q' S r f q
  unfold fInt at f
  split at f
  · cases r with
    | cons r1 r2 =>
      cases r2
      cases r1
      exact .inl ⟨_, rfl, q _ _ H M (Go.refl S) (.int _) f⟩
  · cases r with
    | cons r1 r2 =>
      cases r2
      cases r1
      exact .inr ⟨_, rfl, q _ _ H M (Go.refl S) (.int _) f⟩
  · exact f.elim
def fAbs : FC := fun ds M Q => match ds with
  | [.int i] => Q (.int (if i < 0 then -i else i)) M
  | _ => False
theorem sim_abs {K : PySem.W.Frag} : SimC K (fun xs H Q => ∃ i, xs = [.int i] ∧ Q (.int (if i < 0 then -i else i)) H) fAbs := by
  intro Z xs ds H M Q Q' S r f q
  unfold fAbs at f
  split at f
  · cases r with
    | cons r1 r2 =>
      cases r2
      cases r1
      exact ⟨_, rfl, q _ _ H M (Go.refl S) (.int _) f⟩
  · exact f.elim
def f2I (g : Int → Int → Int) : FC := fun ds M Q => match ds with
  | [.int i, .int j] => Q (.int (g i j)) M
  | _ => False
/-- tuple(x), list(x) of a list or a tuple -/
def fTuple : FC := fun ds M Q => match ds with
  | [d] => ∃ es, seqD M d = some es ∧ Q (.tup es) M
  | _ => False
theorem sim_tuple {K : PySem.W.Frag} : SimC K (fun xs H Q => ∃ p ys, xs = [.ref p] ∧ ((SqL K H p ys ∧ ∀ l, H l = none → Q (.ref l) (upd H l (.tup ys))) ∨ (SqT K H p ys ∧ Q (.ref p) H))) fTuple := by
  intro Z xs ds H M Q Q' S r f q
  unfold fTuple at f
  split at f
  · cases r with
    | cons r1 r2 =>
      cases r2
      obtain ⟨es, hs, z⟩ := f
      cases hd : ‹D› with
      | tup us =>
        subst hd
        obtain rfl : us = es := Option.some.inj hs
        cases r1 with
        | tup h1 rl => exact ⟨_, _, rfl, .inr ⟨sqt_mono fz_sub h1, q _ _ H M (Go.refl S) (.tup h1 rl) z⟩⟩
      | lst us =>
        subst hd
        obtain ⟨p, vs, rfl, hv, rl⟩ := lst_of S r1 ⟨0, .inr (by obtain rfl : us = es := Option.some.inj hs; rfl)⟩ hs
        refine ⟨p, vs, rfl, .inl ⟨hv, fun l hl => ?_⟩⟩
        obtain ⟨g, n⟩ := Go.laid (o := .tup vs) S hl
        exact q _ _ _ _ g (.tup (.inl (.inl n)) (rl.up g.ex)) z
      | tok p0 =>
        subst hd
        obtain ⟨p, vs, rfl, hv, rl⟩ := lst_of S r1 ⟨p0, .inl rfl⟩ hs
        refine ⟨p, vs, rfl, .inl ⟨hv, fun l hl => ?_⟩⟩
        obtain ⟨g, n⟩ := Go.laid (o := .tup vs) S hl
        exact q _ _ _ _ g (.tup (.inl (.inl n)) (rl.up g.ex)) z
      | non => subst hd; cases hs
      | bl _ => subst hd; cases hs
      | int _ => subst hd; cases hs
      | str _ => subst hd; cases hs
      | ty _ => subst hd; cases hs
      | exc _ _ _ _ _ => subst hd; cases hs
      | tpl us =>
        subst hd
        obtain rfl : us = es := Option.some.inj hs
        cases r1 with
        | tpl h1 h2 rl => exact ⟨_, _, rfl, .inr ⟨.inl (.inr ⟨_, fz_sub _ _ h1⟩), q _ _ H M (Go.refl S) (.tup (.inl (.inr ⟨_, h1⟩)) rl) z⟩⟩
      | dct _ _ => subst hd; cases hs
  · exact f.elim
def rListA (K : PySem.W.Frag) : List V → Hp → VK → Prop := fun xs H Q => ∃ p ys, xs = [.ref p] ∧ (SqL K H p ys ∨ SqT K H p ys) ∧ ∀ l, H l = none → Q (.ref l) (upd H l (.lst ys))
def fListM : FC := fun ds M Q => match ds with
  | [d] => ∃ es, seqD M d = some es ∧ ∀ p, M p = none → Q (.tok p) (setM M p (.lst es))
  | _ => False
theorem sim_listM {K : PySem.W.Frag} : SimC K (rListA K) fListM := by
  intro Z xs ds H M Q Q' S r f q
  unfold fListM at f
  split at f
  · cases r with
    | cons r1 r2 =>
      cases r2
      obtain ⟨es, hs, z⟩ := f
      obtain ⟨p, vs, rfl, hv, rl⟩ := seq_of S r1 hs
      refine ⟨p, vs, rfl, hv, fun l hl => ?_⟩
      exact q _ _ _ _ (Go.putL S (.inl hl) rl) (.tok l) (z l (S.free hl))
  · exact f.elim
def fBls (g : List Bool → Bool) : FC := fun ds M Q => match ds with
  | [d] => ∃ ns : List Bool, (∃ a, d = .tok a ∨ d = .lst (ns.map .bl)) ∧ seqD M d = some (ns.map .bl) ∧ Q (.bl (g ns)) M
  | _ => False
theorem sim_any {K : PySem.W.Frag} : SimC K (rAny K) (fBls fun bs => bs.any id) := by
  intro Z xs ds H M Q Q' S r f q
  unfold fBls at f
  split at f
  · cases r with
    | cons r1 r2 =>
      cases r2
      obtain ⟨ns, hd, hs, z⟩ := f
      obtain ⟨p, vs, rfl, hv, rl⟩ := lst_of S r1 hd hs
      obtain rfl := rl.bls
      exact ⟨p, ns, rfl, hv, q _ _ H M (Go.refl S) (.bl _) z⟩
  · exact f.elim
/-- sorted of a list of ints -/
def fSorted : FC := fun ds M Q => match ds with
  | [d] => ∃ ns : List Int, (∃ a, d = .tok a ∨ d = .lst (ns.map .int)) ∧ seqD M d = some (ns.map .int) ∧ ns.length < 64 ∧ ∀ ms : List Int, ms.Perm ns → ms.Pairwise (· ≤ ·) → Q (.lst (ms.map .int)) M
  | _ => False
theorem sim_sorted {K : PySem.W.Frag} : SimC K (rSorted K) fSorted := by
  intro Z xs ds H M Q Q' S r f q
  unfold fSorted at f
  split at f
  · cases r with
    | cons r1 r2 =>
      cases r2
      obtain ⟨ns, hd, hs, hl, z⟩ := f
      obtain ⟨p, vs, rfl, hv, rl⟩ := lst_of S r1 hd hs
      obtain rfl := rl.ints
      refine ⟨p, ns, rfl, hv, hl, fun ms l h1 h2 hl => ?_⟩
      obtain ⟨g, n⟩ := Go.laid (o := .lst (ms.map V.int)) S hl
      exact q _ _ _ _ g (.lst (.inl (.inl n)) (.ofInts ms)) (z ms h1 h2)
  · exact f.elim
end
end L3
namespace L3
open PySem L2
/-! ### the law's own call -/
theorem law_g {P : Program} {w : World} {K : PySem.W.Frag} {mg mb : Str → Option Value} {k : Nat} {fa a : Addr} {fd : FuncData} {x : Str} {sp : Sp} {s1 : Shared} {vs : List Value} {ns : List Int}
    (KX : K.In s1.heap) (hns : s1.heap.Ns mainGlobals mg) (hb : s1.heap.Ns builtinsNs mb) (hbb : ∀ x : Str, x ≠ "__name__" → mb x = bootBuiltins x) (hlim : s1.heap.NoLimit) (hg : s1.gens = #[])
    (ha : s1.heap.get? a = some { cls := .type "list", data := .seq vs.toArray }) (hi : PyProof.Rows.IntsAre vs ns) (hl : ns.length ≤ sizeLine) (hr : Room k callerA)
    (F : ∀ base : Heap, K.In base → base.Ns mainGlobals mg → FnG P w K mg base k fa fd [x] sp) (hbind : ∀ (s : Shared) (u : Value), BindsTo s fd ⟨[u], []⟩ [(x, u)])
    (hsp : ∀ H : Hp, SqL K H a (ns.map V.int) → sp [.ref a] H (fun v _ => v = .bl true) fun _ _ _ => False) :
    codeAny (model P w) callerA (.call (.ref fa) ⟨[.ref a], []⟩) (fun r s' => r = .ok (.ret (.bool true)) ∧ OldK s1.heap s'.heap ∧ s'.os = s1.os ∧ PyProof.Rows.AllBare s'.gens) s1 := by
  have vals := vals_ints hi
  have hlen := hi.length
  have main : ∀ H : Hp, Only H → SqL K H a (ns.map V.int) → HOk P w H s1.heap → (∀ b, H b ≠ none → b = a) → (H a ≠ none → K.lookup a = none) →
      codeAny (model P w) callerA (.call (.ref fa) ⟨[.ref a], []⟩) (fun r s' => r = .ok (.ret (.bool true)) ∧ OldK s1.heap s'.heap ∧ s'.os = s1.os ∧ PyProof.Rows.AllBare s'.gens) s1 := by
    intro H only sq hok hA hK
    have eqa : ∀ {b : Addr} {u : HO}, H b = some u → b = a := fun {b u} q => hA b (by rw [q]; exact fun z => nomatch z)
    have free : ∀ {b : Addr} {o : Obj}, s1.heap.get? b = some o → o ≠ { cls := .type "list", data := .seq vs.toArray } → H b = none := fun {b o} e d => by
      cases q : H b with
      | none => rfl
      | some u =>
        have e' := eqa q
        subst e'
        rw [ha] at e
        exact absurd (Option.some.inj e).symm d
    have nsK : ∀ {b : Addr} {m : Str → Option Value}, s1.heap.Ns b m → (hidT s1.heap H).Ns b m := fun {b m} ⟨o, es, ep, e, d, r⟩ =>
      ⟨o, es, ep, hidT_get e (free e fun z => by rw [z] at d; exact nomatch d), d, r⟩
    have kin : K.In (hidT s1.heap H) := fun b o e => hidT_get (KX b o e) (by
      cases q : H b with
      | none => rfl
      | some u =>
        have e' := eqa q
        subst e'
        rw [hK (by rw [q]; exact fun z => nomatch z)] at e
        exact nomatch e)
    have md : Mod K mg (hidT s1.heap H) := ⟨kin, nsK hns, ⟨mb, nsK hb, hbb⟩, hlim.elim fun mc h => ⟨mc, nsK h.1, h.2⟩⟩
    have e0 : Env0 P w K mg (hidT s1.heap H) callerA [] s1 H := ⟨rfl, md, fun b o e => of_hidT e, Nat.le_of_eq (hidT_size _ _), trivial, fun b z => absurd z List.not_mem_nil, hok, .of_eq hg⟩
    refine codeAny_mono ((F _ kin (nsK hns)).run callerA [] s1 H ⟨[.ref a], []⟩ [.ref a] [.ref a] _ _ rfl hr e0 (hbind s1 (.ref a)) (.cons rfl .nil) (hsp H sq)) fun r s' h => ?_
    cases r with
    | error e =>
      obtain ⟨_, _, _, _, _, _, _, _, _, _, _, _, z⟩ := h
      exact z.elim
    | ok fl =>
      cases fl with
      | next => exact h.elim
      | brk => exact h.elim
      | cont => exact h.elim
      | ret u =>
        obtain ⟨v, H', os, bare, un, hok', rv, q⟩ := h
        subst q
        obtain rfl : u = Value.bool true := rv
        refine ⟨rfl, OldK.of_keep fun b o e => ?_, os, bare⟩
        cases q : H b with
        | none => exact un.keep b o e q List.not_mem_nil List.not_mem_nil
        | some u =>
          rcases only b with z | ⟨ob, xs, z⟩
          · rw [q] at z
            exact nomatch z
          · have e1 := (hok b _ z).1
            have e2 := (hok' b _ (un.frzs b ob _ z)).1
            rw [e] at e1
            rw [Option.some.inj e1]
            exact e2
  cases hk : K.lookup a with
  | some o =>
    have e := KX a o hk
    rw [ha] at e
    cases e
    exact main (fun _ => none) (fun _ => .inl rfl) (.inr ⟨_, vs.toArray, _, hk, rfl, rfl, rfl, by rw [List.size_toArray, hlen]; exact hl, by simpa using vals⟩) (fun _ _ z => nomatch z) (fun _ z => absurd rfl z) fun z => absurd rfl z
  | none =>
    refine main (fun b => if b = a then some (.frz { cls := .type "list", data := .seq vs.toArray } (.lst (ns.map V.int))) else none) (fun b => ?_) (.inl (.inr ⟨{ cls := .type "list", data := .seq vs.toArray }, if_pos rfl⟩)) (fun b u z => ?_) (fun b z => ?_) fun _ => hk
    · rcases Decidable.em (b = a) with e | e
      · exact .inr ⟨_, _, if_pos e⟩
      · exact .inl (if_neg e)
    · rcases Decidable.em (b = a) with e | e
      · have z' := (if_pos e).symm.trans z
        cases z'
        rw [e]
        exact ⟨ha, by rw [List.length_map]; exact hl, vs, _, vals, ha⟩
      · have z' := (if_neg e).symm.trans z
        cases z'
    · rcases Decidable.em (b = a) with e | e
      · exact e
      · exact absurd (if_neg e) z
theorem walk_g {l : PySem.W.OpenLaw} {n k : Nat} {q : Program} {loose : List Str} {XP : (Str → Option Value) → Heap → Prop} {YP : World → Heap → Prop} {d : DefRec} {K : Params → PySem.W.Frag} {sp : World → Sp} {x : Str}
    (hn : l.most = some n) (hn2 : n ≤ sizeLine) (hdf : d.params.defaults = []) (hr : Room k callerA) (hY : ∀ (w : World) (h : Heap), YP w h → (K w.params).In h)
    (F : ∀ (w : World) (mg : Str → Option Value) (fa : Addr) (h : Heap), (K w.params).In h → h.Ns mainGlobals mg → mg d.name = some (.ref fa) →
      ∃ fd : FuncData, (∀ (s : Shared) (u : Value), BindsTo s fd ⟨[u], []⟩ [(x, u)]) ∧ ∀ base : Heap, (K w.params).In base → base.Ns mainGlobals mg → FnG l.prog w (K w.params) mg base k fa fd [x] (sp w))
    (hsp : ∀ (w : World) (H : Hp) (a : Addr) (ns : List Int), ns.length ≤ n → SqL (K w.params) H a (ns.map V.int) → sp w [.ref a] H (fun v _ => v = .bl true) fun _ _ _ => False) :
    PySem.W.WalkO q loose XP YP l.row.toRowW d [] (fun f vs => PySem.call f vs) := by
  refine Att.attach_call hn hdf fun w s0 s1 mg mb fa o pm cd doc a vs ns G Y ho hd hcd hmg hobj hints hlen hg => ?_
  obtain ⟨fd, hb, hF⟩ := F w mg fa _ (hY w _ Y) G.T.g hmg
  exact law_g (hY w _ Y) G.T.g G.T.b G.T.builtins G.T.nolimit hg hobj hints (Nat.le_trans hlen hn2) hr hF hb fun H hS => hsp w H a ns hlen hS
/-! ### a def of the text with its contract -/
structure Has (P : Program) (w : World) (K : PySem.W.Frag) (mg : Str → Option Value) (base : Heap) (k : Nat) (x : Str) (st : Stmt) (ps : List Str) (F : Fs) : Prop where
  ex : ∃ (f : Addr) (fd : FuncData), FnG P w K mg base k f fd ps (lift K F) ∧ mg x = some (.ref f) ∧ Fun K x x st f fd ∧ Binds K fd ps []
section
variable {X : Cx} {E : WX3} {e a b c : Expr} {es : List Expr} {t ta tb tc te : TE} {w wa wb wc we : WE} {pos p : Pos} {k : Nat} {tr tk : TA} {wr wk : WA} {x : Str} {st : Stmt} {ps : List Str} {F : Fs} {kws : List Keyword}
theorem de_h (h : Has X.prog X.w X.K X.mg X.base k x st ps F) (hr : Room k X.A) (gd : X.A.guards = some []) (ha : DA X (e :: es) tr wr) (hg : Gl X x := by rfl) (hdb : (x == ("__debug__" : Str)) = false := by decide)
    (he : starEach (e :: es) X.env = (false, eval e X.env) :: starEach es X.env := by rfl) (hpl : (backTo pos (starEach es X.env)).any (·.1) = false := by rfl) : DE X (.Call (.Name x p) (e :: es) [] pos) (tCallG (lift X.K F) [] E0 tr) (wCall F wr) := by
  obtain ⟨f, fd, G, hm, Fn, hb⟩ := h.ex
  exact de_call G hr gd hm Fn.kp hb ha hg hdb he hpl
/-- how a call with keywords binds: shown by «fun _ _ _ _ _ _ us ws h1 h2 => match us, ws, h1, h2 with | [_], [_, _], _, _ => rfl» -/
def Kw (x : Str) (st : Stmt) (ps : List Str) (n : Nat) (ks : List Str) (idx : List Nat) : Prop := ∀ (kV doc pm : Value) (an : Option Addr) (cdv ct : Value) (us ws : List Value), us.length = n → ws.length = ks.length →
  bindArgs (PySem.W.fnOf x x (defArgs st) (defBody st) (defScope st) .none kV doc pm an cdv ct) ⟨us, ks.zip ws⟩ = pure (ps.zip (permU idx us ws))
theorem kb_of {K : PySem.W.Frag} {f : Addr} {fd : FuncData} {n : Nat} {ks : List Str} {idx : List Nat} (Fn : Fun K x x st f fd) (h : Kw x st ps n ks idx) : KB K fd ps n ks idx := by
  obtain ⟨oc, od, kV, doc, pm, an, cdv, ct, osl, rfl, lk, hcd⟩ := Fn.ex
  exact fun s us ws _ h1 h2 => .of_eq (h kV doc pm an cdv ct us ws h1 h2)
theorem de_hk0 {ks : List Str} {idx : List Nat} (h : Has X.prog X.w X.K X.mg X.base k x st ps F) (hr : Room k X.A) (gd : X.A.guards = some []) (kb : Kw x st ps 0 ks idx) (hkw : DK X kws tk wk) (hg : Gl X x := by rfl)
    (hall : (backToKw pos (keywordEach kws X.env)).all (·.1.isSome) = true := by rfl) (hks : (backToKw pos (keywordEach kws X.env)).filterMap (·.1) = ks := by rfl)
    (hdb : (x == ("__debug__" : Str)) = false := by decide)
    (hpl : ((backTo pos (starEach [] X.env)).any (·.1) || (backToKw pos (keywordEach kws X.env)).any (·.1.isNone)) = false := by rfl) :
    DE X (.Call (.Name x p) [] kws pos) (tCallGK 0 ks.length idx (lift X.K F) E0 tNil tk) (wCallK 0 ks.length idx F wNil wk) := by
  obtain ⟨f, fd, G, hm, Fn, hb⟩ := h.ex
  exact de_callK0 G hr gd hm Fn.kp (kb_of Fn kb) hkw hg hall hks hdb hpl
end
theorem Has.mk' {P : Program} {w : World} {K : PySem.W.Frag} {mg : Str → Option Value} {base : Heap} {k : Nat} {x : Str} {st : Stmt} {ps : List Str} {F : Fs} {f : Addr} {fd : FuncData} (Fn : Fun K x x st f fd) (hm : mg x = some (.ref f)) (G : FnG P w K mg base k f fd ps (lift K F))
    (hb : ∀ (kV doc pm : Value) (an : Option Addr) (cdv ct : Value) (us : List Value), us.length = ps.length → bindArgs (PySem.W.fnOf x x (defArgs st) (defBody st) (defScope st) .none kV doc pm an cdv ct) ⟨us, []⟩ = pure (ps.zip us)) : Has P w K mg base k x st ps F := ⟨f, fd, G, hm, Fn, Fn.binds hb⟩
/-! ### the draws -/
def drawF : Fs := fun ds M Q _ => ∃ a a0 n, ds = [.tok a, .int n] ∧ M a = some (.drw a0) ∧ 0 < n ∧ n.natAbs.log2 < 9000 ∧ ∀ k, 0 ≤ k → k < n → Q (.int k) M
end L3
namespace L3
open PySem L2
def fIsq : FC := fun ds M Q => match ds with
  | [.int a] => 0 ≤ a ∧ a < 2 ^ 13000 ∧ Q (.int (Float64.isqrt a.toNat : Nat)) M
  | _ => False
end L3
namespace L3
open PySem L2
def fIsB : F2 := fun d e M Q => match d, e with
  | .bl a, .bl b => Q (.bl (decide (a = b))) M
  | _, _ => False
end L3
namespace L3
open PySem L2
/-! ### what the draws need -/
/-- what stands of the draws -/
structure Dr (H0 : Hp) (a a0 : Addr) (cs : List Int) (s : Int) (H : Hp) : Prop where
  keep : ∀ b o, b ≠ a → b ≠ a0 → H0 b = some o → H b = some o
  ha : H a = some (.lst [.ref a0, .int s])
  h0 : H a0 = some (.lst (cs.map V.int))
  lo : 0 ≤ s
  hi : s < 4294967296
  len : cs.length ≤ 100
  pos : ∀ c ∈ cs, 0 ≤ c
theorem Dr.ne {H0 : Hp} {a a0 : Addr} {cs : List Int} {s : Int} {H : Hp} (h : Dr H0 a a0 cs s H) : a ≠ a0 := fun e => by
  have z := h.ha
  rw [e, h.h0] at z
  have z2 := HO.lst.inj (Option.some.inj z)
  cases cs with
  | nil => cases z2
  | cons c cs => cases z2
theorem Dr.put {H0 : Hp} {a a0 : Addr} {cs cs' : List Int} {s : Int} {H : Hp} (h : Dr H0 a a0 cs s H) (l : cs'.length ≤ 100) (p : ∀ c ∈ cs', 0 ≤ c) : Dr H0 a a0 cs' s (upd H a0 (.lst (cs'.map V.int))) :=
  ⟨fun b u h1 h2 e => by rw [upd_ne h2]; exact h.keep b u h1 h2 e, by rw [upd_ne h.ne]; exact h.ha, upd_same, h.lo, h.hi, l, p⟩
theorem Dr.ok {H0 : Hp} {a a0 : Addr} {cs : List Int} {s : Int} {H : Hp} (h : Dr H0 a a0 cs s H) : DrawOk H a a0 := ⟨cs, s, h.ha, h.h0, h.lo, h.hi, h.len, h.pos⟩
/-! ### equality: plain values first -/
def rEqV (K : PySem.W.Frag) : R2 := fun x y H Q => rEq x y H Q ∨ rEqD K x y H Q
def rNeV (K : PySem.W.Frag) : R2 := fun x y H Q => rNe x y H Q ∨ rNeD K x y H Q
theorem op_eqV {X : Cx} {k : Nat} (hr : Room k X.A) : OpR X (compareOp .Eq) (rEqV X.K) := op_eq.or (op_eqG hr)
theorem op_neV {X : Cx} {k : Nat} (hr : Room k X.A) : OpR X (compareOp .NotEq) (rNeV X.K) := op_ne.or (op_neG hr)
def eqS : D → D → Option Bool
  | .int i, .int j => some (decide (i = j))
  | .str i, .str j => some (decide (i = j))
  | .bl i, .bl j => some (decide (i = j))
  | _, _ => none
def eqV (neg : Bool) : F2 := fun d e M Q => match eqS d e with
  | some b => Q (.bl (if neg then !b else b)) M
  | none => eqD2 neg d e M Q
theorem eqS_rep {K : PySem.W.Frag} {H : Hp} {x y : V} {d e : D} {b : Bool} (r1 : Rep K H x d) (r2 : Rep K H y e) (h : eqS d e = some b) : scal x y = true ∧ decide (x = y) = b := by
  unfold eqS at h
  split at h
  · cases r1
    cases r2
    refine ⟨rfl, ?_⟩
    rw [← Option.some.inj h]
    exact decide_eq_decide.mpr ⟨fun z => by cases z; rfl, fun z => by rw [z]⟩
  · cases r1
    cases r2
    refine ⟨rfl, ?_⟩
    rw [← Option.some.inj h]
    exact decide_eq_decide.mpr ⟨fun z => by cases z; rfl, fun z => by rw [z]⟩
  · cases r1
    cases r2
    refine ⟨rfl, ?_⟩
    rw [← Option.some.inj h]
    exact decide_eq_decide.mpr ⟨fun z => by cases z; rfl, fun z => by rw [z]⟩
  · cases h
theorem sim_eqV {K : PySem.W.Frag} : SimR K (rEqV K) (eqV false) := by
  intro Z x y d e H M Q Q' S r1 r2 f q
  unfold eqV at f
  split at f
  · rename_i b h
    obtain ⟨h1, h2⟩ := eqS_rep r1 r2 h
    refine .inl ⟨h1, ?_⟩
    rw [h2]
    exact q _ _ H M (Go.refl S) (.bl _) f
  · exact .inr (sim_eq Z x y d e H M Q Q' S r1 r2 f q)
theorem sim_neV {K : PySem.W.Frag} : SimR K (rNeV K) (eqV true) := by
  intro Z x y d e H M Q Q' S r1 r2 f q
  unfold eqV at f
  split at f
  · rename_i b h
    obtain ⟨h1, h2⟩ := eqS_rep r1 r2 h
    refine .inl ⟨h1, ?_⟩
    rw [h2]
    exact q _ _ H M (Go.refl S) (.bl _) f
  · exact .inr (sim_ne Z x y d e H M Q Q' S r1 r2 f q)
end L3
namespace L3
open PySem L2
end L3
namespace L3
open PySem L2
end L3
namespace L3
open PySem L2
end L3
namespace L3
open PySem L2
section
variable {X : Cx} {E : WX3} {e e2 o a b : Expr} {es : List Expr} {pos p p2 tpos apos cpos : Pos} {elts : List Expr} {kk : Nat} {te to ta tb : TE} {we wo wa wb : WE} {tr : TA} {wr : WA}
/-! ### zip of two tuples, or of two lists -/
/-! ### methods of a list of the store -/
def wApp (wo : WE) (r : WA) : WE := fun ρ M Q => wo ρ M fun d M1 => match d with
  | .tok a => (∃ es, M1 a = some (.lst es)) ∧ r ρ M1 fun ds M2 => match ds with
    | [x] => ∃ es, M2 a = some (.lst es) ∧ es.length < sizeLine ∧ Q .non (setM M2 a (.lst (es ++ [x])))
    | _ => False
  | _ => False
theorem de_append (ho : DE X o to wo) (ha : DA X (e :: es) tr wr) (hs : attributeBase o "append" X.env (eval o X.env) = eval o X.env := by rfl)
    (h2 : (((backTo cpos (starEach (e :: es) X.env)).all fun x => !x.1) && ((backToKw cpos (keywordEach [] X.env)).all fun x => x.1.isSome) && decide (((e :: es).length + ([] : List Keyword).length + if ([] : List Keyword).isEmpty = true then 0 else 1) < 30)) = true := by rfl)
    (h3 : (apos.endLine == cpos.line) = true := by rfl) (h4 : starEach (e :: es) X.env = (false, eval e X.env) :: starEach es X.env := by rfl) (h5 : (backTo cpos (starEach es X.env)).any (·.1) = false := by rfl) :
    DE X (.Call (.Attribute o "append" apos) (e :: es) [] cpos) (tBM X.K "list" rAppend to tr) (wApp wo wr) := by
  refine ⟨pe_bm PySem.F.plainAttrs_list PySem.F.slot_list_append PySem.F.type_list_append mt_append ho.pe ha.pe hs h2 h3 h4 h5, fun Z ρ M σ H Q Q' s h q => ?_⟩
  refine ho.sm Z ρ M σ H _ _ s h fun x d H1 M1 g1 r1 q1 => ?_
  cases d with
  | tok a =>
    cases r1
    obtain ⟨⟨es0, hm⟩, q1⟩ := q1
    obtain ⟨vs0, e0, _⟩ := g1.sat.cell a _ hm
    refine ⟨.inl ⟨rfl, _, .inl (.inl e0)⟩, ?_⟩
    refine ha.sm Z ρ M1 σ H1 _ _ (s.go g1) q1 fun ys ds H2 M2 g2 r2 q2 => ?_
    cases r2 with
    | nil => exact q2.elim
    | cons ra rb =>
      cases rb with
      | nil =>
        obtain ⟨es, hm2, hl, q3⟩ := q2
        obtain ⟨vs, e1, rl⟩ := g2.sat.cell a _ hm2
        refine ⟨a, vs, _, rfl, rfl, e1, by rw [rl.len]; exact hl, ?_⟩
        have g3 := Go.putL (p := a) g2.sat (.inr ⟨es, hm2⟩) (rl.app (.cons ra .nil))
        exact q _ _ _ _ ((g1.trans g2).trans g3) .non q3
      | cons _ _ => exact q2.elim
  | _ => exact q1.elim
/-- tuple * int -/
def tmulD : F2 := fun d e M Q => match d, e with
  | .tup ds, .int k => ds ≠ [] ∧ 2 ≤ k ∧ k ≤ 1000 ∧ ds.length ≤ 1000 ∧ Q (.tup (List.replicate k.toNat ds).flatten) M
  | _, _ => False
theorem rep_flat {K : PySem.W.Frag} {H : Hp} {vs : List V} {ds : List D} (r : RepL K H vs ds) : ∀ k : Nat, RepL K H (List.replicate k vs).flatten (List.replicate k ds).flatten
  | 0 => .nil
  | k + 1 => by
    rw [List.replicate_succ, List.replicate_succ, List.flatten_cons, List.flatten_cons]
    exact r.app (rep_flat r k)
theorem sim_tmul {K : PySem.W.Frag} : SimR K (rRepT K) tmulD := by
  intro Z x y d e H M Q Q' S r1 r2 f q
  unfold tmulD at f
  split at f
  · cases r1 with
    | tup h1 l1 =>
      cases r2
      obtain ⟨f0, f1, f2, f3, f4⟩ := f
      refine ⟨_, _, _, rfl, rfl, sqt_mono fz_sub h1, fun z => f0 ?_, f1, f2, by rw [l1.len]; exact f3, fun p hp => ?_⟩
      · subst z
        cases l1
        rfl
      · obtain ⟨g, n⟩ := Go.laid (o := .tup (List.replicate _ _).flatten) S hp
        exact q _ _ _ _ g (.tup (.inl (.inl n)) ((rep_flat l1 _).up g.ex)) f4
  · exact f.elim
end
end L3
namespace L3
open PySem L2
/-! ### how readings are walked, a statement at a time -/
theorem seq_gen {u1 u2 : WS} {D : Ends3} {ρ : En} {M : Mp} (h : ∀ K : En → Mp → Prop, K = u2 D → u1 { D with nx := K } ρ M) : wSeq u1 u2 D ρ M := h _ rfl
theorem for_gen {wi : WI} {g : WG} {wb : WS} {D : Ends3} {ρ : En} {M : Mp} (h : ∀ B : WS, B = wb → wFor wi g B D ρ M) : wFor wi g wb D ρ M := h _ rfl
theorem loop_ix {g : WG} {wb : WS} {Ok : Mp → Prop} {D3 : Ends3} {ds : List D} (P : Nat → En → Mp → Prop)
    (hs : ∀ i d ρ M, ds[i]? = some d → P i ρ M → Ok M ∧ ∀ K : En → Mp → Prop, (∀ ρ' M', P (i + 1) ρ' M' → K ρ' M') → g d ρ M fun ρ1 M1 => wb { D3 with nx := K, ct := K, bk := D3.nx } ρ1 M1)
    (he : ∀ ρ M, P ds.length ρ M → Ok M ∧ D3.nx ρ M) : ∀ {ρ M}, P 0 ρ M → wLoop g wb Ok D3 ds ρ M := by
  have main : ∀ (es : List D) (i : Nat), i ≤ ds.length → ds.drop i = es → ∀ ρ M, P i ρ M → wLoop g wb Ok D3 es ρ M := by
    intro es
    induction es with
    | nil =>
      intro i hi e ρ M h
      have l : ds.length ≤ i := List.drop_eq_nil_iff.mp e
      obtain rfl : i = ds.length := Nat.le_antisymm hi l
      exact he ρ M h
    | cons d es ih =>
      intro i hi e ρ M h
      have l : i < ds.length := by
        rcases Nat.lt_or_ge i ds.length with z | z
        · exact z
        · rw [List.drop_eq_nil_of_le z] at e
          cases e
      have e2 := List.drop_eq_getElem_cons l
      rw [e] at e2
      obtain ⟨e3, e4⟩ := List.cons.inj e2
      obtain ⟨ok, k⟩ := hs i d ρ M (by rw [List.getElem?_eq_getElem l, e3]) h
      exact ⟨ok, k _ fun ρ' M' h' => ih (i + 1) l e4.symm ρ' M' h'⟩
  exact fun {ρ M} h => main ds 0 (Nat.zero_le _) rfl ρ M h
theorem intsD_len {lo : Int} {n : Nat} : (intsD lo n).length = n := by
  unfold intsD
  rw [List.length_map, List.length_range]
theorem intsD_get {lo : Int} {n i : Nat} {d : D} (h : (intsD lo n)[i]? = some d) : i < n ∧ d = .int (lo + (i : Int)) := by
  have hi : i < n := by
    have z := (List.getElem?_eq_some_iff.mp h).1
    rw [intsD_len] at z
    exact z
  refine ⟨hi, ?_⟩
  unfold intsD at h
  rw [List.getElem?_map, List.getElem?_range hi] at h
  exact (Option.some.inj h).symm
/-- .. each of whose values is one of those that P tells -/
theorem lc_any {g : WG} {we : WE} {Ok : Mp → Prop} {ρ : En} {M : Mp} {Q : KD} (P : D → D → Prop) (ok : Ok M) : ∀ (ds acc : List D), acc.length + ds.length ≤ 1000000 → (∀ d ∈ ds, ∀ K : KD, (∀ y, P d y → K y M) → g d ρ M fun ρ1 M1 => we ρ1 M1 K) →
    (∀ ys : List D, ys.length = ds.length → (∀ (i : Nat) (y : D), ys[i]? = some y → ∃ d, ds[i]? = some d ∧ P d y) → Q (.lst (acc ++ ys)) M) → wLcL g wYes we Ok ρ ds acc M Q
  | [], acc, _, _, q => ⟨ok, by have z := q [] rfl (fun i y h => by rw [List.getElem?_nil] at h; cases h); rw [List.append_nil] at z; exact z⟩
  | d :: ds, acc, hl, hs, q => by
    rw [List.length_cons] at hl
    refine ⟨ok, Nat.lt_of_lt_of_le (by omega : acc.length < 1000000) (by decide), ?_⟩
    have z := hs d List.mem_cons_self (fun y M3 => wLcL g wYes we Ok ρ ds (acc ++ [y]) M3 Q) fun y hy =>
      lc_any P ok ds (acc ++ [y]) (by rw [List.length_append, List.length_singleton]; omega) (fun d' h' => hs d' (List.mem_cons_of_mem _ h')) fun ys hy1 hy2 => by
        rw [List.append_assoc]
        refine q (y :: ys) (by rw [List.length_cons, List.length_cons, hy1]) fun i u hu => ?_
        cases i with
        | zero =>
          rw [List.getElem?_cons_zero] at hu
          exact ⟨d, rfl, (Option.some.inj hu) ▸ hy⟩
        | succ i =>
          rw [List.getElem?_cons_succ] at hu
          rw [List.getElem?_cons_succ]
          exact hy2 i u hu
    exact z
theorem eqV_int {M : Mp} {neg : Bool} {x y : Int} {Q : KD} : eqV neg (.int x) (.int y) M Q ↔ Q (.bl (if neg then !decide (x = y) else decide (x = y))) M := Iff.rfl
theorem eqV_str {M : Mp} {neg : Bool} {x y : Str} {Q : KD} : eqV neg (.str x) (.str y) M Q ↔ Q (.bl (if neg then !decide (x = y) else decide (x = y))) M := Iff.rfl
theorem eqV_bl {M : Mp} {neg : Bool} {x y : Bool} {Q : KD} : eqV neg (.bl x) (.bl y) M Q ↔ Q (.bl (if neg then !decide (x = y) else decide (x = y))) M := Iff.rfl
theorem cm_of {a b : Int} (h1 : -2 ^ 60 ≤ a) (h2 : a ≤ 2 ^ 60) : CM a b := .inl (.inl ⟨by omega, by omega⟩)
theorem cm_of' {a b : Int} (h1 : -2 ^ 60 ≤ b) (h2 : b ≤ 2 ^ 60) : CM a b := .inl (.inr ⟨by omega, by omega⟩)
theorem draw_i {M : Mp} {a a0 : Addr} {n : Int} {Q : KD} {R} (hm : M a = some (.drw a0)) (h0 : 0 < n) (h1 : n.natAbs.log2 < 9000) : drawF [.tok a, .int n] M Q R ↔ ∀ k, 0 ≤ k → k < n → Q (.int k) M := by
  constructor
  · rintro ⟨_, _, _, h, _, _, _, q⟩
    cases h
    exact q
  · exact fun q => ⟨a, a0, n, rfl, hm, h0, h1, q⟩
theorem log_of {n : Int} (h0 : 0 ≤ n) (h : n < 2 ^ 60) : n.natAbs.log2 < 9000 := by
  by_cases z : n.natAbs = 0
  · rw [z]
    decide
  · have e : n.natAbs.log2 < 60 := (Nat.log2_lt z).mpr (by omega)
    omega
end L3
namespace L3
open PySem L2
section
variable {X : Cx} {pos : Pos}
/-- the name of a built-in type, as a value -/
theorem de_bty {x : Str} {T : String} (hm : X.mg x = none) (hv : bootBuiltins x = some (.type T)) (hg : Gl X x := by rfl) (hn : x ≠ "__name__" := by decide) (hdb : (x == ("__debug__" : Str)) = false := by decide) : DE X (.Name x pos) (tC (.ty T)) (wC (.ty T)) := by
  refine ⟨⟨fun pins s σ H Q I h => ?_⟩, sim_c fun _ => .ty T⟩
  exact ld_blt I hg hm hv ⟨.ty T, H, I, rfl, h⟩ hn hdb
end
/-- what type data is of -/
def tyD (M : Mp) : D → Option String
  | .non => some "NoneType"
  | .bl _ => some "bool"
  | .int _ => some "int"
  | .str _ => some "str"
  | .tup _ => some "tuple"
  | .lst _ => some "list"
  | .tok a => match M a with
    | some (.lst _) => some "list"
    | some (.dic _ _) => some "dict"
    | _ => none
  | .ty _ => none
  | .exc _ _ _ _ _ => none
  | .tpl _ => none
  | .dct _ _ => some "dict"
def subT (t T : String) : Option Bool := match T with
  | "int" => some (t == "int" || t == "bool")
  | "bool" => some (t == "bool")
  | "str" => some (t == "str")
  | "tuple" => some (t == "tuple")
  | "list" => some (t == "list")
  | "dict" => some (t == "dict")
  | _ => none
def fIsi : FC := fun ds M Q => match ds with
  | [d, .ty T] => ∃ t b, tyD M d = some t ∧ subT t T = some b ∧ Q (.bl b) M
  | _ => False
theorem ty_of {K : PySem.W.Frag} {Z : Hp} {H : Hp} {M : Mp} {x : V} {d : D} {t : String} (S : Sat K Z H M) (r : Rep K (fz Z H M) x d) (h : tyD M d = some t) : TyX K H x (.type t) := by
  cases d with
  | non => cases r; cases h; exact .base .non
  | bl b => cases r; cases h; exact .base (.bl b)
  | int i => cases r; cases h; exact .base (.int i)
  | str y => cases r; cases h; exact .base (.str y)
  | ty _ => cases h
  | tok a =>
    cases r
    have h' : (match M a with | some (.lst _) => some "list" | some (.dic _ _) => some "dict" | _ => none) = some t := h
    cases q : M a with
    | none =>
      rw [q] at h'
      cases h'
    | some c =>
      rw [q] at h'
      cases c with
      | lst ds =>
        cases h'
        obtain ⟨vs, e, _⟩ := S.cell a _ q
        exact .base (.lst e)
      | aux => cases h'
      | drw _ => cases h'
      | tab _ _ => cases h'
      | box => cases h'
      | ins _ _ => cases h'
      | dic lk kd =>
        cases h'
        obtain ⟨kv, u, e, l, _⟩ := S.cell a _ q
        cases lk with
        | none =>
          cases l
          exact .base (.dK e)
        | some o =>
          rw [l.2] at e
          exact .fDict e
  | exc _ _ _ _ _ => cases h
  | tpl _ => cases h
  | dct _ _ =>
    cases h
    cases r with
    | dct hx _ _ =>
      rcases hx with hx | ⟨o, hx⟩
      · exact .base (.dK (fz_sub _ _ hx))
      · exact .fDict (fz_sub _ _ hx)
  | tup ds =>
    cases h
    cases r with
    | tup hs _ =>
      rcases sqt_mono fz_sub hs with (e | ⟨o, e⟩) | ⟨o, its, n, e, c, _⟩
      · exact .base (.tup e)
      · exact .fTuple e
      · exact .kTuple e c
  | lst ds =>
    cases h
    cases r with
    | lst hs _ =>
      rcases fz_sub.seq hs with (e | ⟨o, e⟩) | ⟨o, its, n, e, c, _⟩
      · exact .base (.lst e)
      · exact .base (.frz e)
      · exact .kList e c
theorem kit_of (K : PySem.W.Frag) {M : Mp} {d : D} {t T : String} {b : Bool} (h : tyD M d = some t) (hs : subT t T = some b) : PySem.W.kitOne K (.type t) (.type T) = some b := by
  have ht : t = "NoneType" ∨ t = "bool" ∨ t = "int" ∨ t = "str" ∨ t = "tuple" ∨ t = "list" ∨ t = "dict" := by
    cases d with
    | non => cases h; simp
    | bl _ => cases h; simp
    | int _ => cases h; simp
    | str _ => cases h; simp
    | tup _ => cases h; simp
    | lst _ => cases h; simp
    | ty _ => cases h
    | exc _ _ _ _ _ => cases h
    | tpl _ => cases h
    | dct _ _ => cases h; simp
    | tok a =>
      have h' : (match M a with | some (.lst _) => some "list" | some (.dic _ _) => some "dict" | _ => none) = some t := h
      cases q : M a with
      | none =>
        rw [q] at h'
        cases h'
      | some c =>
        rw [q] at h'
        cases c with
        | lst ds => cases h'; simp
        | aux => cases h'
        | drw _ => cases h'
        | tab _ _ => cases h'
        | box => cases h'
        | ins _ _ => cases h'
        | dic _ _ => cases h'; simp
  unfold subT at hs
  split at hs
  · rcases ht with rfl | rfl | rfl | rfl | rfl | rfl | rfl <;> (cases hs; rfl)
  · rcases ht with rfl | rfl | rfl | rfl | rfl | rfl | rfl <;> (cases hs; rfl)
  · rcases ht with rfl | rfl | rfl | rfl | rfl | rfl | rfl <;> (cases hs; rfl)
  · rcases ht with rfl | rfl | rfl | rfl | rfl | rfl | rfl <;> (cases hs; rfl)
  · rcases ht with rfl | rfl | rfl | rfl | rfl | rfl | rfl <;> (cases hs; rfl)
  · rcases ht with rfl | rfl | rfl | rfl | rfl | rfl | rfl <;> (cases hs; rfl)
  · cases hs
/-- isinstance(x, T) -/
theorem sim_isi {K : PySem.W.Frag} : SimC K (rIsi K) fIsi := by
  intro Z xs ds H M Q Q' S r f q
  unfold fIsi at f
  split at f
  · cases r with
    | cons r1 r2 =>
      cases r2 with
      | cons r2 r3 =>
        cases r3
        cases r2
        obtain ⟨t, b, h1, h2, z⟩ := f
        exact ⟨_, _, _, _, b, rfl, .ty _, ty_of S r1 h1, kit_of K h1 h2, q _ _ H M (Go.refl S) (.bl _) z⟩
  · exact f.elim
end L3
namespace L3
open PySem L2
/-! ### min, max of any data that can be compared -/
end L3
namespace L3
open PySem L2
/-! ### iterators that hand out new tuples: their turns from the library's walks -/
end L3
namespace L3
open PySem L2
theorem vals_at {xs : List V} {its : List Value} {i : Nat} {x : Value} (r : Vals xs its) (h : its.toArray[i]? = some x) : RelV (xs.getD i .non) x := by
  have h' : its[i]? = some x := by simpa using h
  have li := (List.getElem?_eq_some_iff.mp h').1
  have l1 := r.length
  obtain ⟨u, e2, ru⟩ := r.get (List.getElem?_eq_getElem (by omega : i < xs.length))
  rw [h'] at e2
  obtain rfl : x = u := Option.some.inj e2
  rw [List.getD_eq_getElem?_getD, List.getElem?_eq_getElem (by omega)]
  exact ru
/-! ### zip of three tuples -/
def n3 (xs ys zs : List V) : Nat := min (min xs.length ys.length) zs.length
/-! by data -/
theorem rep_getd {K : PySem.W.Frag} {H : Hp} {vs : List V} {ds : List D} (r : RepL K H vs ds) (i : Nat) (h : i < ds.length) : Rep K H (vs.getD i .non) (ds.getD i .non) := by
  obtain ⟨v, e1, e2⟩ := r.get (List.getElem?_eq_getElem h)
  rw [List.getD_eq_getElem?_getD, List.getD_eq_getElem?_getD, e1, List.getElem?_eq_getElem h]
  exact e2
end L3
namespace L3
open PySem L2
/-! ### max of three ints -/
end L3
namespace L3
open PySem L2
/-! ### vectors, distances, what lies beyond: the mathematics -/
def vec (v : List Int) : D := .tup (v.map .int)
/-- small numbers -/
def sm (v : List Int) : Prop := v.length ≤ 64 ∧ ∀ a ∈ v, -30000000 ≤ a ∧ a ≤ 30000000
def nums (ps : List Nat) : List D := ps.map fun (p : Nat) => D.int (p : Int)
def rt (n : Int) : Int := (Float64.isqrt n.toNat : Nat)
def sq (k : Str) : Bool := decide (k = "square")
def nb (a : Int) : Prop := 0 ≤ a ∧ a < 2 ^ 50
theorem ix_at {M : Mp} {L : List D} {i : Nat} {x : D} {Q : KD} (h : L[i]? = some x) (q : Q x M) : ixD (.lst L) (.int (i : Int)) M Q := by
  have li := (List.getElem?_eq_some_iff.mp h).1
  refine ⟨L, x, rfl, ?_, q⟩
  unfold atI ixN
  simp [li]
  rw [List.getElem?_eq_getElem li] at h
  exact Option.some.inj h
end L3
namespace L3
open PySem L2
/-! the squares -/
/-! ### joining -/
/-! ### regions -/
inductive Rg where
  | ball (c : List Int) (r : Int) | box (l h : List Int) | cell (c : List Int) (a b : Int)
def Rg.d : Rg → D
  | .ball c r => .tup [.str "ball", vec c, .int r]
  | .box l h => .tup [.str "box", vec l, vec h]
  | .cell c a b => .tup [.str "cell", vec c, .int a, .int b]
/-- vectors of so many places with parts to B -/
def vk (p : Nat) (B : Int) (v : List Int) : Prop := v.length = p ∧ ∀ a ∈ v, -B ≤ a ∧ a ≤ B
/-! ### places of short tuples, lists -/
theorem ix_t0 {a : D} {l : List D} {M : Mp} {Q : KD} : ixD (.tup (a :: l)) (.int 0) M Q ↔ Q a M := by
  constructor
  · rintro ⟨ds, x, h, e, q⟩
    cases h
    simp [atI, ixN] at e
    exact e ▸ q
  · exact fun q => ⟨_, a, rfl, by simp [atI, ixN], q⟩
theorem ix_t1 {a b : D} {l : List D} {M : Mp} {Q : KD} : ixD (.tup (a :: b :: l)) (.int 1) M Q ↔ Q b M := by
  have z : (1 : Int) < (l.length : Int) + 1 + 1 := by omega
  constructor
  · rintro ⟨ds, x, h, e, q⟩
    cases h
    simp [atI, ixN, z] at e
    exact e ▸ q
  · exact fun q => ⟨_, b, rfl, by simp [atI, ixN, z], q⟩
theorem ix_t2 {a b c : D} {l : List D} {M : Mp} {Q : KD} : ixD (.tup (a :: b :: c :: l)) (.int 2) M Q ↔ Q c M := by
  constructor
  · rintro ⟨ds, x, h, e, q⟩
    cases h
    have z : (2 : Int) < (l.length : Int) + 1 + 1 + 1 := by omega
    simp [atI, ixN, z] at e
    exact e ▸ q
  · exact fun q => ⟨_, c, rfl, by
      have z : (2 : Int) < (l.length : Int) + 1 + 1 + 1 := by omega
      simp [atI, ixN, z], q⟩
theorem ix_t3 {a b c d : D} {M : Mp} {Q : KD} : ixD (.tup [a, b, c, d]) (.int 3) M Q ↔ Q d M := by
  constructor
  · rintro ⟨ds, x, h, e, q⟩
    cases h
    simp [atI, ixN] at e
    exact e ▸ q
  · exact fun q => ⟨_, d, rfl, by simp [atI, ixN], q⟩
theorem ix_m3 {a b c : D} {M : Mp} {Q : KD} : ixD (.tup [a, b, c]) (.int (-1)) M Q ↔ Q c M := by
  constructor
  · rintro ⟨ds, x, h, e, q⟩
    cases h
    simp [atI, ixN] at e
    exact e ▸ q
  · exact fun q => ⟨_, c, rfl, by simp [atI, ixN], q⟩
theorem ix_m4 {a b c d : D} {M : Mp} {Q : KD} : ixD (.tup [a, b, c, d]) (.int (-1)) M Q ↔ Q d M := by
  constructor
  · rintro ⟨ds, x, h, e, q⟩
    cases h
    simp [atI, ixN] at e
    exact e ▸ q
  · exact fun q => ⟨_, d, rfl, by simp [atI, ixN], q⟩
/-! names -/
theorem sn_ball_box : (("ball" : Str) = "box") = False := eq_false (by decide +kernel)
theorem sn_cell_box : (("cell" : Str) = "box") = False := eq_false (by decide +kernel)
theorem sn_cell_ball : (("cell" : Str) = "ball") = False := eq_false (by decide +kernel)
theorem sn_ball_cell : (("ball" : Str) = "cell") = False := eq_false (by decide +kernel)
theorem sn_box_ball : (("box" : Str) = "ball") = False := eq_false (by decide +kernel)
theorem sn_box_cell : (("box" : Str) = "cell") = False := eq_false (by decide +kernel)
end L3
namespace L3
open PySem L2
/-- a zip whose handed out tuple may be another's by now -/
def IsZipB (h : Heap) (z TI TO : Addr) (x : Value) (b : Bool) : Prop := h.get? z = some { cls := .type "zip", dict := none, data := .fields #[x, .bool b, .bool false, .ref TI, .ref TO], slots := #[] }
abbrev ZI := Addr × Addr × Array Value
structure ZApart (z TI TO : Addr) (its : List ZI) : Prop where
  zTI : TI ≠ z
  zTO : TO ≠ z
  TT : TI ≠ TO
  iz : ∀ q ∈ its, q.1 ≠ z ∧ q.1 ≠ TI ∧ q.1 ≠ TO
  tz : ∀ q ∈ its, q.2.1 ≠ z ∧ q.2.1 ≠ TO
  ti : ∀ q ∈ its, ∀ r ∈ its, q.2.1 ≠ r.1
  nd : (its.map (·.1)).Nodup
section
variable {prog : Program} {w : World} {A : Around} {E : Value → Shared → Prop} {s : Shared} {z TI TO : Addr} {its : List ZI} {i : Nat}
/-- what is drawn stands -/
structure ZState (h : Heap) (z TI TO : Addr) (its : List ZI) (i : Nat) (x : Value) (b : Bool) (old : List Value) : Prop where
  zip : IsZipB h z TI TO x b
  ti : h.get? TI = some { cls := .type "tuple", data := .seq (its.map fun q => Value.ref q.1).toArray }
  out : h.get? TO = some { cls := .type "tuple", data := .seq old.toArray }
  len : old.length = its.length
  iter : ∀ q ∈ its, h.IsTupleIter q.1 q.2.1 i
  tup : ∀ q ∈ its, h.IsTuple q.2.1 q.2.2
structure ZLoop (hp h : Heap) (z TI TO : Addr) (its pre suf : List ZI) (i : Nat) (x : Value) (b : Bool) (out : List Value) : Prop where
  split : its = pre ++ suf
  zip : IsZipB h z TI TO x b
  ti : h.get? TI = some { cls := .type "tuple", data := .seq (its.map fun q => Value.ref q.1).toArray }
  out : h.get? TO = some { cls := .type "tuple", data := .seq out.toArray }
  done : ∀ q ∈ pre, h.IsTupleIter q.1 q.2.1 (i + 1)
  left : ∀ q ∈ suf, h.IsTupleIter q.1 q.2.1 i
  tup : ∀ q ∈ its, h.IsTuple q.2.1 q.2.2
  keep : ∀ c o, c ≠ z → c ≠ TO → c ∉ its.map (·.1) → hp.get? c = some o → h.get? c = some o
  size : h.objs.size = hp.objs.size
theorem ZLoop.put {hp h h' : Heap} {pre suf : List ZI} {x : Value} {b : Bool} {out out' : List Value} (D : ZApart z TI TO its) (L : ZLoop hp h z TI TO its pre suf i x b out) (sb : Heap.SameBut TO h h') (ho : h'.get? TO = some { cls := .type "tuple", data := .seq out'.toArray }) : ZLoop hp h' z TI TO its pre suf i x b out' := by
  have m1 : ∀ r ∈ pre, r ∈ its := fun r hr => by rw [L.split]; exact List.mem_append_left _ hr
  have m2 : ∀ r ∈ suf, r ∈ its := fun r hr => by rw [L.split]; exact List.mem_append_right _ hr
  exact ⟨L.split, sb.extBut _ _ (Ne.symm D.zTO) L.zip, sb.extBut _ _ D.TT L.ti, ho, fun r hr => (L.done r hr).at fun o e => sb.extBut _ _ (D.iz r (m1 r hr)).2.2 e, fun r hr => (L.left r hr).at fun o e => sb.extBut _ _ (D.iz r (m2 r hr)).2.2 e,
    fun r hr => (L.tup r hr).at fun o e => sb.extBut _ _ (D.tz r hr).2 e, fun c o c1 c2 c3 e => sb.extBut _ _ c2 (L.keep c o c1 c2 c3 e), by rw [sb.1, L.size]⟩
def zval (i : Nat) (q : ZI) : Value := q.2.2.getD i .none
/-! next -/
end
end L3
namespace L3
open PySem L2
end L3
namespace L3
open PySem L2
/-! ### a zip is made -/
end L3
namespace L3
open PySem L2
/-! ### list(zip(..)) of any number of tuples of one length -/
inductive ZRel : List (Addr × List V) → List ZI → Prop
  | nil : ZRel [] []
  | cons {c : Addr × List V} {q : ZI} {cs : List (Addr × List V)} {its : List ZI} : q.2.1 = c.1 → Vals c.2 q.2.2.toList → ZRel cs its → ZRel (c :: cs) (q :: its)
def zrow (cs : List (Addr × List V)) (i : Nat) : List V := cs.map fun c => c.2.getD i .non
theorem ZRel.row {i : Nat} : ∀ {cs : List (Addr × List V)} {its : List ZI}, ZRel cs its → (∀ q ∈ its, i < q.2.2.size) → Vals (zrow cs i) (its.map (zval i))
  | _, _, .nil, _ => .nil
  | _, _, .cons (q := q) e v r, h => by
    refine .cons (vals_at v ?_) (ZRel.row r fun q' hq => h q' (List.mem_cons_of_mem _ hq))
    rw [Array.toArray_toList]
    unfold zval
    rw [Array.getD_eq_getD_getElem?, Array.getElem?_eq_getElem (h q List.mem_cons_self)]
    rfl
theorem ZRel.len : ∀ {cs : List (Addr × List V)} {its : List ZI}, ZRel cs its → its.length = cs.length
  | _, _, .nil => rfl
  | _, _, .cons _ _ r => by rw [List.length_cons, List.length_cons, r.len]
section
variable {X : Cx} {pins : List (Addr × Obj)} {σ : L2.St} {z TI TO S : Addr} {its : List ZI} {cs : List (Addr × List V)} {n : Nat} {A1 : Around}
theorem ZState.keep {h h' : Heap} {i : Nat} {x : Value} {b : Bool} {old : List Value} (st : ZState h z TI TO its i x b old) (k : ∀ c o, c ∈ z :: TI :: TO :: (its.map (·.1) ++ its.map (·.2.1)) → h.get? c = some o → h'.get? c = some o) : ZState h' z TI TO its i x b old :=
  ⟨k _ _ (by simp) st.zip, k _ _ (by simp) st.ti, k _ _ (by simp) st.out, st.len, fun q hq => (st.iter q hq).at fun o e => k _ _ (by simp; exact .inr (.inr (.inr (.inl ⟨_, _, hq⟩)))) e, fun q hq => (st.tup q hq).at fun o e => k _ _ (by simp; exact .inr (.inr (.inr (.inr ⟨_, _, hq⟩)))) e⟩
end
end L3
namespace L3
open PySem L2
end L3
namespace L3
open PySem L2
/-! ### by data -/
inductive CRel (K : PySem.W.Frag) (H : Hp) : List (Addr × List V) → List (List D) → Prop
  | nil : CRel K H [] []
  | cons {c : Addr × List V} {xs : List D} {cs : List (Addr × List V)} {xss : List (List D)} : SqT K H c.1 c.2 → RepL K H c.2 xs → CRel K H cs xss → CRel K H (c :: cs) (xs :: xss)
theorem CRel.len {K : PySem.W.Frag} {H : Hp} : ∀ {cs : List (Addr × List V)} {xss : List (List D)}, CRel K H cs xss → cs.length = xss.length
  | _, _, .nil => rfl
  | _, _, .cons _ _ r => by rw [List.length_cons, List.length_cons, r.len]
theorem CRel.row {K : PySem.W.Frag} {H : Hp} {n i : Nat} (hi : i < n) : ∀ {cs : List (Addr × List V)} {xss : List (List D)}, CRel K H cs xss → (∀ xs ∈ xss, xs.length = n) → RepL K H (zrow cs i) (xss.map fun xs => xs.getD i .non)
  | _, _, .nil, _ => .nil
  | _, _, .cons h1 h2 r, h => .cons (rep_getd h2 i (by rw [h _ List.mem_cons_self]; exact hi)) (r.row hi fun xs hx => h xs (List.mem_cons_of_mem _ hx))
end L3
namespace L3
open PySem L2
/-! ### a string in a list or tuple of strings -/
end L3
namespace L3
open PySem L2
/-! ### comprehensions over what is mapped, filtered -/
theorem lc_map {α : Type} {wg : WG} {we : WE} {Ok : Mp → Prop} {ρ : En} {M : Mp} {Q : KD} (f g : α → D) (ok : Ok M) : ∀ (xs : List α) (acc : List D), acc.length + xs.length ≤ 1000000 → (∀ a ∈ xs, ∀ K : KD, K (g a) M → wg (f a) ρ M fun ρ1 M1 => we ρ1 M1 K) →
    Q (.lst (acc ++ xs.map g)) M → wLcL wg wYes we Ok ρ (xs.map f) acc M Q
  | [], acc, _, _, q => ⟨ok, by rw [List.map_nil, List.append_nil] at q; exact q⟩
  | a :: xs, acc, hl, hs, q => by
    rw [List.length_cons] at hl
    refine ⟨ok, Nat.lt_of_lt_of_le (by omega : acc.length < 1000000) (by decide), ?_⟩
    have z := hs a List.mem_cons_self (fun y M3 => wLcL wg wYes we Ok ρ (xs.map f) (acc ++ [y]) M3 Q)
      (lc_map f g ok xs (acc ++ [g a]) (by rw [List.length_append, List.length_singleton]; omega) (fun d' h' => hs d' (List.mem_cons_of_mem _ h')) (by rw [List.append_assoc]; exact q))
    exact z
theorem lc_filt {α : Type} {wg : WG} {wt : WT} {we : WE} {Ok : Mp → Prop} {ρ : En} {M : Mp} {Q : KD} (f g : α → D) (b : α → Bool) (ok : Ok M) : ∀ (xs : List α) (acc : List D), acc.length + xs.length ≤ 1000000 →
    (∀ a ∈ xs, ∀ (A : KD) (B : Mp → Prop), (b a = true → A (g a) M) → (b a = false → B M) → wg (f a) ρ M fun ρ1 M1 => wt ρ1 M1 fun c M2 => if c = true then we ρ1 M2 A else B M2) →
    Q (.lst (acc ++ (xs.filter b).map g)) M → wLcL wg wt we Ok ρ (xs.map f) acc M Q
  | [], acc, _, _, q => ⟨ok, by rw [List.filter_nil, List.map_nil, List.append_nil] at q; exact q⟩
  | a :: xs, acc, hl, hs, q => by
    rw [List.length_cons] at hl
    refine ⟨ok, Nat.lt_of_lt_of_le (by omega : acc.length < 1000000) (by decide), ?_⟩
    refine hs a List.mem_cons_self (fun y M3 => wLcL wg wt we Ok ρ (xs.map f) (acc ++ [y]) M3 Q) (fun M2 => wLcL wg wt we Ok ρ (xs.map f) acc M2 Q) (fun hb => ?_) (fun hb => ?_)
    · refine lc_filt f g b ok xs _ (by rw [List.length_append, List.length_singleton]; omega) (fun d' h' => hs d' (List.mem_cons_of_mem _ h')) ?_
      rw [List.filter_cons_of_pos hb] at q
      rw [List.append_assoc]
      exact q
    · refine lc_filt f g b ok xs _ (by omega) (fun d' h' => hs d' (List.mem_cons_of_mem _ h')) ?_
      rw [List.filter_cons_of_neg (by rw [hb]; decide)] at q
      exact q
/-- what is walked is mapped -/
theorem loop_map {α : Type} {g : WG} {wb : WS} {Ok : Mp → Prop} {D3 : Ends3} (f : α → D) (xs : List α) (P : Nat → En → Mp → Prop)
    (hs : ∀ i a ρ M, xs[i]? = some a → i < xs.length → P i ρ M → Ok M ∧ ∀ K : En → Mp → Prop, (∀ ρ' M', P (i + 1) ρ' M' → K ρ' M') → g (f a) ρ M fun ρ1 M1 => wb { D3 with nx := K, ct := K, bk := D3.nx } ρ1 M1)
    (he : ∀ ρ M, P xs.length ρ M → Ok M ∧ D3.nx ρ M) {ρ : En} {M : Mp} (h : P 0 ρ M) : wLoop g wb Ok D3 (xs.map f) ρ M := by
  refine loop_ix P (fun i d ρ M hi hP => ?_) (fun ρ M hP => he ρ M (by rw [List.length_map] at hP; exact hP)) h
  rw [List.getElem?_map] at hi
  cases e : xs[i]? with
  | none =>
    rw [e] at hi
    cases hi
  | some a =>
    rw [e] at hi
    cases hi
    exact hs i a ρ M e (List.getElem?_eq_some_iff.mp e).1 hP
end L3
namespace L3
open PySem L2
/-! ### what is raised -/
end L3
namespace L3
open PySem L2
/-! ### own classes of errors: their making, their raising -/
end L3
namespace L3
open PySem L2
/-! ### try -/
/-! ### in an except suite -/
end L3
namespace L3
open PySem L2
/-! ### plain values compared where an error is handled; tables of classes -/
end L3
namespace L3
open PySem L2
/-! ### a value is itself -/
theorem eqD_refl {n : Nat} {d : D} (f : fit n d) : eqD d d = true := PySem.SeqAt.eqv_refl d.py (fit_lay n d f).1
theorem eqV_self {neg : Bool} {M : Mp} {Q : KD} {n : Nat} {d : D} (hn : n ≤ 60) (f : fit n (res M d)) (q : Q (.bl (!neg)) M) : eqV neg d d M Q := by
  have main : eqD2 neg d d M Q := ⟨⟨n, hn, f, f⟩, by
    rw [eqD_refl f]
    cases neg <;> exact q⟩
  have sc : ∀ P : Prop, [Decidable P] → P → Q (.bl (if neg = true then !decide P else decide P)) M := fun P _ h => by
    rw [decide_eq_true h]
    cases neg <;> exact q
  cases d with
  | int i => exact sc _ rfl
  | str x => exact sc _ rfl
  | bl b => exact sc _ rfl
  | _ => first | exact main | exact sc _ rfl | exact sc _ trivial
theorem repr_of {M : Mp} {Q : KD} {n : Nat} {d : D} (hn : n ≤ 60) (h : shw n (res M d)) (hc : cost (res M d) ≤ 16000000) (q : Q (.str (shown (res M d))) M) : fRepr [d] M Q := ⟨⟨n, hn, h⟩, hc, q⟩
end L3
namespace L3
open PySem L2
/-! ### sorted -/
theorem each_vals {K : PySem.W.Frag} {H : Hp} : ∀ {ys : List V} {its : List Value} {ds : List D}, Vals ys its → RepL K H ys ds → PySem.W.EachIs (fun v d => ∃ y, RelV y v ∧ Rep K H y d) its ds
  | _, _, _, .nil, .nil => .nil
  | _, _, _, .cons rv rvs, .cons rd rds => .cons ⟨_, rv, rd⟩ (each_vals rvs rds)
theorem vals_each {K : PySem.W.Frag} {H : Hp} : ∀ {its : List Value} {ds : List D}, PySem.W.EachIs (fun v d => ∃ y, RelV y v ∧ Rep K H y d) its ds → ∃ ys, Vals ys its ∧ RepL K H ys ds
  | _, _, .nil => ⟨[], .nil, .nil⟩
  | _, _, .cons ⟨y, a, b⟩ r => by
    obtain ⟨ys, h1, h2⟩ := vals_each r
    exact ⟨y :: ys, .cons a h1, .cons b h2⟩
end L3
namespace L3
open PySem L2
/-! ### enumerate(a tuple) -/
/-! by data -/
end L3
namespace L3
open PySem L2
/-! ### for y in zip(*xs), y one name -/
structure ZHalf (h : Heap) (z TI TO : Addr) (qs : List (Addr × Addr)) (i : Nat) (x : Value) (b : Bool) (old : List Value) : Prop where
  zip : IsZipB h z TI TO x b
  ti : h.get? TI = some { cls := .type "tuple", data := .seq (qs.map fun q => Value.ref q.1).toArray }
  out : h.get? TO = some { cls := .type "tuple", data := .seq old.toArray }
  len : old.length = qs.length
  iter : ∀ q ∈ qs, h.IsTupleIter q.1 q.2 i
theorem ZHalf.keep {h h' : Heap} {z TI TO : Addr} {qs : List (Addr × Addr)} {i : Nat} {x : Value} {b : Bool} {old : List Value} (S : ZHalf h z TI TO qs i x b old) (k : ∀ c ∈ z :: TI :: TO :: qs.map (·.1), ∀ o, h.get? c = some o → h'.get? c = some o) : ZHalf h' z TI TO qs i x b old :=
  ⟨k z (by simp) _ S.zip, k TI (by simp) _ S.ti, k TO (by simp) _ S.out, S.len, fun q hq => (S.iter q hq).at fun o e => k q.1 (by simp; exact .inr (.inr (.inr ⟨_, hq⟩))) o e⟩
/-! by data -/
end L3
namespace L3
open PySem L2
end L3
namespace L3
open PySem L2
/-! ### dicts that change: tokens -/
def keyD : Key → D
  | .inl i => .int i
  | .inr x => .str x
def dKey : D → Option Key
  | .int i => some (.inl i)
  | .str x => some (.inr x)
  | _ => none
theorem dKey_key (k : Key) : dKey (keyD k) = some k := by cases k <;> rfl
theorem rep_keyD {K : PySem.W.Frag} {H : Hp} (k : Key) : Rep K H (kV k) (keyD k) := by
  cases k with
  | inl i => exact .int i
  | inr x => exact .str x
theorem rep_key {K : PySem.W.Frag} {H : Hp} {v : V} {d : D} {k : Key} (r : Rep K H v d) (e : dKey d = some k) : v = kV k := by
  cases d with
  | int i => cases r; cases e; rfl
  | str x => cases r; cases e; rfl
  | _ => cases e
def valD (kd : List (Key × D)) (k : Key) : Option D := (kd.find? fun p => decide (p.1 = k)).map (·.2)
def putD (kd : List (Key × D)) (k : Key) (d : D) : List (Key × D) :=
  if (kd.any fun p => decide (p.1 = k)) = true then kd.map (fun p => if p.1 = k then (p.1, d) else p) else kd ++ [(k, d)]
def dropD (kd : List (Key × D)) (k : Key) : List (Key × D) := kd.filter fun p => decide (p.1 ≠ k)
def mergeD (kd more : List (Key × D)) : List (Key × D) := more.foldl (fun acc p => putD acc p.1 p.2) kd
/-- a dict's pairs, of a token or of a dict that never changes -/
def dicOf (M : Mp) : D → Option (List (Key × D))
  | .tok a => match M a with
    | some (.dic _ kd) => some kd
    | _ => none
  | .dct ks ds => if ks.length = ds.length then some (ks.zip ds) else none
  | _ => none
section
variable {K : PySem.W.Frag} {Z H H' : Hp} {M : Mp}
theorem RepK.nil : RepK K H [] [] := ⟨rfl, .nil⟩
theorem RepK.cons {k : Key} {v : V} {d : D} {kv : List (Key × V)} {kd : List (Key × D)} (r : Rep K H v d) (q : RepK K H kv kd) : RepK K H ((k, v) :: kv) ((k, d) :: kd) := ⟨by rw [List.map_cons, List.map_cons, q.1], .cons r q.2⟩
theorem RepK.uncons {p : Key × V} {kv : List (Key × V)} {kd : List (Key × D)} (q : RepK K H (p :: kv) kd) : ∃ d kd', kd = (p.1, d) :: kd' ∧ Rep K H p.2 d ∧ RepK K H kv kd' := by
  obtain ⟨e, r⟩ := q
  cases kd with
  | nil => cases e
  | cons z kd' =>
    obtain ⟨k, d⟩ := z
    rw [List.map_cons, List.map_cons] at e
    injection e with e1 e2
    rw [List.map_cons, List.map_cons] at r
    cases r with
    | cons r1 r2 =>
      refine ⟨d, kd', ?_, r1, e2, r2⟩
      show (k, d) :: kd' = (p.1, d) :: kd'
      rw [e1]
theorem RepK.nil' {kd : List (Key × D)} (q : RepK K H [] kd) : kd = [] := by
  have e := q.1
  cases kd with
  | nil => rfl
  | cons z r => cases e
theorem RepK.len {kv : List (Key × V)} {kd : List (Key × D)} (q : RepK K H kv kd) : kv.length = kd.length := by
  have := congrArg List.length q.1
  rwa [List.length_map, List.length_map] at this
theorem RepK.val (k : Key) : ∀ {kv : List (Key × V)} {kd : List (Key × D)}, RepK K H kv kd → (valV kv k = none ∧ valD kd k = none) ∨ ∃ v d, valV kv k = some v ∧ valD kd k = some d ∧ Rep K H v d
  | [], kd, q => by
    rw [q.nil']
    exact .inl ⟨rfl, rfl⟩
  | p :: kv, kd, q => by
    obtain ⟨d, kd', rfl, r, q'⟩ := q.uncons
    by_cases h : p.1 = k
    · refine .inr ⟨p.2, d, ?_, ?_, r⟩
      · unfold valV
        rw [List.find?_cons_of_pos (by simpa using h)]
        rfl
      · unfold valD
        rw [List.find?_cons_of_pos (by simpa using h)]
        rfl
    · have e1 : valV (p :: kv) k = valV kv k := by
        unfold valV
        rw [List.find?_cons_of_neg (by simpa using h)]
      have e2 : valD ((p.1, d) :: kd') k = valD kd' k := by
        unfold valD
        rw [List.find?_cons_of_neg (by simpa using h)]
      rw [e1, e2]
      exact RepK.val k q'
theorem RepK.some {k : Key} {d : D} {kv : List (Key × V)} {kd : List (Key × D)} (q : RepK K H kv kd) (e : valD kd k = some d) : ∃ v, valV kv k = some v ∧ Rep K H v d := by
  rcases q.val k with ⟨_, h⟩ | ⟨v, d', h1, h2, r⟩
  · rw [e] at h
    cases h
  · rw [e] at h2
    cases h2
    exact ⟨v, h1, r⟩
theorem RepK.none {k : Key} {kv : List (Key × V)} {kd : List (Key × D)} (q : RepK K H kv kd) (e : valD kd k = none) : valV kv k = none := by
  rcases q.val k with ⟨h, _⟩ | ⟨v, d', h1, h2, r⟩
  · exact h
  · rw [e] at h2
    cases h2
theorem RepK.isSome {k : Key} {kv : List (Key × V)} {kd : List (Key × D)} (q : RepK K H kv kd) : (valV kv k).isSome = (valD kd k).isSome := by
  rcases q.val k with ⟨h, h2⟩ | ⟨v, d', h1, h2, r⟩
  · rw [h, h2]
    rfl
  · rw [h1, h2]
    rfl
theorem RepK.any (k : Key) : ∀ {kv : List (Key × V)} {kd : List (Key × D)}, RepK K H kv kd → (kv.any fun p => decide (p.1 = k)) = kd.any fun p => decide (p.1 = k)
  | [], kd, q => by
    rw [q.nil']
    rfl
  | p :: kv, kd, q => by
    obtain ⟨d, kd', rfl, r, q'⟩ := q.uncons
    rw [List.any_cons, List.any_cons, RepK.any k q']
theorem RepK.snoc {k : Key} {v : V} {d : D} (r : Rep K H v d) : ∀ {kv : List (Key × V)} {kd : List (Key × D)}, RepK K H kv kd → RepK K H (kv ++ [(k, v)]) (kd ++ [(k, d)])
  | [], kd, q => by
    rw [q.nil']
    exact RepK.nil.cons r
  | p :: kv, kd, q => by
    obtain ⟨d', kd', rfl, r', q'⟩ := q.uncons
    exact (RepK.snoc r q').cons r'
theorem RepK.repl {k : Key} {v : V} {d : D} (r : Rep K H v d) : ∀ {kv : List (Key × V)} {kd : List (Key × D)}, RepK K H kv kd → RepK K H (kv.map fun p => if p.1 = k then (p.1, v) else p) (kd.map fun p => if p.1 = k then (p.1, d) else p)
  | [], kd, q => by
    rw [q.nil']
    exact .nil
  | p :: kv, kd, q => by
    obtain ⟨d', kd', rfl, r', q'⟩ := q.uncons
    rw [List.map_cons, List.map_cons]
    by_cases h : p.1 = k
    · rw [if_pos h, if_pos h]
      exact (RepK.repl r q').cons r
    · rw [if_neg h, if_neg h]
      exact (RepK.repl r q').cons r'
theorem RepK.put {k : Key} {v : V} {d : D} {kv : List (Key × V)} {kd : List (Key × D)} (r : Rep K H v d) (q : RepK K H kv kd) : RepK K H (putK kv k v) (putD kd k d) := by
  unfold putK putD
  rw [q.any k]
  split
  · exact RepK.repl r q
  · exact RepK.snoc r q
theorem RepK.drop (k : Key) : ∀ {kv : List (Key × V)} {kd : List (Key × D)}, RepK K H kv kd → RepK K H (dropK kv k) (dropD kd k)
  | [], kd, q => by
    rw [q.nil']
    exact .nil
  | p :: kv, kd, q => by
    obtain ⟨d', kd', rfl, r', q'⟩ := q.uncons
    unfold dropK dropD
    by_cases h : p.1 = k
    · rw [List.filter_cons_of_neg (by simpa using h), List.filter_cons_of_neg (by simpa using h)]
      exact RepK.drop k q'
    · rw [List.filter_cons_of_pos (by simpa using h), List.filter_cons_of_pos (by simpa using h)]
      exact (RepK.drop k q').cons r'
theorem RepK.merge : ∀ {more : List (Key × V)} {moreD : List (Key × D)} {kv : List (Key × V)} {kd : List (Key × D)}, RepK K H more moreD → RepK K H kv kd → RepK K H (mergeK kv more) (mergeD kd moreD)
  | [], moreD, kv, kd, q, q0 => by
    rw [q.nil']
    exact q0
  | p :: more, moreD, kv, kd, q, q0 => by
    obtain ⟨d', m', rfl, r', q'⟩ := q.uncons
    exact RepK.merge (kv := putK kv p.1 p.2) (kd := putD kd p.1 d') q' (q0.put r')
theorem RepK.keys {kv : List (Key × V)} {kd : List (Key × D)} (q : RepK K H kv kd) : RepL K H (kv.map fun p => kV p.1) (kd.map fun p => keyD p.1) := by
  have e : (kv.map fun p => kV p.1) = (kd.map (·.1)).map kV := by rw [← q.1, List.map_map]; rfl
  rw [e, List.map_map]
  clear q e
  induction kd with
  | nil => exact .nil
  | cons p r ih => exact .cons (rep_keyD p.1) ih
theorem dic_of {v : V} {d : D} {kd : List (Key × D)} (S : Sat K Z H M) (r : Rep K (fz Z H M) v d) (e : dicOf M d = some kd) : ∃ a kv, v = .ref a ∧ Rd H a (.dK kv) ∧ RepK K (fz Z H M) kv kd := by
  cases d with
  | tok a =>
    cases r
    have e' : (match M a with | some (.dic _ kd) => some kd | _ => none) = some kd := e
    cases q : M a with
    | none =>
      rw [q] at e'
      cases e'
    | some c =>
      rw [q] at e'
      cases c with
      | dic lk kd' =>
        cases e'
        obtain ⟨kv, u, h1, l, h2⟩ := S.cell a _ q
        refine ⟨a, kv, rfl, ?_, h2⟩
        cases lk with
        | none =>
          cases l
          exact .inl h1
        | some o =>
          rw [l.2] at h1
          exact .inr ⟨_, h1⟩
      | _ => cases e'
  | dct ks ds =>
    cases r with
    | @dct _ _ vs _ hs hl ha =>
      have e' : (if ks.length = ds.length then some (ks.zip ds) else none) = some kd := e
      by_cases h : ks.length = ds.length
      · rw [if_pos h] at e'
        cases e'
        refine ⟨_, _, rfl, rd_mono fz_sub hs, ?_⟩
        unfold RepK
        rw [List.map_fst_zip (Nat.le_of_eq hl), List.map_fst_zip (Nat.le_of_eq h), List.map_snd_zip (Nat.le_of_eq hl.symm), List.map_snd_zip (Nat.le_of_eq h.symm)]
        exact ⟨rfl, ha⟩
      · rw [if_neg h] at e'
        cases e'
  | _ => cases e
/-- a token's dict that no loop walks -/
theorem dic_free {p : Addr} {kd : List (Key × D)} (S : Sat K Z H M) (e : M p = some (.dic none kd)) : ∃ kv, H p = some (.dK kv) ∧ RepK K (fz Z H M) kv kd := by
  obtain ⟨kv, u, h1, l, h2⟩ := S.cell p _ e
  cases l
  exact ⟨kv, h1, h2⟩
theorem dic_lock {p : Addr} {q : Obj × List (Key × V)} {kd : List (Key × D)} (S : Sat K Z H M) (e : M p = some (.dic (some q) kd)) : H p = some (.frz q.1 (.dK q.2)) ∧ RepK K (fz Z H M) q.2 kd := by
  obtain ⟨kv, u, h1, l, h2⟩ := S.cell p _ e
  obtain ⟨l1, l2⟩ := l
  subst l1
  rw [l2] at h1
  exact ⟨h1, h2⟩
theorem Go.putDic {p : Addr} {kv : List (Key × V)} {kd : List (Key × D)} (S : Sat K Z H M) (hp : H p = none ∨ ∃ c0, M p = some c0 ∧ c0 ≠ .aux) (r : RepK K (fz Z H M) kv kd) : Go K Z H M (upd H p (.dK kv)) (setM M p (.dic none kd)) :=
  Go.put S hp fun ex => ⟨kv, _, upd_same, rfl, r.up ex⟩
theorem Go.lockDic {p : Addr} {o : Obj} {kv : List (Key × V)} {kd : List (Key × D)} (S : Sat K Z H M) (hp : M p = some (.dic none kd)) (h : H p = some (.dK kv)) : Go K Z H M (upd H p (.frz o (.dK kv))) (setM M p (.dic (some (o, kv)) kd)) := by
  obtain ⟨kv', h1, h2⟩ := dic_free S hp
  rw [h] at h1
  cases h1
  exact Go.put S (.inr ⟨_, hp, fun z => by cases z⟩) fun ex => ⟨kv, _, upd_same, ⟨rfl, rfl⟩, h2.up ex⟩
theorem Go.unlockDic {p : Addr} {q : Obj × List (Key × V)} {kd : List (Key × D)} (S : Sat K Z H M) (hp : M p = some (.dic (some q) kd)) : Go K Z H M (upd H p (.dK q.2)) (setM M p (.dic none kd)) := by
  obtain ⟨h1, h2⟩ := dic_lock S hp
  exact Go.put S (.inr ⟨_, hp, fun z => by cases z⟩) fun ex => ⟨q.2, _, upd_same, rfl, h2.up ex⟩
end
section
variable {X : Cx} {E : WX3} {e a b o i value : Expr} {es : List Expr} {t ta tb te to ti tv td ty : TE} {w wa wb we wo wi wv wd wy : WE} {pos pos' tpos cpos apos : Pos} {k : Nat}
/-! {} -/
def wDNew : WE := fun _ M Q => ∀ p, M p = none → Q (.tok p) (setM M p (.dic none []))
theorem de_dnew : DE X (.Dict [] [] pos) tDNewK wDNew := ⟨pe_dnewK, fun Z ρ M σ H Q Q' r h q p hp => by
  have g := Go.putDic (kv := []) (kd := []) r.sat (.inl hp) RepK.nil
  exact q _ _ _ _ g (.tok p) (h p (r.sat.free hp))⟩
def wDct0 : WE := fun _ M Q => Q (.dct [] []) M
theorem de_dct0 : DE X (.Dict [] [] pos) tDNewK wDct0 := ⟨pe_dnewK, fun Z ρ M σ H Q Q' r h q p hp => by
  obtain ⟨g, e⟩ := Go.laid (o := .dK []) r.sat hp
  exact q _ _ _ _ g (.dct (ks := []) (vs := []) (.inl e) rfl .nil) h⟩
/-! displays -/
def wPairs : List (WE × WE) → En → Mp → (List (D × D) → Mp → Prop) → Prop
  | [], _, M, Q => Q [] M
  | (wk, wv) :: r, ρ, M, Q => wk ρ M fun x M1 => wv ρ M1 fun y M2 => wPairs r ρ M2 fun ps M3 => Q ((x, y) :: ps) M3
def dKeys : List (D × D) → Option (List (Key × D))
  | [] => some []
  | (k, d) :: r => match dKey k, dKeys r with
    | some k, some r => some ((k, d) :: r)
    | _, _ => none
structure DPs (X : Cx) (pos : Pos) (keys : List (Option Expr)) (values : List Expr) (trs : List (TE × TE)) (ws : List (WE × WE)) : Prop where
  pe : PPs X pos keys values trs
  sm : ∀ (Z : Hp) (ρ : En) (M : Mp) (σ : L2.St) (H : Hp) (Q : List (D × D) → Mp → Prop) (Q' : List (V × V) → Hp → Prop), R3 X.K Z ρ M σ H → wPairs ws ρ M Q →
    (∀ v d H' M', Go X.K Z H M H' M' → RepL X.K (fz Z H' M') (v.map (·.1)) (d.map (·.1)) → RepL X.K (fz Z H' M') (v.map (·.2)) (d.map (·.2)) → Q d M' → Q' v H') → tPairs trs σ H Q'
theorem dps_nil : DPs X pos [] [] [] [] := ⟨pps_nil, fun Z ρ M σ H Q Q' r h q => q [] [] H M (Go.refl r.sat) .nil .nil h⟩
theorem dps_cons {kx vx : Expr} {ks : List (Option Expr)} {vs : List Expr} {tk tv : TE} {wk wv : WE} {trs : List (TE × TE)} {ws : List (WE × WE)} (hk : DE X kx tk wk) (hv : DE X vx tv wv) (hr : DPs X pos ks vs trs ws) : DPs X pos (some kx :: ks) (vx :: vs) ((tk, tv) :: trs) ((wk, wv) :: ws) :=
  ⟨pps_cons hk.pe hv.pe hr.pe, fun Z ρ M σ H Q Q' r h q => hk.sm _ _ _ _ _ _ _ r h fun x d H1 M1 g1 r1 h1 => hv.sm _ _ _ _ _ _ _ (r.go g1) h1 fun y d2 H2 M2 g2 r2 h2 => hr.sm _ _ _ _ _ _ _ ((r.go g1).go g2) h2 fun v d3 H3 M3 g3 r3 r4 h3 =>
    q ((x, y) :: v) ((d, d2) :: d3) _ _ ((g1.trans g2).trans g3) (.cons ((r1.up g2.ex).up g3.ex) r3) (.cons (r2.up g3.ex) r4) h3⟩
def wDisp (ws : List (WE × WE)) : WE := fun ρ M Q => ∀ p, M p = none → wPairs ws ρ (setM M p (.dic none [])) fun ps M2 => M2 p = some (.dic none []) ∧ match dKeys ps with
  | some kd => kd.length ≤ 15 ∧ Q (.tok p) (setM M2 p (.dic none (mergeD [] kd)))
  | none => False
theorem keys_of {K : PySem.W.Frag} {H : Hp} : ∀ {ps : List (V × V)} {ds : List (D × D)} {kd : List (Key × D)}, RepL K H (ps.map (·.1)) (ds.map (·.1)) → RepL K H (ps.map (·.2)) (ds.map (·.2)) → dKeys ds = some kd → ∃ kv : List (Key × V), ps = kv.map (fun p => (kV p.1, p.2)) ∧ RepK K H kv kd
  | [], [], kd, _, _, e => by
    cases e
    exact ⟨[], rfl, .nil⟩
  | [], _ :: _, _, r, _, _ => by cases r
  | _ :: _, [], _, r, _, _ => by cases r
  | p :: ps, (k, d) :: ds, kd, r1, r2, e => by
    rw [List.map_cons, List.map_cons] at r1 r2
    cases r1 with
    | cons q1 r1 =>
      cases r2 with
      | cons q2 r2 =>
        unfold dKeys at e
        cases hk : dKey k with
        | none =>
          rw [hk] at e
          cases e
        | some kk =>
          cases hr : dKeys ds with
          | none =>
            rw [hk, hr] at e
            cases e
          | some rr =>
            rw [hk, hr] at e
            cases e
            obtain ⟨kv, e1, e2⟩ := keys_of r1 r2 hr
            refine ⟨(kk, p.2) :: kv, ?_, e2.cons q2⟩
            rw [List.map_cons, ← e1, ← rep_key q1 hk]
theorem de_disp {keys : List (Option Expr)} {values : List Expr} {trs : List (TE × TE)} {ws : List (WE × WE)} (h : DPs X pos keys values trs ws) (hall : keys.all (·.isSome) = true := by rfl) (hl : keys.length = values.length := by rfl) (h0 : keys ≠ [] := by intro z; cases z) (h15 : keys.length ≤ 15 := by decide) : DE X (.Dict keys values pos) (tDisp trs) (wDisp ws) :=
  ⟨pe_disp h.pe hall hl h0 h15, fun Z ρ M σ H Q Q' r hw q p hp => by
    have g := Go.putDic (kv := []) (kd := []) r.sat (.inl hp) RepK.nil
    refine h.sm _ _ _ _ _ _ _ (r.go g) (hw p (r.sat.free hp)) fun v d H1 M1 g1 r1 r2 hq => ?_
    obtain ⟨h1, h2⟩ := hq
    obtain ⟨kv0, e0, e0'⟩ := dic_free g1.sat h1
    obtain rfl : kv0 = [] := by
      have := e0'.len
      exact List.eq_nil_of_length_eq_zero this
    refine ⟨e0, ?_⟩
    cases hk : dKeys d with
    | none =>
      rw [hk] at h2
      exact h2.elim
    | some kd =>
      rw [hk] at h2
      obtain ⟨kv, e1, e2⟩ := keys_of r1 r2 hk
      refine ⟨kv, e1, by rw [e2.len]; exact h2.1, ?_⟩
      have g2 := Go.putDic (p := p) (kv := mergeK [] kv) (kd := mergeD [] kd) g1.sat (.inr ⟨_, h1, fun z => by cases z⟩) (RepK.merge e2 .nil)
      exact q _ _ _ _ ((g.trans g1).trans g2) (.tok p) h2.2⟩
end
end L3
namespace L3
open PySem L2
section
variable {X : Cx} {E : WX3} {e a b o i f value tgt : Expr} {es : List Expr} {t ta tb te to ti tv td ty tx : TE} {w wa wb we wo wi wv wd wy wx : WE} {pos pos' tpos cpos apos p : Pos} {k : Nat} {ts : TS} {ws : WS}
theorem Room.u1 (hr : Room k X.A) : X.A.units + 1 < cLine := by
  have := hr.units
  omega
/-! ### d[k] -/
def fDGet : F2 := fun d y M Q => match dicOf M d, dKey y with
  | some kd, some kk => ∃ x, valD kd kk = some x ∧ Q x M
  | _, _ => False
def wDGet (wd wy : WE) : WE := fun ρ M Q => wd ρ M fun d M1 => wy ρ M1 fun y M2 => fDGet d y M2 Q
theorem dget_of {K : PySem.W.Frag} {Z H : Hp} {M : Mp} {x y : V} {d e : D} {kd : List (Key × D)} {kk : Key} (S : Sat K Z H M) (r1 : Rep K (fz Z H M) x d) (r2 : Rep K (fz Z H M) y e) (h1 : dicOf M d = some kd) (h2 : dKey e = some kk) : ∃ a kv, x = .ref a ∧ RepK K (fz Z H M) kv kd ∧ DGet H a y (valV kv kk) := by
  obtain ⟨a, kv, rfl, hr, rk⟩ := dic_of S r1 h1
  exact ⟨a, kv, rfl, rk, .inl ⟨kv, kk, hr, rep_key r2 h2, rfl⟩⟩
theorem de_dget (hr : Room k X.A) (ho : DE X o td wd) (hi : DE X i ty wy) (hs : NoSl i := by intro _ _; rfl) : DE X (.Subscript o i pos) (tDGet td ty) (wDGet wd wy) :=
  ⟨pe_dget (Room.u1 hr) ho.pe hi.pe hs, fun Z ρ M σ H Q Q' r h q => ho.sm _ _ _ _ _ _ _ r h fun x d H1 M1 g1 r1 h1 => hi.sm _ _ _ _ _ _ _ (r.go g1) h1 fun y e H2 M2 g2 r2 h2 => by
    unfold fDGet at h2
    split at h2
    · rename_i kd kk e1 e2
      obtain ⟨z, hz, hq⟩ := h2
      obtain ⟨a, kv, rfl, rk, dg⟩ := dget_of g2.sat (r1.up g2.ex) r2 e1 e2
      obtain ⟨v, hv, rv⟩ := rk.some hz
      rw [hv] at dg
      exact ⟨a, v, rfl, dg, q _ _ _ _ (g1.trans g2) rv hq⟩
    · exact h2.elim⟩
/-! ### k in d -/
def fDIn (neg : Bool) : F2 := fun y d M Q => match dicOf M d, dKey y with
  | some kd, some kk => Q (.bl (if neg then !(valD kd kk).isSome else (valD kd kk).isSome)) M
  | _, _ => False
def rDInK (neg : Bool) : R2 := fun y x H Q => ∃ a o, x = .ref a ∧ DGet H a y o ∧ Q (.bl (if neg then !o.isSome else o.isSome)) H
theorem op_dIn (hr : Room k X.A) : OpR X (compareOp .In) (rDInK false) := by
  intro pins s σ H y x u v Q I ry rx h
  obtain ⟨a, o, rfl, g, q⟩ := h
  obtain rfl : v = Value.ref a := rx
  exact d_in (Room.u1 hr) I g ry fun s3 I3 => ⟨.bl o.isSome, H, I3, rfl, q⟩
theorem op_dNotIn (hr : Room k X.A) : OpR X (compareOp .NotIn) (rDInK true) := by
  intro pins s σ H y x u v Q I ry rx h
  obtain ⟨a, o, rfl, g, q⟩ := h
  obtain rfl : v = Value.ref a := rx
  exact d_notIn (Room.u1 hr) I g ry fun s3 I3 => ⟨.bl (!o.isSome), H, I3, rfl, q⟩
theorem sim_dIn {K : PySem.W.Frag} {neg : Bool} : SimR K (rDInK neg) (fDIn neg) := by
  intro Z y x d e H M Q Q' S r1 r2 h q
  unfold fDIn at h
  split at h
  · rename_i kd kk e1 e2
    obtain ⟨a, kv, rfl, rk, dg⟩ := dget_of S r2 r1 e1 e2
    refine ⟨a, _, rfl, dg, ?_⟩
    rw [rk.isSome]
    exact q _ _ _ _ (Go.refl S) (.bl _) h
  · exact h.elim
/-! ### d[k] = v -/
def fDPut (d y v : D) (M : Mp) (Q : Mp → Prop) : Prop := match d with
  | .tok a => match M a, dKey y with
    | some (.dic none kd), some kk => kd.length < sizeLine ∧ Q (setM M a (.dic none (putD kd kk v)))
    | _, _ => False
  | _ => False
def wDPut (wd wy wv : WE) : WS := fun D ρ M => wv ρ M fun v M1 => wd ρ M1 fun d M2 => wy ρ M2 fun y M3 => fDPut d y v M3 (D.nx ρ)
theorem ds_dput (hr : Room k X.A) (ho : DE X o td wd) (hi : DE X i ty wy) (hv : DE X value tv wv) (hs : swapsWith value (some (.Subscript o i pos')) pos.line X.env = pure false := by rfl) : DS X E (.Assign [.Subscript o i pos'] value pos) (sDPut td ty tv) (wDPut wd wy wv) :=
  ⟨ps_dput (Room.u1 hr) ho.pe hi.pe hv.pe hs, fun Z D3 ρ M σ H D r h er => hv.sm _ _ _ _ _ _ _ r h fun v dv H1 M1 g1 r1 h1 => ho.sm _ _ _ _ _ _ _ (r.go g1) h1 fun x d H2 M2 g2 r2 h2 => hi.sm _ _ _ _ _ _ _ ((r.go g1).go g2) h2 fun y e H3 M3 g3 r3 h3 => by
    unfold fDPut at h3
    split at h3
    · rename_i a
      split at h3
      · rename_i kd kk e1 e2
        cases r2
        obtain ⟨kv, hk, rk⟩ := dic_free g3.sat e1
        have g4 := Go.putDic (p := a) (kv := putK kv kk v) (kd := putD kd kk dv) g3.sat (.inr ⟨_, e1, fun z => by cases z⟩) (rk.put ((r1.up g2.ex).up g3.ex))
        refine ⟨a, _, rfl, .inl ⟨kv, kk, hk, rep_key r3 e2, by rw [rk.len]; exact h3.1, rfl⟩, ?_⟩
        exact er.nx _ _ _ _ ((((r.go g1).go g2).go g3).go g4) (((g1.trans g2).trans g3).trans g4) h3.2
      · exact h3.elim
    · exact h3.elim⟩
/-! ### del d[k] -/
def fDDel (d y : D) (M : Mp) (Q : Mp → Prop) : Prop := match d with
  | .tok a => match M a, dKey y with
    | some (.dic none kd), some kk => (valD kd kk).isSome = true ∧ Q (setM M a (.dic none (dropD kd kk)))
    | _, _ => False
  | _ => False
def wDDel (wd wy : WE) : WS := fun D ρ M => wd ρ M fun d M2 => wy ρ M2 fun y M3 => fDDel d y M3 (D.nx ρ)
theorem ds_ddel (ho : DE X o td wd) (hi : DE X i ty wy) : DS X E (.Delete [.Subscript o i tpos] pos) (sDDel td ty) (wDDel wd wy) :=
  ⟨ps_ddel ho.pe hi.pe, fun Z D3 ρ M σ H D r h er => ho.sm _ _ _ _ _ _ _ r h fun x d H2 M2 g2 r2 h2 => hi.sm _ _ _ _ _ _ _ (r.go g2) h2 fun y e H3 M3 g3 r3 h3 => by
    unfold fDDel at h3
    split at h3
    · rename_i a
      split at h3
      · rename_i kd kk e1 e2
        cases r2
        obtain ⟨kv, hk, rk⟩ := dic_free g3.sat e1
        have g4 := Go.putDic (p := a) (kv := dropK kv kk) (kd := dropD kd kk) g3.sat (.inr ⟨_, e1, fun z => by cases z⟩) (rk.drop kk)
        refine ⟨a, kv, kk, rfl, hk, rep_key r3 e2, by rw [rk.isSome]; exact h3.1, ?_⟩
        exact er.nx _ _ _ _ (((r.go g2).go g3).go g4) ((g2.trans g3).trans g4) h3.2
      · exact h3.elim
    · exact h3.elim⟩
/-! ### len(d), d.get, d.pop, d.setdefault -/
theorem isD_of {K : PySem.W.Frag} {Z H : Hp} {M : Mp} {x : V} {d : D} {kd : List (Key × D)} (S : Sat K Z H M) (r1 : Rep K (fz Z H M) x d) (h1 : dicOf M d = some kd) : ∃ a, x = .ref a ∧ IsD H a := by
  obtain ⟨a, kv, rfl, hr, rk⟩ := dic_of S r1 h1
  exact ⟨a, rfl, .inl ⟨kv, hr⟩⟩
def fDPop1 (d y : D) (M : Mp) (Q : KD) : Prop := match d with
  | .tok a => match M a, dKey y with
    | some (.dic none kd), some kk => ∃ x, valD kd kk = some x ∧ Q x (setM M a (.dic none (dropD kd kk)))
    | _, _ => False
  | _ => False
def wDPop1 (wd wy : WE) : WE := fun ρ M Q => wd ρ M fun d M1 => (∃ kd, dicOf M1 d = some kd) ∧ wy ρ M1 fun y M2 => fDPop1 d y M2 Q
theorem de_dpop1 (ho : DE X o td wd) (he : DE X e ty wy) (m : M1 X o "pop" apos e cpos := by exact ⟨rfl, rfl, rfl, rfl⟩) : DE X (.Call (.Attribute o "pop" apos) [e] [] cpos) (tDPop1 td ty) (wDPop1 wd wy) :=
  ⟨pe_dpop1 ho.pe he.pe m, fun Z ρ M σ H Q Q' r h q => ho.sm _ _ _ _ _ _ _ r h fun x d H1 M1 g1 r1 h1 => by
    obtain ⟨⟨kd0, hk0⟩, h1⟩ := h1
    obtain ⟨a0, rfl, isd⟩ := isD_of g1.sat r1 hk0
    refine ⟨a0, rfl, isd, he.sm _ _ _ _ _ _ _ (r.go g1) h1 fun y e H2 M2 g2 r2 h2 => ?_⟩
    unfold fDPop1 at h2
    split at h2
    · cases r1
      split at h2
      · rename_i kd kk e1 e2
        obtain ⟨x, hx, hq⟩ := h2
        obtain ⟨kv, hk, rk⟩ := dic_free g2.sat e1
        obtain ⟨v, hv, rv⟩ := rk.some hx
        have g3 := Go.putDic (p := a0) (kv := dropK kv kk) (kd := dropD kd kk) g2.sat (.inr ⟨_, e1, fun z => by cases z⟩) (rk.drop kk)
        exact ⟨kv, kk, v, hk, rep_key r2 e2, hv, q _ _ _ _ ((g1.trans g2).trans g3) (rv.up g3.ex) hq⟩
      · exact h2.elim
    · exact h2.elim⟩
end
end L3
namespace L3
open PySem L2
section
variable {X : Cx} {E : WX3} {e a b o i f value tgt : Expr} {es : List Expr} {t ta tb te to ti tv td ty tx : TE} {w wa wb we wo wi wv wd wy wx : WE} {pos pos' tpos cpos apos p p2 : Pos} {k : Nat} {ts : TS} {ws : WS} {st : Stmt}
/-! ### a dict is locked while it is walked -/
def lkEnds (p : Addr) (q : Obj × List (Key × V)) (kd : List (Key × D)) (D : Ends3) : Ends3 where
  nx := fun ρ' M' => M' p = some (.dic (some q) kd) ∧ D.nx ρ' (setM M' p (.dic none kd))
  rt := fun d M' => M' p = some (.dic (some q) kd) ∧ D.rt d (setM M' p (.dic none kd))
  bk := fun ρ' M' => M' p = some (.dic (some q) kd) ∧ D.bk ρ' (setM M' p (.dic none kd))
  ct := fun ρ' M' => M' p = some (.dic (some q) kd) ∧ D.ct ρ' (setM M' p (.dic none kd))
/-- slot i holds the dict -/
def wLock (i : Nat) (w : WS) : WS := fun D ρ M => match ρ[i]? with
  | some (some (.tok p)) => match M p with
    | some (.dic none kd) => ∀ q : Obj × List (Key × V), q.2.length = kd.length → w (lkEnds p q kd D) ρ (setM M p (.dic (some q) kd))
    | some (.dic (some _) _) => w D ρ M
    | _ => False
  | _ => False
def tLockO (t : TS) : TS := fun D σ H => t D σ H ∨ tLock t D σ H
theorem ds_lock (i : Nat) (h : DS X E st ts ws) : DS X E st (tLockO ts) (wLock i ws) := by
  constructor
  · refine ⟨fun pins s σ H D I q => ?_⟩
    rcases q with q | q
    · exact h.pe.run pins s σ H D I q
    · exact (ps_lock h.pe).run pins s σ H D I q
  · intro Z D3 ρ M σ H D r q er
    unfold wLock at q
    split at q
    · rename_i p _
      split at q
      · rename_i kd hp
        obtain ⟨kv, hk, rk⟩ := dic_free r.sat hp
        refine .inr ⟨p, _, hk, True.intro, fun od => ?_⟩
        have g := Go.lockDic (o := od) r.sat hp hk
        refine h.sm _ _ _ _ _ _ _ (r.go g) (q (od, kv) rk.len) ?_
        have back : ∀ {H' : Hp} {M' : Mp}, Go X.K Z (upd H p (.frz od (.dK kv))) (setM M p (.dic (some (od, kv)) kd)) H' M' → M' p = some (.dic (some (od, kv)) kd) → H' p = some (.frz od (.dK kv)) ∧ Go X.K Z H' M' (upd H' p (.dK kv)) (setM M' p (.dic none kd)) := fun g' hm =>
          ⟨(dic_lock g'.sat hm).1, Go.unlockDic g'.sat hm⟩
        exact ⟨fun ρ' M' σ' H' r' g' z => by
            obtain ⟨b1, b2⟩ := back g' z.1
            exact ⟨b1, er.nx _ _ _ _ (r'.go b2) ((g.trans g').trans b2) z.2⟩,
          fun v d H' M' g' rv z => by
            obtain ⟨b1, b2⟩ := back g' z.1
            exact ⟨b1, er.rt _ _ _ _ ((g.trans g').trans b2) (rv.up b2.ex) z.2⟩,
          fun ρ' M' σ' H' r' g' z => by
            obtain ⟨b1, b2⟩ := back g' z.1
            exact ⟨b1, er.bk _ _ _ _ (r'.go b2) ((g.trans g').trans b2) z.2⟩,
          fun ρ' M' σ' H' r' g' z => by
            obtain ⟨b1, b2⟩ := back g' z.1
            exact ⟨b1, er.ct _ _ _ _ (r'.go b2) ((g.trans g').trans b2) z.2⟩,
          fun _ _ _ _ _ _ _ _ _ _ _ _ _ _ _ z => z.elim⟩
      · exact .inl (h.sm _ _ _ _ _ _ _ r q er)
      · exact q.elim
    · exact q.elim
/-! ### walks -/
theorem repK_get {K : PySem.W.Frag} {H : Hp} {kv : List (Key × V)} {kd : List (Key × D)} {i : Nat} {q : Key × D} (r : RepK K H kv kd) (h : kd[i]? = some q) : ∃ v, kv[i]? = some (q.1, v) ∧ Rep K H v q.2 := by
  have h2 : (kd.map (·.2))[i]? = some q.2 := by rw [List.getElem?_map, h]; rfl
  have h1 : (kd.map (·.1))[i]? = some q.1 := by rw [List.getElem?_map, h]; rfl
  obtain ⟨v, e, rv⟩ := r.2.get h2
  rw [← r.1] at h1
  rw [List.getElem?_map] at h1 e
  cases z : kv[i]? with
  | none =>
    rw [z] at h1
    cases h1
  | some pr =>
    rw [z] at h1 e
    obtain ⟨k1, v1⟩ := pr
    have a1 : k1 = q.1 := Option.some.inj h1
    have a2 : v1 = v := Option.some.inj e
    exact ⟨v, by rw [a1, a2], rv⟩
def lockedM (p : Addr) (q : Obj × List (Key × V)) (kd : List (Key × D)) : Mp → Prop := fun M => M p = some (.dic (some q) kd)
def dkeys (kd : List (Key × D)) : List D := kd.map fun q => keyD q.1
def ditems (kd : List (Key × D)) : List D := kd.map fun q => D.tup [keyD q.1, q.2]
theorem at_map {α β : Type} {f : α → β} {l : List α} {i : Nat} {d : β} (h : (l.map f)[i]? = some d) : ∃ a, l[i]? = some a ∧ d = f a := by
  rw [List.getElem?_map] at h
  cases z : l[i]? with
  | none =>
    rw [z] at h
    cases h
  | some a =>
    rw [z] at h
    exact ⟨a, rfl, (Option.some.inj h).symm⟩
theorem at_lt {α : Type} {l : List α} {i : Nat} {a : α} (h : l[i]? = some a) : i < l.length := by
  rcases Nat.lt_or_ge i l.length with z | z
  · exact z
  · rw [List.getElem?_eq_none z] at h
    cases h
theorem walks_k {K : PySem.W.Frag} {Z H : Hp} {M : Mp} {p : Addr} {q : Obj × List (Key × V)} {kd : List (Key × D)} : Walks3 K Z H M (Itk p q.1 q.2) (dkeys kd) (lockedM p q kd) := by
  intro Z2 H2 M2 S2 ex ok
  obtain ⟨hk, rk⟩ := dic_lock S2 ok
  refine ⟨fun i d h => ?_, fun i h => ⟨hk, by unfold dkeys at h; rw [List.length_map] at h; rw [rk.len]; exact h⟩⟩
  obtain ⟨pr, e, rfl⟩ := at_map h
  obtain ⟨v, ev, rv⟩ := repK_get rk e
  refine ⟨⟨hk, at_lt ev⟩, fun x H3 hy => ?_⟩
  obtain ⟨rfl, k', v', e1, rfl⟩ := hy
  rw [ev] at e1
  cases e1
  exact ⟨Go.refl S2, rep_keyD _⟩
def wiDk (f : List (Key × D) → List D) (w : WE) : WI := fun ρ M R => w ρ M fun d M1 => match d with
  | .tok p => match M1 p with
    | some (.dic (some q) kd) => R (f kd) (lockedM p q kd) M1
    | _ => False
  | _ => False
theorem di_keys (h : DE X e te we) : DI X tgt e (iKeys te) (wiDk dkeys we) := ⟨pi_keys h.pe, fun Z ρ M σ H R R' r hw q => h.sm _ _ _ _ _ _ _ r hw fun v d H1 M1 g rv z => by
  split at z
  · rename_i p
    split at z
    · rename_i qq kd hp
      cases rv
      obtain ⟨hk, rk⟩ := dic_lock g.sat hp
      exact ⟨p, qq.1, rfl, .inl ⟨qq.2, hk, q _ _ _ _ _ g walks_k z⟩⟩
    · exact z.elim
  · exact z.elim⟩
end
end L3
namespace L3
open PySem L2
theorem Sat.shown {K : PySem.W.Frag} {Z H : Hp} {M : Mp} {p : Addr} {o : HO} {c : Cell} (S : Sat K (upd Z p o) H M) (hz : Z p = none) (ok : Same (fz (upd Z p o) H M) (fz Z H (setM M p c)) → CellOk K Z H (setM M p c) p c) : Sat K Z H (setM M p c) ∧ Same (fz (upd Z p o) H M) (fz Z H (setM M p c)) := by
  have ex : Same (fz (upd Z p o) H M) (fz Z H (setM M p c)) := fun b u e => by
    obtain ⟨e1, e2, e3⟩ := fz_is e
    have hb : b ≠ p := fun z => by
      subst z
      rw [upd_same] at e2
      cases e2
    rw [upd_ne hb] at e2
    exact fz_to (by rw [setM_ne hb]; exact e1) e2 e3
  have hm : M p = none := (S.zed p o upd_same).2
  refine ⟨⟨fun a c' h => ?_, fun a u h => ?_⟩, ex⟩
  · by_cases ha : a = p
    · subst ha
      rw [setM_same] at h
      cases h
      exact ok ex
    · rw [setM_ne ha] at h
      refine (S.cell a c' h).same ex (fun _ q => q) fun b e => ⟨?_, fun _ q => q⟩
      have hb : b ≠ p := fun z => by
        subst z
        rw [hm] at e
        cases e
      rw [setM_ne hb]
      exact e
  · have ha : a ≠ p := fun z => by
      subst z
      rw [hz] at h
      cases h
    obtain ⟨e1, e2⟩ := S.zed a u (by rw [upd_ne ha]; exact h)
    exact ⟨e1, by rw [setM_ne ha]; exact e2⟩
/-- nothing that stood is changed -/
theorem Go.kept {K : PySem.W.Frag} {Z H H' : Hp} {M : Mp} (S : Sat K Z H M) (k : ∀ b o, H b = some o → H' b = some o) : Go K Z H M H' M := by
  have ex : Same (fz Z H M) (fz Z H' M) := fun b u e => fz_to (fz_is e).1 (fz_is e).2.1 (k _ _ (fz_is e).2.2)
  exact ⟨⟨fun a c h => (S.cell a c h).same ex (fun o q => k _ _ q) fun b e => ⟨e, fun o q => k _ _ q⟩, fun a u h => ⟨k _ _ (S.zed a u h).1, (S.zed a u h).2⟩⟩, ex⟩
theorem Go.keptM {K : PySem.W.Frag} {Z H H' : Hp} {M : Mp} {l : Addr} {c : Cell} (S : Sat K Z H M) (k : ∀ b o, H b = some o → H' b = some o) (hl : H l = none) (ok : Same (fz Z H M) (fz Z H' (setM M l c)) → CellOk K Z H' (setM M l c) l c) : Go K Z H M H' (setM M l c) := by
  have ex : Same (fz Z H M) (fz Z H' (setM M l c)) := fun b u e => by
    obtain ⟨e1, e2, e3⟩ := fz_is e
    exact fz_to (by rw [setM_ne (ne_of_none e3 hl)]; exact e1) e2 (k _ _ e3)
  have ml : M l = none := S.free hl
  refine ⟨⟨fun a c' h => ?_, fun a u h => ?_⟩, ex⟩
  · by_cases ha : a = l
    · subst ha
      rw [setM_same] at h
      cases h
      exact ok ex
    · rw [setM_ne ha] at h
      refine (S.cell a c' h).same ex (fun o q => k _ _ q) fun b e => ⟨?_, fun o q => k _ _ q⟩
      have hb : b ≠ l := fun z => by
        subst z
        rw [ml] at e
        cases e
      rw [setM_ne hb]
      exact e
  · obtain ⟨e1, e2⟩ := S.zed a u h
    have ha : a ≠ l := ne_of_none e1 hl
    exact ⟨k _ _ e1, by rw [setM_ne ha]; exact e2⟩
theorem paired_mono {α β : Type} {F G : α → β → Prop} : ∀ {xs : List α} {ys : List β}, Paired F xs ys → (∀ a ∈ xs, ∀ b, F a b → G a b) → Paired G xs ys
  | _, _, .nil, _ => .nil
  | _, _, .cons h t, k => .cons (k _ List.mem_cons_self _ h) (paired_mono t fun a ha b => k a (List.mem_cons_of_mem _ ha) b)
section
variable {X : Cx} {E : WX3} {e a b o i f value tgt kx vx iter : Expr} {es ifs : List Expr} {t ta tb te to ti tv td ty tx tk : TE} {w wa wb we wo wi wv wd wy wx wk : WE} {pos pos' tpos cpos apos p p2 : Pos} {k : Nat} {ts : TS} {ws : WS} {st : Stmt} {tA : TA} {wA : WA}
/-! ### list(d), list(d.values()), list(d.items()) -/
def rListK : List V → Hp → VK → Prop := fun xs H Q => ∃ p kvs, xs = [.ref p] ∧ Rd H p (.dK kvs) ∧ ∀ q, H q = none → Q (.ref q) (upd H q (.lst (kvs.map fun kv => kV kv.1)))
theorem call_listK (hc : X.calm = true) : CallR X (.type "list") rListK := by
  intro pins s σ H xs us Q I r h
  obtain ⟨p, kvs, rfl, hk, q⟩ := h
  rw [Vals.ref1 r]
  obtain ⟨z, lo, vs, rk, hd⟩ := dk_rd I.hok hk
  obtain ⟨ep, hat⟩ := hd.dictAt
  have hl : kvs.length = vs.length := Paired.length rk
  refine PySem.W.kdl_call (PySem.W.kdl_dict (knd := mixKind X.prog X.w) (kvs := vs) (ep := ep) lo) (I.ok.hd hc) hat (by rw [← hl]; exact z) fun h' tk acc' c' hkeep hS hacc => ?_
  refine ⟨.ref s.heap.objs.size, upd H s.heap.objs.size (.lst (kvs.map fun kv => kV kv.1)), I.laid hkeep (Nat.le_refl _) (show ObjOk X.prog X.w _ _ _ (.lst (kvs.map fun kv => kV kv.1)) from ⟨by rw [List.length_map]; exact z, acc'.toList, c', ?_, by rw [Array.toArray_toList]; exact hS⟩), rfl, q _ (I.hok.fresh (Nat.le_refl _))⟩
  have el : acc'.toList.length = acc'.size := by simp
  refine vals_of_at (by rw [List.length_map, el, hacc.1, hl]) fun j x w h1 h2 => ?_
  obtain ⟨k, y, hky, hi⟩ := hacc.2 j w (by rw [← Array.getElem?_toList]; exact h2)
  have e1 : (kvs.map (·.1))[j]? = some k := by
    rw [KV.keys rk, List.getElem?_map, hky]
    rfl
  have e2 : (kvs.map fun kv => kV kv.1)[j]? = some (kV k) := by
    have e3 : (kvs.map fun kv => kV kv.1) = (kvs.map (·.1)).map kV := by
      rw [List.map_map]
      rfl
    rw [e3, List.getElem?_map, e1]
    rfl
  rw [e2] at h1
  cases h1
  exact keyIs_rel hi
def fListK (m : Bool) : FC := fun ds M Q => match ds with
  | [d] => match dicOf M d with
    | some kd => if m = true then ∀ p, M p = none → Q (.tok p) (setM M p (.lst (dkeys kd))) else Q (.lst (dkeys kd)) M
    | none => False
  | _ => False
/-- a new list: of the store, or one that never changes -/
theorem new_list {K : PySem.W.Frag} {Z H : Hp} {M : Mp} {Q : KD} {Q' : VK} {m : Bool} {vs : List V} {ds : List D} {q : Addr} (S : Sat K Z H M) (hq : H q = none) (r : RepL K (fz Z H M) vs ds) (f : if m = true then ∀ p, M p = none → Q (.tok p) (setM M p (.lst ds)) else Q (.lst ds) M) (k : ∀ v d' H' M', Go K Z H M H' M' → Rep K (fz Z H' M') v d' → Q d' M' → Q' v H') : Q' (.ref q) (upd H q (.lst vs)) := by
  cases m with
  | true =>
    rw [if_pos rfl] at f
    exact k _ _ _ _ (Go.putL S (.inl hq) r) (.tok q) (f q (S.free hq))
  | false =>
    rw [if_neg Bool.false_ne_true] at f
    obtain ⟨g, e⟩ := Go.laid (o := .lst vs) S hq
    exact k _ _ _ _ g (.lst (.inl (.inl e)) (r.up g.ex)) f
theorem sim_listK {K : PySem.W.Frag} {m : Bool} : SimC K rListK (fListK m) := by
  intro Z xs ds H M Q Q' S r h q
  unfold fListK at h
  split at h
  · split at h
    · rename_i kd e1
      cases r with
      | cons r1 r2 =>
        cases r2
        obtain ⟨a, kv, rfl, hr, rk⟩ := dic_of S r1 e1
        exact ⟨a, kv, rfl, hr, fun l hl => new_list S hl rk.keys h q⟩
    · exact h.elim
  · exact h.elim
def wListI (m : Bool) (we : WE) : WE := fun ρ M Q => we ρ M fun d M1 => match d with
  | .tok a => match M1 a with
    | some (.dic none kd) => if m = true then ∀ p, M1 p = none → Q (.tok p) (setM M1 p (.lst (ditems kd))) else Q (.lst (ditems kd)) M1
    | _ => False
  | _ => False
theorem items_rep {K : PySem.W.Frag} {H : Hp} : ∀ {kv : List (Key × V)} {kd : List (Key × D)} {ts : List Addr}, RepK K H kv kd → Paired (fun (t : Addr) (q : Key × V) => H t = some (.tup [kV q.1, q.2])) ts kv → RepL K H (ts.map V.ref) (ditems kd)
  | [], kd, _, rk, .nil => by
    rw [rk.nil']
    exact .nil
  | q :: kv, kd, _, rk, .cons h t => by
    obtain ⟨d, kd', rfl, r, rk'⟩ := rk.uncons
    exact .cons (.tup (.inl (.inl h)) (.cons (rep_keyD _) (.cons r .nil))) (items_rep rk' t)
theorem de_listItems (m : Bool) (hc : X.calm = true) (he : DE X e te we) (hm : X.mg "list" = none) (hg : Gl X "list" := by rfl) (hbase : attributeBase e "items" X.env (eval e X.env) = eval e X.env := by rfl) (hline : (apos.endLine == cpos.line) = true := by rfl)
    (hs : starEach [.Call (.Attribute e "items" apos) [] [] cpos] X.env = (false, eval (.Call (.Attribute e "items" apos) [] [] cpos) X.env) :: starEach [] X.env := by rfl) :
    DE X (.Call (.Name "list" p) [.Call (.Attribute e "items" apos) [] [] cpos] [] pos) (LiI.tListItems te) (wListI m we) :=
  ⟨LiI.pe_listItems hc he.pe hg hm (show bootBuiltins "list" = some (.type "list") from rfl) hbase hline hs, fun Z ρ M σ H Q Q' r h q => he.sm _ _ _ _ _ _ _ r h fun x d H1 M1 g1 r1 h1 => by
    split at h1
    · rename_i a
      split at h1
      · rename_i kd e1
        cases r1
        obtain ⟨kv, hk, rk⟩ := dic_free g1.sat e1
        refine ⟨a, kv, rfl, hk, fun H' l ts kp hl hts hnl hp pr => ?_⟩
        have g2 := Go.kept g1.sat kp
        have tup : ∀ M', (∀ t ∈ ts, M' t = none) → Paired (fun (t : Addr) (q : Key × V) => fz Z H' M' t = some (.tup [kV q.1, q.2])) ts kv := fun M' hm => paired_mono pr fun t ht b hb => fz_to (hm t ht) (g1.sat.freeZ (hts t ht)) hb
        cases m with
        | true =>
          rw [if_pos rfl] at h1
          have g3 := Go.keptM (c := .lst (ditems kd)) g1.sat kp hl fun ex => ⟨_, hp, items_rep (rk.up ex) (tup _ fun t ht => by
            have ne : t ≠ l := fun z => by
              rw [z] at ht
              exact hnl ht
            rw [setM_ne ne]
            exact g1.sat.free (hts t ht))⟩
          exact q _ _ _ _ (g1.trans g3) (.tok l) (h1 l (g1.sat.free hl))
        | false =>
          rw [if_neg Bool.false_ne_true] at h1
          exact q _ _ _ _ (g1.trans g2) (.lst (.inl (.inl (fz_to (g1.sat.free hl) (g1.sat.freeZ hl) hp))) (items_rep (rk.up g2.ex) (tup _ fun t ht => g1.sat.free (hts t ht)))) h1
      · exact h1.elim
    · exact h1.elim⟩
/-! ### dict(d), dict(pairs) -/
def rDictD : List V → Hp → VK → Prop := fun xs H Q => ∃ a kvs, xs = [.ref a] ∧ Rd H a (.dK kvs) ∧ ∀ p, H p = none → Q (.ref p) (upd H p (.dK kvs))
theorem call_dictD : CallR X (.type "dict") rDictD := by
  intro pins s σ H xs us Q I r h
  obtain ⟨a, kvs, rfl, hd, q⟩ := h
  rw [Vals.ref1 r]
  exact d_copyOf I hd fun p s' hp I' => ⟨.ref p, _, I', rfl, q p hp⟩
def rDictP (K : PySem.W.Frag) : List V → Hp → VK → Prop := fun xs H Q => ∃ (a : Addr) (ps : List Addr) (kvs : List (Key × V)), xs = [.ref a] ∧ SqL K H a (ps.map V.ref) ∧ Paired (fun p kv => SqT K H p [kV kv.1, kv.2]) ps kvs ∧ ∀ p, H p = none → Q (.ref p) (upd H p (.dK (mergeK [] kvs)))
def rDictA (K : PySem.W.Frag) : List V → Hp → VK → Prop := fun xs H Q => rDictD xs H Q ∨ rDictP K xs H Q
theorem call_dictA (hc : X.calm = true) : CallR X (.type "dict") (rDictA X.K) := by
  intro pins s σ H xs us Q I r h
  rcases h with h | h
  · exact call_dictD pins s σ H xs us Q I r h
  · exact call_dictP hc pins s σ H xs us Q I r h
def fDictA : FC := fun ds M Q => match ds with
  | [d] => match dicOf M d with
    | some kd => ∀ p, M p = none → Q (.tok p) (setM M p (.dic none kd))
    | none => ∃ kd, (∃ a, d = .tok a ∨ d = .lst (ditems kd)) ∧ seqD M d = some (ditems kd) ∧ ∀ p, M p = none → Q (.tok p) (setM M p (.dic none (mergeD [] kd)))
  | _ => False
theorem pairs_rep {K : PySem.W.Frag} {H : Hp} : ∀ {kd : List (Key × D)} {vs : List V}, RepL K H vs (ditems kd) → ∃ (ps : List Addr) (kv : List (Key × V)), vs = ps.map V.ref ∧ Paired (fun p q => SqT K H p [kV q.1, q.2]) ps kv ∧ RepK K H kv kd
  | [], _, r => by
    cases r
    exact ⟨[], [], rfl, .nil, .nil⟩
  | q :: kd, _, r => by
    cases r with
    | cons r1 r2 =>
      obtain ⟨ps, kv, rfl, h1, h2⟩ := pairs_rep r2
      cases r1 with
      | tup hs ha =>
        cases ha with
        | cons a1 a2 =>
          cases a2 with
          | cons a2 a3 =>
            cases a3
            obtain rfl := rep_key a1 (dKey_key q.1)
            exact ⟨_ :: ps, (q.1, _) :: kv, rfl, .cons hs h1, h2.cons a2⟩
theorem sim_dictA {K : PySem.W.Frag} : SimC K (rDictA K) fDictA := by
  intro Z xs ds H M Q Q' S r h q
  unfold fDictA at h
  split at h
  · cases r with
    | cons r1 r2 =>
      cases r2
      split at h
      · rename_i kd e1
        obtain ⟨a, kv, rfl, hr, rk⟩ := dic_of S r1 e1
        refine .inl ⟨a, kv, rfl, hr, fun p hp => ?_⟩
        exact q _ _ _ _ (Go.putDic S (.inl hp) rk) (.tok p) (h p (S.free hp))
      · obtain ⟨kd, hd, hs, hq⟩ := h
        obtain ⟨a, vs, rfl, hl, rl⟩ := lst_of S r1 hd hs
        obtain ⟨ps, kv, rfl, pr, rk⟩ := pairs_rep rl
        refine .inr ⟨a, ps, kv, rfl, hl, paired_mono pr fun p _ q hq => sqt_mono fz_sub hq, fun p hp => ?_⟩
        exact q _ _ _ _ (Go.putDic S (.inl hp) (RepK.merge rk .nil)) (.tok p) (hq p (S.free hp))
  · exact h.elim
end
end L3
namespace L3
open PySem L2
section
variable {X : Cx} {E : WX3} {e a b o i f value tgt kx vx iter : Expr} {es ifs : List Expr} {t ta tb te to tv td ty tx tk : TE} {ti : TI} {wi : WI} {w wa wb we wo wv wd wy wx wk : WE} {pos pos' tpos cpos apos p p2 : Pos} {k : Nat} {ts : TS} {ws : WS} {st : Stmt} {tA : TA} {wA : WA} {tt : TT} {wt : WT} {tg : TG} {wg : WG}
/-! ### {k: v for .. in ..} -/
def wDcL (g : WG) (wt : WT) (wk wv : WE) (Ok : Mp → Prop) (ρ : En) : List D → List (Key × D) → Mp → KD → Prop
  | [], acc, M, Q => Ok M ∧ ∀ p, M p = none → Q (.tok p) (setM M p (.dic none acc))
  | d :: ds, acc, M, Q => Ok M ∧ acc.length < sizeLine ∧ g d ρ M fun ρ1 M1 => wt ρ1 M1 fun b M2 => if b = true then wk ρ1 M2 fun y M3 => wv ρ1 M3 fun z M4 => (match dKey y with | some kk => wDcL g wt wk wv Ok ρ ds (putD acc kk z) M4 Q | none => False) else wDcL g wt wk wv Ok ρ ds acc M2 Q
def wDc (wi : WI) (g : WG) (wt : WT) (wk wv : WE) (vs : List Nat) : WE := fun ρ M Q => wi ρ M fun ds Ok M1 => wDcL g wt wk wv Ok (wipeE ρ vs) ds [] M1 Q
theorem sim_dc {K : PySem.W.Frag} {vs : List Nat} (hi : SimI K ti wi) (hg : SimG K tg wg) (ht : SimT K tt wt) (hk : SimE K tk wk) (he : SimE K tv wv) (kp : KeepG vs tg) : SimE K (tDc ti tg tt tk tv vs) (wDc wi wg wt wk wv vs) := by
  intro Z ρ M σ H Q Q' r h q
  refine hi Z ρ M σ H _ _ r h fun J ds Ok H1 M1 g1 wlk q1 => ?_
  intro D hD
  have m1 := g1.sat.free hD
  have z1 := g1.sat.freeZ hD
  have f1 : fz Z H1 M1 D = none := by
    rw [fz_none m1 z1]
    exact hD
  have s0 := Sat.swap (Z' := upd Z D (.dK [])) (H' := upd H1 D (.dK [])) g1.sat m1 f1 (fun b hb => upd_ne hb) (fun b hb => upd_ne hb) (fun o e => by rw [upd_same] at e ⊢; exact e)
  refine ⟨fun i m H' => m + i = ds.length ∧ ∃ (acc : List (Key × L3.D)) (va : List (Key × V)) (M' : Mp), Sat K (upd Z D (.dK va)) H' M' ∧ Same (fz Z H1 M1) (fz (upd Z D (.dK va)) H' M') ∧ RepK K (fz (upd Z D (.dK va)) H' M') va acc ∧ wDcL wg wt wk wv Ok (wipeE ρ vs) (ds.drop i) acc M' Q,
    ⟨ds.length, rfl, [], [], M1, s0.1, s0.2, .nil, q1⟩, fun i m H' ⟨em, acc, va, M', S, ex, ra, l⟩ => ?_⟩
  have zd : upd Z D (.dK va) D = some (.dK va) := upd_same
  by_cases hlt : i < ds.length
  · have e : ds.drop i = ds[i] :: ds.drop (i + 1) := List.drop_eq_getElem_cons hlt
    rw [e] at l
    obtain ⟨ok, hacc, l⟩ := l
    obtain ⟨go, yl⟩ := (wlk _ H' M' S ex ok).1 i ds[i] (List.getElem?_eq_getElem hlt)
    refine .inr ⟨go, fun H2 => ∃ (acc : List (Key × L3.D)) (va : List (Key × V)) (M' : Mp), Sat K (upd Z D (.dK va)) H2 M' ∧ Same (fz Z H1 M1) (fz (upd Z D (.dK va)) H2 M') ∧ RepK K (fz (upd Z D (.dK va)) H2 M') va acc ∧ wDcL wg wt wk wv Ok (wipeE ρ vs) (ds.drop (i + 1)) acc M' Q,
      fun H2 z => ⟨m - 1, by omega, by omega, z⟩, fun x H3 hy => ?_⟩
    obtain ⟨g3, rp⟩ := yl x H3 hy
    have r3 : R3 K (upd Z D (.dK va)) (wipeE ρ vs) M' (wipe σ vs) H3 := ⟨g3.sat, (wipe_rel (r.env.up g1.ex) vs).up (ex.trans g3.ex)⟩
    have ww : wipe (wipe σ vs) vs = wipe σ vs := by
      have idem : ∀ us : List Nat, (∀ u ∈ us, u ∈ vs) → wipe (wipe σ us) vs = wipe σ vs := fun us => by
        induction us with
        | nil => intro _; rfl
        | cons u us ih =>
          intro hu
          show wipe ((wipe σ us).set u none) vs = _
          rw [wipe_set (hu u List.mem_cons_self)]
          exact ih fun y hy => hu y (List.mem_cons_of_mem _ hy)
      exact idem vs fun u hu => hu
    refine kp x _ _ H3 _ ww ?_
    refine hg _ x _ _ M' _ H3 _ _ r3 rp l fun ρ4 M4 σ4 H4 r4 g4 z => ?_
    refine ht _ ρ4 M4 σ4 H4 _ _ r4 z fun b H5 M5 g5 z5 => ?_
    have g35 := (g3.trans g4).trans g5
    cases b with
    | true =>
      rw [if_pos rfl] at z5 ⊢
      refine hk _ ρ4 M5 σ4 H5 _ _ (r4.go g5) z5 fun y d H6 M6 g6 r6 z6 => ?_
      refine he _ ρ4 M6 σ4 H6 _ _ ((r4.go g5).go g6) z6 fun y2 d2 H7 M7 g7 r7 z7 => ?_
      have g37 := (g35.trans g6).trans g7
      have h7 := g37.sat.zed D _ zd
      split at z7
      · rename_i kk ek
        refine ⟨va, kk, rep_key (r6.up g7.ex) ek, h7.1, by rw [ra.len]; exact hacc, ?_⟩
        have s6 := Sat.swap (Z' := upd Z D (.dK (putK va kk y2))) (H' := upd H7 D (.dK (putK va kk y2))) g37.sat h7.2 (fz_hid zd) (fun b hb => upd_ne hb) (fun b hb => by rw [upd_ne hb, upd_ne hb]) (fun o e => by rw [upd_same] at e ⊢; exact e)
        exact ⟨putD acc kk d2, putK va kk y2, M7, s6.1, (ex.trans g37.ex).trans s6.2, ((ra.up g37.ex).up s6.2).put (r7.up s6.2), z7⟩
      · exact z7.elim
    | false =>
      rw [if_neg Bool.false_ne_true] at z5 ⊢
      exact ⟨acc, va, M5, g35.sat, ex.trans g35.ex, ra.up g35.ex, z5⟩
  · have e : ds.drop i = [] := List.drop_eq_nil_of_le (by omega)
    rw [e] at l
    have hd := S.zed D _ zd
    have s2 := Sat.shown (c := .dic none acc) S z1 fun ex2 => ⟨va, _, hd.1, rfl, ra.up ex2⟩
    refine .inl ⟨(wlk _ H' M' S ex l.1).2 i (by omega), ?_⟩
    exact q _ _ H' _ ⟨s2.1, (g1.ex.trans ex).trans s2.2⟩ (.tok D) (l.2 D hd.2)
variable {scope : Scope} {own : List (Str × Nat)} {gF : Shared → Hp → Addr → List (Str × Addr) → List Addr → TG} {tF : Shared → Hp → Addr → List (Str × Addr) → List Addr → TT} {kF eF : Shared → Hp → Addr → List (Str × Addr) → List Addr → TE}
theorem de_dc (hc : X.calm = true) (hN : X.N.Nodup) (hi : DI X tgt iter ti wi) (ok : BlkOk X.N X.env.scope scope own)
    (hg : ∀ (s : Shared) (H : Hp) (C : Addr) (cl : List (Str × Addr)) (fp : List Addr), DG (X.blk s H scope (compEnvC scope cl C X.env) fp) tgt (gF s H C cl fp) wg) (ht : ∀ (s : Shared) (H : Hp) (C : Addr) (cl : List (Str × Addr)) (fp : List Addr), DTs (X.blk s H scope (compEnvC scope cl C X.env) fp) ifs (tF s H C cl fp) wt)
    (hk : ∀ (s : Shared) (H : Hp) (C : Addr) (cl : List (Str × Addr)) (fp : List Addr), DE (X.blk s H scope (compEnvC scope cl C X.env) fp) kx (kF s H C cl fp) wk)
    (he : ∀ (s : Shared) (H : Hp) (C : Addr) (cl : List (Str × Addr)) (fp : List Addr), DE (X.blk s H scope (compEnvC scope cl C X.env) fp) vx (eF s H C cl fp) wv) (kp : KeepG (own.map (·.2)) (gF X.s_0 X.H_0 0 [] [])) (hs : ∀ x, foldedSetIterable iter X.env x = pure x := by intro _; rfl)
    (qg : ∀ s H C cl fp, gF s H C cl fp = gF X.s_0 X.H_0 0 [] [] := by intros; rfl) (qt : ∀ s H C cl fp, tF s H C cl fp = tF X.s_0 X.H_0 0 [] [] := by intros; rfl) (qk : ∀ s H C cl fp, kF s H C cl fp = kF X.s_0 X.H_0 0 [] [] := by intros; rfl) (qe : ∀ s H C cl fp, eF s H C cl fp = eF X.s_0 X.H_0 0 [] [] := by intros; rfl) :
    DE X (.DictComp kx vx [⟨tgt, iter, ifs, 0⟩] scope pos) (tDc ti (gF X.s_0 X.H_0 0 [] []) (tF X.s_0 X.H_0 0 [] []) (kF X.s_0 X.H_0 0 [] []) (eF X.s_0 X.H_0 0 [] []) (own.map (·.2))) (wDc wi wg wt wk wv (own.map (·.2))) :=
  ⟨pe_dc hc hN hi.pe ok (fun s H C cl fp => (qg s H C cl fp ▸ hg s H C cl fp).pe) (fun s H C cl fp => (qt s H C cl fp ▸ ht s H C cl fp).pe) (fun s H C cl fp => (qk s H C cl fp ▸ hk s H C cl fp).pe) (fun s H C cl fp => (qe s H C cl fp ▸ he s H C cl fp).pe) hs,
    sim_dc hi.sm (hg X.s_0 X.H_0 0 [] []).sm (ht X.s_0 X.H_0 0 [] []).sm (hk X.s_0 X.H_0 0 [] []).sm (he X.s_0 X.H_0 0 [] []).sm kp⟩
end
end L3
namespace L3
open PySem L2
/-! ### isinstance(error, (A, B)) -/
/-! ### x in xs, any data -/
def rInA (K : PySem.W.Frag) (neg : Bool) : R2 := fun x y H Q => ∃ d ds, Dp K H x d ∧ (Dp K H y (.list ds) ∨ Dp K H y (.tuple ds)) ∧ SeqAt.shaped d = true ∧ SeqAt.shaped (.list ds) = true ∧ Q (.bl (if neg then !(ds.any fun z => PyData.eqv z d) else ds.any fun z => PyData.eqv z d)) H
theorem op_notInA {X : Cx} {k : Nat} (hr : Room k X.A) : OpR X (compareOp .NotIn) (rInA X.K true) := by
  intro pins s σ H x y v u Q I rx ry h
  obtain ⟨d, ds, hd, he, sd, se, q⟩ := h
  have hu : X.A.units + 65 < cLine := by
    have := hr.un
    omega
  obtain ⟨as, r1⟩ := Dp.reads I d x v hd rx
  rcases he with he | he
  · obtain ⟨bs, r2⟩ := Dp.reads I (.list ds) y u he ry
    exact SeqAt.notIn_list_reads r2 r1 (SeqAt.canLay_of_shaped se) (SeqAt.canLay_of_shaped sd) (PyProof.Rows.room_in_shaped sd hu) ⟨.bl _, H, I, rfl, q⟩
  · obtain ⟨bs, r2⟩ := Dp.reads I (.tuple ds) y u he ry
    exact SeqAt.notIn_tuple_reads r2 r1 (SeqAt.canLay_of_shaped se) (SeqAt.canLay_of_shaped sd) (PyProof.Rows.room_in_shaped sd hu) ⟨.bl _, H, I, rfl, q⟩
def inAB (neg : Bool) (d : D) (es : List D) : Bool := if neg then !(es.any fun x => eqD x d) else es.any fun x => eqD x d
def fInA (neg : Bool) : F2 := fun d e M Q => ∃ es n, seqD M e = some es ∧ n ≤ 60 ∧ fit n d ∧ (∀ x ∈ es, fit n x) ∧ Q (.bl (inAB neg d es)) M
theorem any_py (d : D) : ∀ es : List D, ((pyL es).any fun z => PyData.eqv z d.py) = es.any fun x => eqD x d
  | [] => rfl
  | e :: es => by
    rw [pyL, List.any_cons, List.any_cons, any_py d es]
    rfl
theorem sim_inA {K : PySem.W.Frag} {neg : Bool} : SimR K (rInA K neg) (fInA neg) := by
  intro Z x y d e H M Q Q' S r1 r2 f q
  obtain ⟨es, n, hs, hn, fd, fe, z⟩ := f
  obtain ⟨a, vs, rfl, hv, rl⟩ := seq_of S r2 hs
  have dd := Rep.dp n d x fd (r1.up fz_sub)
  have de := RepL.dp n es vs fe (rl.up fz_sub)
  have sh : SeqAt.shaped (.list (pyL es)) = true := fit_shaped (n := n + 1) (d := .lst es) (by simpa only [fit] using fe) (by omega)
  refine ⟨d.py, pyL es, dd, ?_, fit_shaped fd (by omega), sh, ?_⟩
  · rcases hv with hv | hv
    · exact .inl (.lst hv de)
    · exact .inr (.tup hv de)
  · rw [any_py]
    exact q _ _ H M (Go.refl S) (.bl _) z
/-! ### a sign in a text -/
/-! ### str(n) -/
/-! ### methods of texts -/
section
variable {X : Cx} {e o : Expr} {te to : TE} {we wo : WE} {apos pos : Pos} {id : String} {name : Str} {r : V → List V → Hp → VK → Prop}
def wJoin (wo we : WE) : WE := fun ρ M Q => wo ρ M fun d M1 => match d with
  | .str a => we ρ M1 fun e M2 => ∃ ys : List Str, seqD M2 e = some (ys.map .str) ∧ (ys.map (·.length)).sum + ys.length * a.length ≤ 16777216 ∧ Q (.str (Txt.join a ys)) M2
  | _ => False
theorem de_join (ho : DE X o to wo) (he : DE X e te we) (hs : starEach [e] X.env = [(false, eval e X.env)] := by rfl) (hbase : attributeBase o "join" X.env (eval o X.env) = eval o X.env := by rfl) (hline : (apos.endLine == pos.line) = true := by rfl) : DE X (.Call (.Attribute o "join" apos) [e] [] pos) (tM1 (fun x xs H Q => ∃ a p, ∃ ys : List Str, x = .str a ∧ xs = [.ref p] ∧ (SqL X.K H p (ys.map V.str) ∨ SqT X.K H p (ys.map V.str)) ∧ (ys.map (·.length)).sum + ys.length * a.length ≤ 16777216 ∧ Q (.str (Txt.join a ys)) H) to te) (wJoin wo we) :=
  ⟨pe_join ho.pe he.pe hs hbase hline, fun Z ρ M σ H Q Q' s h q => ho.sm _ _ _ _ _ _ _ s h fun x d H1 M1 g1 r1 h1 => by
    cases d with
    | str a =>
      cases r1
      refine ⟨⟨a, rfl⟩, he.sm _ _ _ _ _ _ _ (s.go g1) h1 fun y d2 H2 M2 g2 r2 h2 => ?_⟩
      obtain ⟨ys, h3, h4, h5⟩ := h2
      obtain ⟨p, vs, rfl, hv, rl⟩ := seq_of g2.sat r2 h3
      obtain rfl := rl.strs
      exact ⟨a, p, ys, rfl, rfl, hv, h4, q _ _ _ _ (g1.trans g2) (.str _) h5⟩
    | _ => exact h1.elim⟩
end
/-! ### [..] * k -/
end L3
namespace L3
section
open PySem PySem.SeqAt PySem.MeetsSeq PySem.MeetsSeq2 PySem.MeetsSeq3
open PySem.AutoSeq1 (wpAny_loadPart')
/-! ### a dict and a value of another kind -/
/-- an exact dict -/
def IsDct (h : Heap) (l : Addr) : Prop := ∃ es ep dd sl, h.get? l = some { cls := .type "dict", dict := dd, data := .dict es ep, slots := sl }
variable {A : Around} {s : Shared}
end
end L3
namespace L3
open PySem L2
/-! ### equality of data with dicts within -/
def kindD : D → Option Nat
  | .non => some 0
  | .bl _ => some 1
  | .int _ => some 1
  | .str _ => some 2
  | .tup _ => some 3
  | .lst _ => some 4
  | .dct _ _ => some 5
  | _ => none
/-- `EqG n d e b`: d == e is b, by n steps inwards -/
inductive EqG : Nat → D → D → Bool → Prop
  | same {n : Nat} {d e : D} : L3.fit n d → L3.fit n e → EqG n d e (eqD d e)
  | tup {n : Nat} {ds es : List D} (f : Nat → Bool) : (∀ (j : Nat) (d e : D), ds[j]? = some d → es[j]? = some e → EqG n d e (f j)) → EqG (n + 1) (.tup ds) (.tup es) ((List.range (min ds.length es.length)).all f && ds.length == es.length)
  | lst {n : Nat} {ds es : List D} (f : Nat → Bool) : ds.length = es.length → (∀ (j : Nat) (d e : D), ds[j]? = some d → es[j]? = some e → EqG n d e (f j)) → EqG (n + 1) (.lst ds) (.lst es) ((List.range ds.length).all f)
  | lstN {n : Nat} {ds es : List D} : ds.length ≠ es.length → EqG n (.lst ds) (.lst es) false
  | kin {n : Nat} {d e : D} {i j : Nat} : kindD d = some i → kindD e = some j → i ≠ j → EqG n d e false
theorem EqG.up {n m : Nat} {d e : D} {b : Bool} (h : EqG n d e b) (l : n ≤ m) (hf : ∀ (k : Nat) (d : D), L3.fit k d → L3.fit (k + 1) d) : EqG m d e b := by
  induction h generalizing m with
  | @same n d e f1 f2 =>
    have up : ∀ (j : Nat) {d : D}, L3.fit n d → L3.fit (n + j) d := fun j => by
      induction j with
      | zero => exact fun h => h
      | succ j ih => exact fun h => hf _ _ (ih h)
    obtain ⟨j, rfl⟩ := Nat.exists_eq_add_of_le l
    exact .same (up j f1) (up j f2)
  | @tup n ds es f _ ih =>
    obtain ⟨j, rfl⟩ : ∃ j, m = j + 1 := ⟨m - 1, by omega⟩
    exact .tup f fun i d e h1 h2 => ih i d e h1 h2 (by omega : n ≤ j)
  | @lst n ds es f hl _ ih =>
    obtain ⟨j, rfl⟩ : ∃ j, m = j + 1 := ⟨m - 1, by omega⟩
    exact .lst f hl fun i d e h1 h2 => ih i d e h1 h2 (by omega : n ≤ j)
  | lstN h => exact .lstN h
  | kin h1 h2 h3 => exact .kin h1 h2 h3
section
variable {X : Cx} {pins : List (Addr × Obj)} {σ : L2.St} {H : Hp} {s : Shared}
/-- what a value of a kind looks like -/
inductive Looks (h : Heap) : Nat → Value → Prop
  | non : Looks h 0 .none
  | bl (b : Bool) : Looks h 1 (.bool b)
  | int (i : Int) (t : Tok) : Looks h 1 (.int i t)
  | str (x : Str) (t : Tok) : Looks h 2 (.str x t)
  | tup {a : Addr} {its : Array Value} : h.IsTuple a its → Looks h 3 (.ref a)
  | lst {a : Addr} {its : Array Value} : h.IsList a its → Looks h 4 (.ref a)
  | dct {a : Addr} : IsDct h a → Looks h 5 (.ref a)
end
/-! ### the rules -/
/-! ### x in xs -/
end L3
namespace L3
open PySem L2
/-! ### instances of own classes: tokens of the store, by their class's name -/
/-! fields of the store -/
end L3
namespace L3
open PySem L2
section
variable {X : Cx} {W E3 : WX3} {e o value : Expr} {es : List Expr} {kws : List Keyword} {te to tv : TE} {we wo wv : WE} {tr tk : TA} {wr wk : WA} {pos pos' apos p : Pos} {k : Nat} {x m q f g : Str} {st : Stmt} {ps ks : List Str} {F : Fs} {L : List Str} {n : Nat} {idx : List Nat}
variable {C fa : Addr} {fd : FuncData} {sp : Sp} {E : L2.St → XK}
/-! ### C(..): a new instance -/
/-- the new instance is laid -/
theorem Go.made {K : PySem.W.Frag} {Z H : Hp} {M : Mp} {a dx : Addr} (S : Sat K Z H M) (cl : ClsAt K x C) (h1 : H a = none) (h2 : H dx = none) (ne : dx ≠ a) : Go K Z H M (upd (upd H dx (.own a)) a (.ins C dx [])) (setM M a (.ins x [])) := by
  have g1 := (Go.laid (o := .own a) S h2).1
  have h3 : upd H dx (.own a) a = none := by rw [upd_ne (Ne.symm ne)]; exact h1
  exact g1.trans (Go.put g1.sat (.inl h3) fun ex => ⟨C, dx, [], cl, upd_same, rfl, .nil⟩)
/-! ### the end of a class's text -/
end
end L3
namespace L3
open PySem L2
/-! ### what many laws' texts share -/
/-- what stood stands -/
def Up (M M' : Mp) : Prop := ∀ b c, M b = some c → M' b = some c
theorem Up.refl (M : Mp) : Up M M := fun _ _ h => h
theorem Up.trans {M M' M'' : Mp} (a : Up M M') (b : Up M' M'') : Up M M'' := fun x c h => b x c (a x c h)
theorem Up.set {M : Mp} {p : Addr} {c : Cell} (h : M p = none) : Up M (setM M p c) := fun b d e => by
  by_cases hb : b = p
  · subst hb
    rw [h] at e
    cases e
  · rw [setM_ne hb]
    exact e
/-! values of any kind -/
def tyOk (M : Mp) (d : D) : Prop := (tyD M d).isSome = true
def okD (M : Mp) : Nat → D → Prop
  | 0, d => tyOk M d
  | n + 1, d => tyOk M d ∧ ∀ es, d = .tup es → es.length ≤ 1000 ∧ ∀ e ∈ es, okD M n e
theorem atI_nat {v : List Int} {p : Nat} (h : p < v.length) : atI (v.map D.int) (p : Int) = some (.int (v.getD p 0)) := by
  unfold atI ixN
  rw [List.getD_eq_getElem?_getD, List.getElem?_eq_getElem h]
  simp [h]
theorem ix_seqd {M : Mp} {d : D} {v : List Int} {i : Nat} {Q : KD} (h : seqD M d = some (v.map .int)) (hi : i < v.length) (q : Q (.int (v.getD i 0)) M) : ixD d (.int (i : Int)) M Q := by
  have e := atI_nat hi
  cases d <;> first | exact ⟨_, _, h, e, q⟩ | cases h
theorem ints_of {R : Int → Prop} : ∀ {ys : List D}, (∀ y ∈ ys, ∃ b : Int, y = .int b ∧ R b) → ∃ ns : List Int, ys = ns.map .int ∧ ∀ b ∈ ns, R b
  | [], _ => ⟨[], rfl, fun b h => by cases h⟩
  | y :: ys, h => by
    obtain ⟨b, rfl, hb⟩ := h y List.mem_cons_self
    obtain ⟨ns, rfl, hn⟩ := ints_of (fun z hz => h z (List.mem_cons_of_mem _ hz))
    refine ⟨b :: ns, rfl, fun c hc => ?_⟩
    rcases List.mem_cons.mp hc with rfl | hc
    · exact hb
    · exact hn c hc
theorem set_set {M : Mp} {p : Addr} {c d : Cell} : setM (setM M p c) p d = setM M p d := by
  funext b
  unfold setM
  split <;> rfl
theorem okD.ty {M : Mp} {d : D} : ∀ {n : Nat}, okD M n d → tyOk M d
  | 0, h => h
  | _ + 1, h => h.1
theorem len_tup {M : Mp} {es : List D} {Q : KD} : fLen [.tup es] M Q ↔ Q (.int (es.length : Int)) M := by
  constructor
  · rintro ⟨es', h, q⟩
    cases h
    exact q
  · exact fun q => ⟨es, rfl, q⟩
theorem fold_mem (f : Int → Int → Int) (hf : ∀ a b, f a b = a ∨ f a b = b) : ∀ (ns : List Int) (n : Int), ns.foldl f n = n ∨ ns.foldl f n ∈ ns
  | [], n => .inl rfl
  | m :: ns, n => by
    rw [List.foldl_cons]
    rcases fold_mem f hf ns (f n m) with h | h
    · rcases hf n m with e | e
      · exact .inl (h.trans e)
      · exact .inr (by rw [h, e]; exact List.mem_cons_self)
    · exact .inr (List.mem_cons_of_mem _ h)
theorem nums_range (p : Nat) : intsD 0 p = nums (List.range p) := by
  unfold intsD nums
  refine List.map_congr_left fun i _ => ?_
  rw [Int.zero_add]
theorem vec_fit (n : Nat) (v : List Int) : fit (n + 1) (vec v) := fun d hd => by
  obtain ⟨i, _, rfl⟩ := List.mem_map.mp hd
  cases n <;> exact True.intro
theorem ints_cost : ∀ v : List Int, costL (v.map D.int) = 212 * v.length
  | [] => rfl
  | a :: v => by
    show 210 + 2 + costL (v.map D.int) = _
    rw [ints_cost v, List.length_cons]
    omega
theorem vec_shw {n p : Nat} {B : Int} {v : List Int} (h : vk p B v) (hB : B ≤ 1000000) : shw (n + 1) (vec v) := fun d hd => by
  obtain ⟨a, ha, rfl⟩ := List.mem_map.mp hd
  have := h.2 a ha
  have e : ∀ m, shw m (.int a) ↔ a.natAbs < 2 ^ 200 := fun m => by cases m <;> exact Iff.rfl
  rw [e]
  exact Nat.lt_of_lt_of_le (by omega : a.natAbs < 2 ^ 30) (by decide)
theorem vecs_shw {p : Nat} {B : Int} {vs : List (List Int)} (h : ∀ v ∈ vs, vk p B v) (hB : B ≤ 1000000) : shw 2 (.tup (vs.map vec)) := fun d hd => by
  obtain ⟨v, hv, rfl⟩ := List.mem_map.mp hd
  exact vec_shw (h v hv) hB
theorem vec_cost {p : Nat} {B : Int} {v : List Int} (h : vk p B v) (hp : p ≤ 8) : cost (vec v) ≤ 1700 := by
  show costL (v.map D.int) + 4 ≤ _
  rw [ints_cost, h.1]
  omega
theorem vecs_cost {p : Nat} {B : Int} (hp : p ≤ 8) : ∀ {vs : List (List Int)}, (∀ v ∈ vs, vk p B v) → costL (vs.map vec) ≤ 1702 * vs.length
  | [], _ => Nat.le_refl _
  | v :: vs, h => by
    have h1 := vec_cost (h v List.mem_cons_self) hp
    have h2 := vecs_cost hp (vs := vs) fun u hu => h u (List.mem_cons_of_mem _ hu)
    show cost (vec v) + 2 + costL (vs.map vec) ≤ _
    rw [List.length_cons]
    omega
theorem rp {M : Mp} {p : Nat} {B : Int} {vs : List (List Int)} {Q : KD} (hp : p ≤ 8) (hB : B ≤ 1000000) (h : ∀ v ∈ vs, vk p B v) (hl : vs.length ≤ 1000) (q : Q (.str (shown (.tup (vs.map vec)))) M) : fRepr [.tup (vs.map vec)] M Q := by
  refine repr_of (n := 2) (by decide) (vecs_shw h hB) ?_ q
  show costL (vs.map vec) + 4 ≤ _
  have := vecs_cost hp h
  omega
theorem ne_same {M : Mp} {x : Str} {Q : KD} (q : Q (.bl false) M) : eqV true (.str x) (.str x) M Q := by
  refine eqV_str.mpr ?_
  rw [if_pos rfl, decide_eq_true rfl]
  exact q
theorem cost_vec : ∀ ns : List Int, cost (vec ns) ≤ 212 * ns.length + 4 := fun ns => by
  unfold vec
  induction ns with
  | nil => simp [cost, costL]
  | cons n ns ih =>
    simp [cost, costL] at ih ⊢
    omega
theorem shw_vec {n : Nat} {p : Nat} {B : Int} {v : List Int} (hB : B ≤ 2 ^ 60) (h : vk p B v) : shw (n + 1) (vec v) := by
  unfold vec
  simp [shw]
  intro b hb
  have := h.2 b hb
  omega
end L3
namespace L3
open PySem L2
/-! ### values of any shape that are no tokens: whole numbers up to B, texts up to 40 signs, tuples and lists up to L long, the empty dict -/
def val (B L : Nat) : Nat → D → Prop
  | _, .non => True
  | _, .bl _ => True
  | _, .int i => i.natAbs ≤ B
  | _, .str x => PySem.PyData.strOk x = true ∧ x.length ≤ 40
  | _, .ty _ => False
  | _, .tok _ => False
  | _, .exc _ _ _ _ _ => False
  | _, .tpl _ => False
  | _, .dct ks ds => ks = [] ∧ ds = []
  | 0, .tup _ => False
  | 0, .lst _ => False
  | n + 1, .tup ds => ds.length ≤ L ∧ ∀ d ∈ ds, val B L n d
  | n + 1, .lst ds => ds.length ≤ L ∧ ∀ d ∈ ds, val B L n d
theorem eqD_strs (a b : Str) : eqD (.str a) (.str b) = decide (a = b) := by
  show PyData.eqv (.str a) (.str b) = _
  simp [PyData.eqv]
  by_cases h : a = b <;> simp [h]
/-! the text of a whole number -/
/-! ### regions, places, cuts -/
theorem dic_at {M : Mp} {a : Addr} {l : Option (Obj × List (Key × V))} {kd : List (Key × D)} (h : M a = some (.dic l kd)) : dicOf M (.tok a) = some kd := by
  show (match M a with
    | some (.dic _ kd) => some kd
    | _ => none) = _
  rw [h]
end L3
namespace L3
open PySem L2
/-! ### items, sieves, pairs, deeds, states -/
def labD (x : Str × Int) : D := .tup [.str x.1, .int x.2]
structure Itm where
  key : Int
  vec : List Int
  labs : List (Str × Int)
def Itm.d (i : Itm) : D := .tup [.int i.key, L3.vec i.vec, .tup (i.labs.map labD)]
inductive Sv where
  | all | has (n : Str) | inn (n : Str) (lo hi : Int) | no (s : Sv) | conj (ss : List Sv) | disj (ss : List Sv)
mutual
def Sv.d : Sv → D
  | .all => .tup [.str "all"]
  | .has n => .tup [.str "has", .str n]
  | .inn n lo hi => .tup [.str "in", .str n, .int lo, .int hi]
  | .no s => .tup [.str "not", s.d]
  | .conj ss => .tup (.str "and" :: Sv.ds ss)
  | .disj ss => .tup (.str "or" :: Sv.ds ss)
def Sv.ds : List Sv → List D
  | [] => []
  | s :: ss => s.d :: Sv.ds ss
end
/-! pairs of a distance and a key -/
/-! deeds -/
inductive Dd where
  | take (k : Int) | put (i : Itm)
def Dd.d : Dd → D
  | .take k => .tup [.str "take", .int k]
  | .put i => .tup [.str "put", i.d]
def Dd.key : Dd → Int
  | .take k => k
  | .put i => i.key
/-! a dict of items by their keys -/
def stD (st : List Itm) : List (Key × D) := st.map fun i => ((.inl i.key : Key), i.d)
def keysS (st : List Itm) : List Int := st.map Itm.key
def lessS (st : List Itm) (k : Int) : List Itm := st.filter fun i => decide (i.key ≠ k)
def putS (st : List Itm) (i : Itm) : List Itm := if i.key ∈ keysS st then st.map (fun j => if j.key = i.key then i else j) else st ++ [i]
theorem st_any (st : List Itm) (k : Int) : ((stD st).any fun p => decide (p.1 = (.inl k : Key))) = decide (k ∈ keysS st) := by
  rw [Bool.eq_iff_iff, List.any_eq_true, decide_eq_true_eq]
  constructor
  · rintro ⟨p, hp, h⟩
    obtain ⟨i, hi, rfl⟩ := List.mem_map.mp hp
    have h : (Sum.inl i.key : Key) = .inl k := of_decide_eq_true h
    cases h
    exact List.mem_map_of_mem hi
  · intro h
    obtain ⟨i, hi, rfl⟩ := List.mem_map.mp h
    exact ⟨_, List.mem_map_of_mem hi, decide_eq_true rfl⟩
theorem st_put (st : List Itm) (i : Itm) : putD (stD st) (.inl i.key) i.d = stD (putS st i) := by
  unfold putD putS
  rw [st_any]
  by_cases h : i.key ∈ keysS st
  · rw [if_pos (decide_eq_true h), if_pos h]
    unfold stD
    rw [List.map_map, List.map_map]
    refine List.map_congr_left fun j _ => ?_
    show (if (Sum.inl j.key : Key) = .inl i.key then ((Sum.inl j.key : Key), i.d) else (Sum.inl j.key, j.d)) = _
    by_cases e : j.key = i.key
    · rw [if_pos (by rw [e])]
      show _ = ((Sum.inl (if j.key = i.key then i else j).key : Key), (if j.key = i.key then i else j).d)
      rw [if_pos e, e]
    · rw [if_neg (fun z => e (Sum.inl.inj z))]
      show _ = ((Sum.inl (if j.key = i.key then i else j).key : Key), (if j.key = i.key then i else j).d)
      rw [if_neg e]
  · rw [if_neg (by rw [decide_eq_false h]; exact Bool.false_ne_true), if_neg h]
    unfold stD
    rw [List.map_append]
    rfl
theorem put_keys (st : List Itm) (i : Itm) : keysS (putS st i) = if i.key ∈ keysS st then keysS st else keysS st ++ [i.key] := by
  unfold putS
  split
  · unfold keysS
    rw [List.map_map]
    refine List.map_congr_left fun j _ => ?_
    show (if j.key = i.key then i else j).key = j.key
    split
    · rename_i e
      exact e.symm
    · rfl
  · unfold keysS
    rw [List.map_append]
    rfl
theorem put_nodup {st : List Itm} {i : Itm} (h : (keysS st).Nodup) : (keysS (putS st i)).Nodup := by
  rw [put_keys]
  split
  · exact h
  · rename_i e
    refine List.nodup_append.mpr ⟨h, by simp, fun a ha b hb => ?_⟩
    rw [List.mem_singleton] at hb
    subst hb
    exact fun z => e (z ▸ ha)
theorem put_len {st : List Itm} {i : Itm} : (putS st i).length ≤ st.length + 1 := by
  unfold putS
  split
  · rw [List.length_map]
    omega
  · rw [List.length_append]
    exact Nat.le_refl _
theorem put_new {st : List Itm} {i : Itm} (h : i.key ∉ keysS st) : putS st i = st ++ [i] := by
  unfold putS
  rw [if_neg h]
theorem st_val {st : List Itm} {k : Int} (nd : (keysS st).Nodup) : ∀ {i : Itm}, i ∈ st → i.key = k → valD (stD st) (.inl k) = some i.d := by
  induction st with
  | nil => intro i h; cases h
  | cons j st ih =>
    intro i hi hk
    unfold valD stD
    rw [List.map_cons, List.find?_cons]
    by_cases e : j.key = k
    · have : (decide ((Sum.inl j.key : Key) = .inl k)) = true := decide_eq_true (by rw [e])
      rw [show (decide (((Sum.inl j.key : Key), j.d).1 = .inl k)) = true from this]
      rcases List.mem_cons.mp hi with rfl | hi
      · rfl
      · have n := (List.nodup_cons.mp nd).1
        exact absurd (show j.key ∈ st.map Itm.key from by rw [e, ← hk]; exact List.mem_map_of_mem hi) n
    · have : (decide ((Sum.inl j.key : Key) = .inl k)) = false := decide_eq_false fun z => e (Sum.inl.inj z)
      rw [show (decide (((Sum.inl j.key : Key), j.d).1 = .inl k)) = false from this]
      rcases List.mem_cons.mp hi with rfl | hi
      · exact absurd hk e
      · exact ih (List.nodup_cons.mp nd).2 hi hk
theorem st_none {st : List Itm} {k : Int} (h : k ∉ keysS st) : valD (stD st) (.inl k) = none := by
  unfold valD
  rw [List.find?_eq_none.mpr]
  · rfl
  · intro p hp
    obtain ⟨i, hi, rfl⟩ := List.mem_map.mp hp
    intro e
    have e : (Sum.inl i.key : Key) = .inl k := of_decide_eq_true e
    cases e
    exact h (List.mem_map_of_mem hi)
theorem less_new (st : List Itm) (k : Int) : k ∉ keysS (lessS st k) := fun h => by
  obtain ⟨i, hi, e⟩ := List.mem_map.mp h
  have := of_decide_eq_true (List.mem_filter.mp hi).2
  exact this e
theorem less_nodup {st : List Itm} {k : Int} (h : (keysS st).Nodup) : (keysS (lessS st k)).Nodup := h.sublist (List.Sublist.map _ List.filter_sublist)
theorem less_same {st : List Itm} {k : Int} (h : k ∉ keysS st) : lessS st k = st := List.filter_eq_self.mpr fun i hi => decide_eq_true fun e => h (e ▸ List.mem_map_of_mem hi)
def doneS (st : List Itm) : Dd → List Itm
  | .take k => lessS st k
  | .put i => lessS st i.key ++ [i]
theorem done_nodup {st : List Itm} {d : Dd} (h : (keysS st).Nodup) : (keysS (doneS st d)).Nodup := by
  cases d with
  | take k => exact less_nodup h
  | put i =>
    have e : doneS st (.put i) = putS (lessS st i.key) i := (put_new (less_new st i.key)).symm
    rw [e]
    exact put_nodup (less_nodup h)
theorem done_len {st : List Itm} {d : Dd} : (doneS st d).length ≤ st.length + 1 := by
  have h : ∀ k, (lessS st k).length ≤ st.length := fun k => List.length_filter_le _ _
  cases d with
  | take k => exact Nat.le_succ_of_le (h k)
  | put i =>
    show (lessS st i.key ++ [i]).length ≤ _
    rw [List.length_append, List.length_singleton]
    exact Nat.succ_le_succ (h _)
/-! the pairs of the items that pass -/
end L3
namespace L3
open PySem L2
/-! ### comparisons of data -/
/-! ### o.f += e -/
section
variable {X : Cx} {W E3 : WX3} {e o value : Expr} {es : List Expr} {kws : List Keyword} {te to tv : TE} {we wo wv : WE} {tr tk : TA} {wr wk : WA} {pos pos' apos p tpos : Pos} {k : Nat} {x m q f g : Str} {st : Stmt} {ps ks : List Str} {F : Fs} {L : List Str} {n : Nat} {idx : List Nat}
variable {C fa : Addr} {fd : FuncData} {sp : Sp} {E : L2.St → XK}
/-! ### C(..) where keyword-only parameters with whole numbers as defaults lack -/
def kwI (is : List (Str × Int)) : List (Str × V) := is.map fun p => (p.1, .int p.2)
structure HasCD (P : Program) (w : World) (K : PySem.W.Frag) (mg : Str → Option Value) (base : Heap) (k : Nat) (x q : Str) (st : Stmt) (ps : List Str) (F : Fs) (is : List (Str × Int)) : Prop where
  ex : ∃ (C f : Addr) (fd : FuncData), ClsAt K x C ∧ mg x = some (.ref C) ∧ Mk K C f ∧ FnG P w K mg base k f fd ps (lift K F) ∧ FunD K "__init__" q (defArgs st) (defBody st) (defScope st) [] (kwI is) f fd
theorem HasCD.fn {P : Program} {w : World} {K : PySem.W.Frag} {q : Str} {st : Stmt} {C f : Addr} {fd : FuncData} {is : List (Str × V)} (F : FunD K "__init__" q (defArgs st) (defBody st) (defScope st) [] is f fd) : Fun K "__init__" q st f fd := by
  obtain ⟨oc, od, dV, kV, doc, pm, an, cdv, ct, osl, rfl, lk, hcd, hD, hK⟩ := F.ex
  rcases hD with ⟨_, rfl⟩ | ⟨e, _⟩
  · exact ⟨⟨oc, od, kV, doc, pm, an, cdv, ct, osl, rfl, lk, hcd⟩, F.kp⟩
  · exact absurd rfl e
end
end L3
namespace L3
open PySem L2
/-! ### standing questions: what is kept of all pairs -/
end L3
namespace L3
open PySem L2
theorem cut_takeN (xs : List D) (i : Nat) : cutD xs none (some (i : Int)) = xs.take i := by
  unfold cutD
  rw [HT.sIx_nat, HT.sIx_none, Nat.sub_zero, List.drop_zero]
  rcases Nat.le_total i xs.length with h | h
  · rw [Nat.min_eq_left h]
  · rw [Nat.min_eq_right h, List.take_length, List.take_of_length_le h]
theorem at_lastG {α : Type} {xs : List α} {x : α} : atI (xs ++ [x]) (-1) = some x := by
  have e : ixN (xs ++ [x]).length (-1) = some xs.length := by
    unfold ixN
    simp
    omega
  unfold atI
  rw [e]
  simp
end L3
namespace L3
open PySem PySem.Spec PyProof.Rows L2
/-! ### max of a list or a tuple by a key that gives a new tuple of whole numbers -/
section
variable {prog : Program} {w : World} {A : Around} {E : Value → Shared → Prop} {s : Shared}
def keptK (s s' : Shared) : Prop := ∃ g tk, s' = { s with heap := g, toks := tk } ∧ ∀ b o, s.heap.get? b = some o → g.get? b = some o
theorem keptK.refl : keptK s s := ⟨s.heap, s.toks, rfl, fun _ _ e => e⟩
end
/-! ### the key (x[0], -x[1]) -/
end L3
namespace L3
open PySem PySem.Spec PyProof.Rows L2
end L3
namespace L3
open PySem PySem.Spec PyProof.Rows L2
/-! ### a lambda made: its code object is new, or the table tells it -/
/-! ### max(e, key=lambda x: (x[0], -x[1])) of pairs of whole numbers -/
/-! ### a def whose code object's table is known -/
end L3
namespace L3
open PySem L2
/-! ### the law's own call, where defs of it make code objects -/
end L3
namespace L3
open PySem L2
end L3
namespace L3
open PySem PySem.Spec PyProof.Rows L2
/-! ### sets of whole numbers and texts that may be walked -/
section
variable {P : Program} {w : World} {A : Around} {E : Value → Shared → Prop} {s : Shared} {a : Addr}
def mkOf (e : Int × Value) : Key := match e.2 with | .int k _ => .inl k | .str x _ => .inr x | _ => .inl 0
def ItemM (w : World) (e : Int × Value) : Prop := keyIs (mkOf e) e.2 = true ∧ e.1 = keyH w (mkOf e)
theorem itemM_mk {k : Key} {u : Value} (h : keyIs k u = true) : mkOf (keyH w k, u) = k ∧ ItemM w (keyH w k, u) := by
  rcases keyIs_shape h with ⟨i, t, rfl, rfl⟩ | ⟨x, t, rfl, rfl⟩
  · exact ⟨rfl, h, rfl⟩
  · exact ⟨rfl, h, rfl⟩
theorem itemM_is {e : Int × Value} (g : ItemM w e) (k : Key) : keyIs k e.2 = true ↔ mkOf e = k :=
  ⟨fun h => (mixKind default w).inj _ _ _ g.1 h, fun h => h ▸ g.1⟩
theorem itemM_els {l : List (Int × Value)} (g : ∀ e ∈ l, ItemM w e) : ElemsOf (mixKind P w) l := fun e he => ⟨⟨mkOf e, (g e he).1, (g e he).2⟩, by rcases keyIs_shape (g e he).1 with ⟨i, t, _, q⟩ | ⟨x, t, _, q⟩ <;> rw [q] <;> rfl⟩
/-- the set at a: what is in it (S), at most n -/
def SetMx (w : World) (h : Heap) (a : Addr) (S : Key → Prop) (n : Nat) : Prop := ∃ (o : Obj) (es : Array (Int × Value)) (ep : Nat) (t : SetTable), h.get? a = some o ∧ o.ExactSet ∧ o.data = .set es ep t ∧ (∀ e ∈ es.toList, ItemM w e) ∧ (es.toList.map mkOf).Nodup ∧
  (∀ k, k ∈ es.toList.map mkOf ↔ S k) ∧ t.fits es.size = true ∧ es.size ≤ n ∧ Ris t.place.toList ∧ (w.params.followText "set-order" = true ∨ t.led = true)
theorem SetMx.at {h h' : Heap} {S : Key → Prop} {n : Nat} (R : SetMx w h a S n) (k : ∀ o, h.get? a = some o → h'.get? a = some o) : SetMx w h' a S n := R.imp fun o ⟨es, ep, t, e, r⟩ => ⟨es, ep, t, k o e, r⟩
theorem SetMx.congr {h : Heap} {S S' : Key → Prop} {n : Nat} (R : SetMx w h a S n) (e : ∀ k, S k ↔ S' k) : SetMx w h a S' n := R.imp fun o ⟨es, ep, t, h1, h2, h3, h4, h5, h6, r⟩ => ⟨es, ep, t, h1, h2, h3, h4, h5, fun k => (h6 k).trans (e k), r⟩
theorem laid_tail {g : Bool → Sem Unit} (hg : ∀ (b : Bool) (s1 : Shared) (Q : Unit → Shared → Prop), Q () s1 → wpAny (model P w) A (g b) Q E s1) {o : Obj} {es : Array (Int × Value)} {ep : Nat} {t : SetTable} (ho : s.heap.get? a = some o) (hex : o.ExactSet) (hd : o.data = .set es ep t)
    {es1 : Array (Int × Value)} {t2 : SetTable} {S : Key → Prop} {n : Nat} (g1 : ∀ e ∈ es1.toList, ItemM w e) (nd : (es1.toList.map mkOf).Nodup) (m1 : ∀ k, k ∈ es1.toList.map mkOf ↔ S k) (hn : es1.size ≤ n) (hb : n < scanBound) (hf : t2.fits es1.size = true) (hr : Ris t2.place.toList) (hl : w.params.followText "set-order" = true ∨ t2.led = true)
    {wd : Bool} {R : Option Bool → Shared → Prop} (hR : ∀ h1, Heap.SameBut a s.heap h1 → SetMx w h1 a S n → R (some true) { s with heap := h1 }) :
    wpAny (model P w) A (do
      storeSet a es1 t2
      if (!wd && t2.tooFull) = true then do g (relayAll t2 es1 (SetTable.grown es1.size)).2.2; storeSet a (relayAll t2 es1 (SetTable.grown es1.size)).1 (relayAll t2 es1 (SetTable.grown es1.size)).2.1; pure (some true)
      else pure (some true)) R E s := by
  have hb1 : es1.size < scanBound := Nat.lt_of_le_of_lt hn hb
  have k1 := store_at (es' := es1) (t' := t2) ho hd
  have w1 := Heap.SameBut.update s.heap a (Obj.putSet es1 t2)
  refine wpAny_bind (wpAny_storeSet_of ho hd (?_ : _) (fits_of_scanBound hb1)); split
  · have x1 := relayAll_perm t2 es1 (SetTable.grown es1.size); have x2 := relayAll_fits t2 es1 (SetTable.grown es1.size); have x3 := relayAll_ris t2 es1 (SetTable.grown es1.size); have x4 := relayAll_led t2 es1 (SetTable.grown es1.size)
    generalize relayAll t2 es1 (SetTable.grown es1.size) = z at x1 x2 x3 x4 ⊢; obtain ⟨es2, t3, gv⟩ := z; dsimp only at x1 x2 x3 x4 ⊢
    have sz : es2.size = es1.size := by rw [← Array.length_toList, x1.length_eq, Array.length_toList]
    refine wpAny_bind (hg _ _ _ (wpAny_bind (wpAny_storeSet_of k1 rfl (?_ : _) (fits_of_scanBound (by omega)))))
    exact wpAny_pure (hR _ (w1.trans (Heap.SameBut.update _ a _)) ⟨_, es2, _, t3, store_at (es' := es2) (t' := t3) k1 rfl, hex, rfl, fun e he => g1 e (x1.mem_iff.mp he), (x1.map mkOf).nodup_iff.mpr nd, fun k => (x1.map mkOf).mem_iff.trans (m1 k), x2, by omega, x3, hl.imp id fun q => x4.trans q⟩)
  · exact wpAny_pure (hR _ w1 ⟨_, es1, _, t2, k1, hex, rfl, g1, nd, m1, hf, hn, hr, hl⟩)
theorem setMx_add {S : Key → Prop} {n : Nat} {k : Key} {u : Value} {Q : Bool → Shared → Prop} (hk : keyIs k u = true) (R : SetMx w s.heap a S n) (room : n + 1 < scanBound)
    (hQ : ∀ b h1, Heap.SameBut a s.heap h1 → SetMx w h1 a (fun j => S j ∨ j = k) (n + 1) → Q b { s with heap := h1 }) : wpAny (model P w) A (setAddHashed a u (keyH w k)) Q E s := by
  obtain ⟨o, es, ep, t, ho, hex, hd, g, nd, hm, hf, hn, hr, hl⟩ := R
  have hkey : (mixKind P w).is k u = true := hk
  have hsc : u.scannable = true := by rcases keyIs_shape hk with ⟨i, t, rfl, rfl⟩ | ⟨x, t, rfl, rfl⟩ <;> rfl
  have hb : es.size < scanBound := by omega
  have hel : ElemsOf (mixKind P w) es.toList := itemM_els g
  unfold setAddHashed setAddHashedIn; refine wpAny_holding (wpAny_bind (wpAny_setState_of ho hd hf ?_)); dsimp only
  rw [byScan_of hsc hb hel]; simp only [↓reduceIte]; unfold setAddByScan
  refine wpAny_bind (?_ : _); refine wpAny_bind (wpAny_rule (wpAny_bind (wpAny_setScan_of (knd := mixKind P w) hkey ho hd hf hel ?_)))
  cases hfi : List.findIdx? (fun e => (mixKind P w).is k e.2) es.toList with
  | some j =>
    obtain ⟨hj, pj, _⟩ := List.findIdx?_eq_some_iff_getElem.mp hfi
    have hin : S k := (hm k).1 (List.mem_map.mpr ⟨_, List.getElem_mem hj, (itemM_is (g _ (List.getElem_mem hj)) k).1 pj⟩)
    refine wpAny_pure (wpAny_pure (hQ _ s.heap (Heap.SameBut.refl a s.heap) ⟨o, es, ep, t, ho, hex, hd, g, nd, fun i => (hm i).trans ⟨.inl, fun z => z.elim id fun e => e ▸ hin⟩, hf, by omega, hr, hl⟩))
  | none =>
    have hout : k ∉ es.toList.map mkOf := fun z => by
      obtain ⟨e, he, q⟩ := List.mem_map.mp z
      have c := List.findIdx?_eq_none_iff.mp hfi e he
      rw [show (mixKind P w).is k e.2 = true from (itemM_is (g e he) k).2 q] at c
      cases c
    have gw : ∀ (b : Bool) {s1 : Shared} {Q1 : Unit → Shared → Prop}, Q1 () s1 → wpAny (model P w) A (match b with | true => rule "set.scan.the-table-gave-way" | false => pure ()) Q1 E s1 := fun b s1 Q1 q => by
      cases b <;> first | exact wpAny_pure q | exact wpAny_rule q
    have x1 := layNew_perm t es (keyH w k) u; have x2 := layNew_fits t es (keyH w k) u; have x3 := layNew_ris t es (keyH w k) u hr; have x4 := layNew_led t es (keyH w k) u
    dsimp only
    generalize layNew t es (keyH w k) u = z at x1 x2 x3 x4 ⊢; obtain ⟨es1, t1, wd, gave⟩ := z; dsimp only at x1 x2 x3 x4 ⊢
    rw [Array.toList_push] at x1
    have pc : es1.toList.Perm ((keyH w k, u) :: es.toList) := x1.trans (List.perm_append_singleton _ _)
    obtain ⟨ek, gk⟩ := itemM_mk (w := w) hk
    have pk : (es1.toList.map mkOf).Perm (k :: es.toList.map mkOf) := by
      have := pc.map mkOf
      rwa [List.map_cons, ek] at this
    have g1 : ∀ e ∈ es1.toList, ItemM w e := fun e he => (List.mem_cons.mp (pc.mem_iff.mp he)).elim (fun z => z ▸ gk) (g e)
    have nd1 : (es1.toList.map mkOf).Nodup := pk.nodup_iff.mpr (List.nodup_cons.mpr ⟨hout, nd⟩)
    have m1 : ∀ i, i ∈ es1.toList.map mkOf ↔ S i ∨ i = k := fun i => by rw [pk.mem_iff, List.mem_cons, hm i]; exact Or.comm
    have sz : es1.size = es.size + 1 := by rw [← Array.length_toList, pc.length_eq, List.length_cons, Array.length_toList]
    have led1 : w.params.followText "set-order" = true ∨ t1.led = true := hl.imp id fun q => x4.trans q
    refine wpAny_bind (gw _ ?_); split
    · refine wpAny_bind ?_; rw [hashByValue_scannable 8 hsc]
      refine wpAny_pure (laid_tail (fun b s1 Q1 q => by cases b <;> first | exact wpAny_pure q | exact wpAny_rule q) ho hex hd g1 nd1 m1 (by omega) room ?_ ?_ ?_ fun h1 sb r => ?_)
      · first | (split <;> first | exact x2 | exact SetTable.fits_plain_off x2) | exact x2
      · first | (split <;> exact x3) | exact x3
      · first | (split <;> exact led1) | exact led1
      · dsimp only; exact wpAny_pure (hQ _ h1 sb r)
    · refine wpAny_bind (wpAny_pure ?_); simp only [↓reduceIte]
      exact laid_tail (fun b s1 Q1 q => by cases b <;> first | exact wpAny_pure q | exact wpAny_rule q) ho hex hd g1 nd1 m1 (by omega) room x2 x3 led1 fun h1 sb r => by dsimp only; exact wpAny_pure (hQ _ h1 sb r)
end
end L3
namespace L3
open PySem PySem.Spec PyProof.Rows L2
/-! ### set(xs) of whole numbers and texts -/
abbrev frO (w : World) : Obj := { cls := .type "set", dict := none, data := .set #[] 0 (.fresh 0 0 (!w.params.followText "set-order")) }
theorem setMx_new {w : World} {h : Heap} {a : Addr} {S : Key → Prop} (ho : h.get? a = some (frO w)) (hS : ∀ k, ¬ S k) : SetMx w h a S 0 :=
  ⟨_, #[], 0, _, ho, ⟨rfl, rfl, rfl⟩, rfl, (fun e he => by simp at he), (by simp), (fun k => ⟨fun z => by simp at z, fun z => absurd z (hS k)⟩), (by rfl), Nat.le_refl _, List.Pairwise.nil, by
    show _ ∨ (!w.params.followText "set-order") = true
    cases w.params.followText "set-order" <;> simp⟩
section
variable {P : Program} {w : World} {A : Around} {E : Value → Shared → Prop} {s : Shared} {R : Result → Shared → Prop} {I : Addr} {fp wr : List Addr} {G : Array GenState → Array GenState → Prop} {n : Nat} {Pv : Nat → Value → Prop} {St : Nat → Shared → Prop}
theorem set_loop (W : WalksS P w A.in1 I fp wr G n Pv St) (S : Addr) (hSf : S ∉ fp) (ks : List Key) (hlen : ks.length = n) (hb : n + 1 < scanBound) (hval : ∀ i v, Pv i v → ∃ k, ks[i]? = some k ∧ keyIs k v = true) :
    ∀ (r i : Nat) (s : Shared), n - i = r → i ≤ n → St i s → SetMx w s.heap S (fun k => k ∈ ks.take i) i →
      (∀ s1, Moved (S :: wr) G s s1 → SetMx w s1.heap S (fun k => k ∈ ks) n → R (.ok (.ret .none)) s1) → codeAny (model P w) A (.builtin "set.update.loop" ⟨[.ref S, .ref I], []⟩) R s := by
  have hSw : S ∉ wr := fun h => hSf (W.sub _ h)
  have sub : ∀ c ∈ wr, c ∈ S :: wr := fun c hc => List.mem_cons_of_mem _ hc
  intro r
  induction r with
  | zero =>
    intro i s hr hi hst hS hR
    obtain rfl : i = n := by omega
    refine codeAny_builtin PyProof.Rows.F.entry_set_update_loop (?_ : _); rw [Around.under_plainId PyProof.Rows.F.plain_set_update_loop _]
    show wpAny _ A.in1 (pyNext (.ref I) >>= _) _ _ s
    refine wpAny_bind (W.done s _ _ hst fun s1 hm => wpAny_pure (hR s1 (hm.mono sub) ?_))
    have := hS.at fun o e => hm.heap S o hSw e
    rwa [List.take_of_length_le (by omega)] at this
  | succ r ih =>
    intro i s hr hi hst hS hR
    have lt : i < n := by omega
    refine codeAny_builtin PyProof.Rows.F.entry_set_update_loop (?_ : _); rw [Around.under_plainId PyProof.Rows.F.plain_set_update_loop _]
    show wpAny _ A.in1 (pyNext (.ref I) >>= _) _ _ s
    refine wpAny_bind (W.item i s _ _ lt hst fun v s1 hP hst1 hm => ?_); obtain ⟨k, ek, kv⟩ := hval i v hP
    have hS1 := hS.at fun o e => hm.heap S o hSw e
    show wpAny _ A.in1 (holding [v] (setAdd S v) >>= _) _ _ s1
    refine wpAny_bind (wpAny_holding (?_ : _)); unfold setAdd; refine wpAny_holding (wpAny_bind ((mixKind P w).pyHash (k := k) kv ?_))
    refine setMx_add (s := { s1 with toks := s1.toks + 1 }) kv hS1 (by omega) fun b h1 sb hS2 => ?_
    have hS3 : SetMx w h1 S (fun k => k ∈ ks.take (i + 1)) (i + 1) := hS2.congr fun j => by
      rw [List.take_add_one, ek]
      simp
    have oth : ∀ c o, c ≠ S → s1.heap.get? c = some o → h1.get? c = some o := fun c o hc e => (sb.2 c hc).trans e
    refine wpAny_pure ⟨plainId_quiet PyProof.Rows.F.plain_set_update_loop _, ih (i + 1) _ (by omega) lt (W.frame _ s1 _ _ hst1 (Nat.le_succ _) fun c hc o e => oth c o (fun h => hSf (h ▸ hc)) e) hS3 fun s2 hm2 hS4 => hR s2 (Moved.trans W.gtrans ((hm.mono sub).then_heap (Nat.le_succ _) fun c o hc e => oth c o (fun h => hc (h ▸ List.mem_cons_self)) e) hm2) hS4⟩
theorem call_setMx_list {l : Addr} {its : Array Value} (ks : List Key) {Q : Value → Shared → Prop} (hh : A.handled = none) (hl : s.heap.IsList l its) (hk : ∀ (i : Nat) (v : Value), its[i]? = some v → ∃ k, ks[i]? = some k ∧ keyIs k v = true) (hz : ks.length = its.size) (hb : its.size + 1 < scanBound)
    (h : ∀ (h1 : Heap) (tk : Nat), SetMx w h1 s.heap.objs.size (fun k => k ∈ ks) its.size → (∀ b o, s.heap.get? b = some o → h1.get? b = some o) → Q (.ref s.heap.objs.size) { s with heap := h1, toks := tk }) :
    wpAny (model P w) A (call (.type "set") [.ref l]) Q E s := by
  obtain ⟨c, tl, hmro⟩ := F.called_set.mro; have hmade := F.called_set.made; have hsub := F.called_set.sub
  refine wpAny_call (codeAny_of_tree (?_ : _)); show wpAny _ _ (callAny (.type "set") _) _ _ _
  refine wpAny_pure ⟨Code.quiet_builtin _ (by decide +kernel), codeAny_builtin F.entry_type_call (?_ : _)⟩; rw [Around.under_plain (weight_type_call_type "set" [.ref l] []) rfl]
  have u1 := F.called_set.notType; have u2 := F.called_set.canCreate; have u3 := F.typeCall_set_1 (.ref l)
  repeat (any_goals (first | wp_step | assumption))
  refine codeAny_mono (code_set_led1 (.ref l) (E := E) (Q₁ := fun ob s1 => ob = .ref s.heap.objs.size ∧ s1 = { s with heap := s.heap.push (frO w) }) ⟨rfl, rfl⟩) fun r s1 hr => ?_
  cases r with
  | error e => exact hr
  | ok fl =>
    cases fl with
    | next => exact hr.elim
    | brk => exact hr.elim
    | cont => exact hr.elim
    | ret ob =>
      obtain ⟨rfl, rfl⟩ := hr
      have gS : (s.heap.push (frO w)).get? s.heap.objs.size = some (frO w) := Heap.get?_push_size _ rfl
      have tS : Shared.TypeIs { s with heap := s.heap.push (frO w) } (.ref s.heap.objs.size) "set" := ⟨_, gS, rfl⟩
      have u4 := F.called_set.init.lookup; have u5 := F.called_set.init.bind (.ref s.heap.objs.size)
      repeat (any_goals (first | wp_step | assumption))
      refine codeAny_mono (codeAny_call_builtin (R := wants (fun r s2 => r = .none ∧ ∃ h1 tk, s2 = { s with heap := h1, toks := tk } ∧ SetMx w h1 s.heap.objs.size (fun k => k ∈ ks) its.size ∧ (∀ b o, s.heap.get? b = some o → h1.get? b = some o)) E) F.called_set.init.plain F.entry_set_init (check_set_init_1 tS ?_)) fun r2 s2 hr2 => ?_
      · obtain ⟨⟨ocls, odict, odata, oslots⟩, hol, hcl, nl, hdl⟩ := hl
        simp only at hcl hdl; subst hcl; subst hdl
        have hol1 : (s.heap.push (frO w)).get? l = some { cls := .type "list", dict := odict, data := .seq its nl, slots := oslots } := Heap.get?_push_of_some _ hol
        have u6 := F.sub_list_set; have u7 := F.sub_list_frozenset; have u8 : (Value.type "list" == Value.type "dict") = false := by decide
        have hl1 : (s.heap.push (frO w)).IsList l its := ⟨_, hol1, rfl, nl, rfl⟩
        unfold Builtin.«set.__init__» noKeywords Builtin.Frozenset.updateFrom; generalize hPI : pyIter = PI
        wp_walk
        subst hPI; refine wpAny_pyIter_list hl1 (wpAny_bind (wpAny_runValue ?_))
        have lS : l < s.heap.objs.size := Heap.lt_size hol
        have hh3 : A.in1.in1.in1.handled = none := hh
        have zp : (s.heap.push (frO w)).objs.size = s.heap.objs.size + 1 := Heap.size_push ..
        have nI : l ≠ (s.heap.push (frO w)).objs.size := Nat.ne_of_lt (zp ▸ Nat.lt_succ_of_lt lS)
        have n0 : s.heap.objs.size ≠ (s.heap.push (frO w)).objs.size := Nat.ne_of_lt (zp ▸ Nat.lt_succ_self _)
        have nS : s.heap.objs.size ∉ [(s.heap.push (frO w)).objs.size, l] := fun z => by
          rcases List.mem_cons.mp z with z | z
          · exact n0 z
          · exact Nat.ne_of_gt lS (List.mem_singleton.mp z)
        refine set_loop ((Walks.list hh3 _ l nI its).toS) s.heap.objs.size nS ks hz hb hk (its.size - 0) 0 _ (by omega) (Nat.zero_le _) ⟨⟨_, Heap.get?_push_size _ rfl, rfl, rfl⟩, (hl1.push _)⟩ (setMx_new (Heap.get?_push_of_some _ gS) fun k z => by simp at z) fun s3 hm hS3 => ?_
        obtain ⟨h1, g3, d3, tk3, os3⟩ := s3; have e1 : g3 = s.gens := hm.gens; have e2 : d3 = s.drawn := hm.drawn; have e3 : os3 = s.os := hm.os
        subst e1; subst e2; subst e3
        show wpAny _ _ _ _ _ _
        refine wpAny_pure (?_ : _); show wpAny _ _ (ret Value.none) _ _ _
        refine wpAny_pure ⟨rfl, h1, tk3, rfl, hS3, fun b o e => hm.heap b o (fun z => ?_) (Heap.get?_push_of_some _ (Heap.get?_push_of_some _ e))⟩
        have lb := Heap.lt_size e
        rcases List.mem_cons.mp z with z | z
        · exact Nat.ne_of_lt lb z
        · exact Nat.ne_of_lt (Nat.lt_succ_of_lt lb) ((List.mem_singleton.mp z).trans zp)
      · cases r2 with
        | error e => exact hr2
        | ok fl2 =>
          cases fl2 with
          | next => exact hr2.elim
          | brk => exact hr2.elim
          | cont => exact hr2.elim
          | ret r =>
            obtain ⟨rfl, h1, tk, rfl, hS3, k3⟩ := hr2
            repeat (any_goals (first | wp_step | assumption))
            exact h _ _ hS3 k3
theorem call_setMx_tup {l : Addr} {its : Array Value} (ks : List Key) {Q : Value → Shared → Prop} (hh : A.handled = none) (hl : s.heap.IsTuple l its) (hk : ∀ (i : Nat) (v : Value), its[i]? = some v → ∃ k, ks[i]? = some k ∧ keyIs k v = true) (hz : ks.length = its.size) (hb : its.size + 1 < scanBound)
    (h : ∀ (h1 : Heap) (tk : Nat), SetMx w h1 s.heap.objs.size (fun k => k ∈ ks) its.size → (∀ b o, s.heap.get? b = some o → h1.get? b = some o) → Q (.ref s.heap.objs.size) { s with heap := h1, toks := tk }) :
    wpAny (model P w) A (call (.type "set") [.ref l]) Q E s := by
  obtain ⟨c, tl, hmro⟩ := F.called_set.mro; have hmade := F.called_set.made; have hsub := F.called_set.sub
  refine wpAny_call (codeAny_of_tree (?_ : _)); show wpAny _ _ (callAny (.type "set") _) _ _ _
  refine wpAny_pure ⟨Code.quiet_builtin _ (by decide +kernel), codeAny_builtin F.entry_type_call (?_ : _)⟩; rw [Around.under_plain (weight_type_call_type "set" [.ref l] []) rfl]
  have u1 := F.called_set.notType; have u2 := F.called_set.canCreate; have u3 := F.typeCall_set_1 (.ref l)
  repeat (any_goals (first | wp_step | assumption))
  refine codeAny_mono (code_set_led1 (.ref l) (E := E) (Q₁ := fun ob s1 => ob = .ref s.heap.objs.size ∧ s1 = { s with heap := s.heap.push (frO w) }) ⟨rfl, rfl⟩) fun r s1 hr => ?_
  cases r with
  | error e => exact hr
  | ok fl =>
    cases fl with
    | next => exact hr.elim
    | brk => exact hr.elim
    | cont => exact hr.elim
    | ret ob =>
      obtain ⟨rfl, rfl⟩ := hr
      have gS : (s.heap.push (frO w)).get? s.heap.objs.size = some (frO w) := Heap.get?_push_size _ rfl
      have tS : Shared.TypeIs { s with heap := s.heap.push (frO w) } (.ref s.heap.objs.size) "set" := ⟨_, gS, rfl⟩
      have u4 := F.called_set.init.lookup; have u5 := F.called_set.init.bind (.ref s.heap.objs.size)
      repeat (any_goals (first | wp_step | assumption))
      refine codeAny_mono (codeAny_call_builtin (R := wants (fun r s2 => r = .none ∧ ∃ h1 tk, s2 = { s with heap := h1, toks := tk } ∧ SetMx w h1 s.heap.objs.size (fun k => k ∈ ks) its.size ∧ (∀ b o, s.heap.get? b = some o → h1.get? b = some o)) E) F.called_set.init.plain F.entry_set_init (check_set_init_1 tS ?_)) fun r2 s2 hr2 => ?_
      · obtain ⟨⟨ocls, odict, odata, oslots⟩, hol, hcl, nl, hdl⟩ := hl
        simp only at hcl hdl; subst hcl; subst hdl
        have hol1 : (s.heap.push (frO w)).get? l = some { cls := .type "tuple", dict := odict, data := .seq its nl, slots := oslots } := Heap.get?_push_of_some _ hol
        have u6 := F.sub_tuple_set; have u7 := F.sub_tuple_frozenset; have u8 : (Value.type "tuple" == Value.type "dict") = false := by decide
        have hl1 : (s.heap.push (frO w)).IsTuple l its := ⟨_, hol1, rfl, nl, rfl⟩
        unfold Builtin.«set.__init__» noKeywords Builtin.Frozenset.updateFrom; generalize hPI : pyIter = PI
        wp_walk
        subst hPI; refine wpAny_pyIter_tuple hl1 (wpAny_bind (wpAny_runValue ?_))
        have lS : l < s.heap.objs.size := Heap.lt_size hol
        have hh3 : A.in1.in1.in1.handled = none := hh
        have zp : (s.heap.push (frO w)).objs.size = s.heap.objs.size + 1 := Heap.size_push ..
        have nI : l ≠ (s.heap.push (frO w)).objs.size := Nat.ne_of_lt (zp ▸ Nat.lt_succ_of_lt lS)
        have n0 : s.heap.objs.size ≠ (s.heap.push (frO w)).objs.size := Nat.ne_of_lt (zp ▸ Nat.lt_succ_self _)
        have nS : s.heap.objs.size ∉ [(s.heap.push (frO w)).objs.size, l] := fun z => by
          rcases List.mem_cons.mp z with z | z
          · exact n0 z
          · exact Nat.ne_of_gt lS (List.mem_singleton.mp z)
        refine set_loop ((Walks.tuple hh3 _ l nI its).toS) s.heap.objs.size nS ks hz hb hk (its.size - 0) 0 _ (by omega) (Nat.zero_le _) ⟨⟨_, Heap.get?_push_size _ rfl, rfl, rfl⟩, (hl1.push _)⟩ (setMx_new (Heap.get?_push_of_some _ gS) fun k z => by simp at z) fun s3 hm hS3 => ?_
        obtain ⟨h1, g3, d3, tk3, os3⟩ := s3; have e1 : g3 = s.gens := hm.gens; have e2 : d3 = s.drawn := hm.drawn; have e3 : os3 = s.os := hm.os
        subst e1; subst e2; subst e3
        show wpAny _ _ _ _ _ _
        refine wpAny_pure (?_ : _); show wpAny _ _ (ret Value.none) _ _ _
        refine wpAny_pure ⟨rfl, h1, tk3, rfl, hS3, fun b o e => hm.heap b o (fun z => ?_) (Heap.get?_push_of_some _ (Heap.get?_push_of_some _ e))⟩
        have lb := Heap.lt_size e
        rcases List.mem_cons.mp z with z | z
        · exact Nat.ne_of_lt lb z
        · exact Nat.ne_of_lt (Nat.lt_succ_of_lt lb) ((List.mem_singleton.mp z).trans zp)
      · cases r2 with
        | error e => exact hr2
        | ok fl2 =>
          cases fl2 with
          | next => exact hr2.elim
          | brk => exact hr2.elim
          | cont => exact hr2.elim
          | ret r =>
            obtain ⟨rfl, h1, tk, rfl, hS3, k3⟩ := hr2
            repeat (any_goals (first | wp_step | assumption))
            exact h _ _ hS3 k3
end
end L3
namespace L3
open PySem PySem.Spec PyProof.Rows L2
/-! ### sorted(set(xs)) of whole numbers or of texts -/
def keyDD : Key → D
  | .inl i => .int i
  | .inr x => .str x
theorem keyDD_rep {K : PySem.W.Frag} {H : Hp} (k : Key) : Rep K H (kV k) (keyDD k) := by
  cases k with
  | inl i => exact .int i
  | inr x => exact .str x
theorem keyDD_reps {K : PySem.W.Frag} {H : Hp} : ∀ ks : List Key, RepL K H (ks.map kV) (ks.map keyDD)
  | [] => .nil
  | k :: ks => .cons (keyDD_rep k) (keyDD_reps ks)
theorem reps_keyDD {K : PySem.W.Frag} {H : Hp} : ∀ {vs : List V} {ks : List Key}, RepL K H vs (ks.map keyDD) → vs = ks.map kV
  | _, [], h => by cases h; rfl
  | _, k :: ks, h => by
    cases h with
    | cons r t =>
      rw [List.map_cons, ← reps_keyDD t]
      cases k with
      | inl i => cases r; rfl
      | inr x => cases r; rfl
/-- the keys in their order -/
def srtK (ks : List Key) : List Key := ks.mergeSort (PySem.W.dataLe false keyPy)
section
variable {P : Program} {w : World} {A : Around} {E : Value → Shared → Prop} {s : Shared} {a : Addr}
theorem key_reads {h : Heap} {k : Key} {v : Value} (r : keyIs k v = true) : Reads h v (keyPy k) [] := by
  rcases keyIs_shape r with ⟨i, t, rfl, rfl⟩ | ⟨x, t, rfl, rfl⟩
  · exact .int i t
  · exact .str x t
theorem key_depth (k : Key) : (keyPy k).depth = 0 := by cases k <;> rfl
def keyV (v : Value) : Key := mkOf (0, v)
theorem each_keys : ∀ {vs : List Value}, (∀ v ∈ vs, keyIs (keyV v) v = true) → PySem.W.EachIs (fun v k => keyIs k v = true) vs (vs.map keyV)
  | [], _ => .nil
  | v :: vs, h => .cons (h v List.mem_cons_self) (each_keys fun u hu => h u (List.mem_cons_of_mem _ hu))
theorem each_mono {α β : Type} {R T : α → β → Prop} (f : ∀ x y, R x y → T x y) : ∀ {xs : List α} {ys : List β}, PySem.W.EachIs R xs ys → PySem.W.EachIs T xs ys
  | _, _, .nil => .nil
  | _, _, .cons h r => .cons (f _ _ h) (each_mono f r)
theorem vals_keys : ∀ {vs : List Value} {ks : List Key}, PySem.W.EachIs (fun v k => keyIs k v = true) vs ks → Vals (ks.map kV) vs
  | _, _, .nil => .nil
  | _, _, .cons h r => .cons (keyIs_rel h) (vals_keys r)
theorem sorted_setMx {S : Key → Prop} {n : Nat} {Q : Value → Shared → Prop} (R : SetMx w s.heap a S n) (hh : A.handled = none) (hn : n < scanBound) (hz : n ≤ sizeLine) (al : ∀ ks : List Key, (∀ k ∈ ks, S k) → PySem.W.AllAlike (ks.map keyPy) ∧ PySem.W.Sortable (ks.map keyPy)) (hu : A.units + 3 < cLine)
    (hQ : ∀ s1 p (out : List Value) (c : Nat) (ks : List Key), (∀ b o, s.heap.get? b = some o → s1.heap.get? b = some o) → s1.gens = s.gens → s1.os = s.os → s.heap.objs.size ≤ p → s1.heap.get? p = some (seqObj "list" out.toArray c) →
      PySem.W.EachIs (fun v k => keyIs k v = true) out (srtK ks) → ks.Nodup → (∀ k, k ∈ ks ↔ S k) → ks.length ≤ n → Q (.ref p) s1) : wpAny (model P w) A (call (.builtin "sorted") [.ref a]) Q E s := by
  obtain ⟨o, es, ep, t, ho, hex, hd, g, nd, hm, hf, hsz, hr, hl⟩ := R
  refine Calls.call_function_entry kind_sorted plain_sorted entry_sorted (args_sorted1 _) (?_ : _); unfold Builtin.«sorted»
  refine wpAny_bind (m := checkCount "sorted" 1 1 _) (wpAny_pure (wpAny_bind (collect_set (A := A.in1) hh ⟨o, ho, hex.1, hd⟩ hf (by omega) hr hl fun s1 vs k1 z1 g1 o1 pm => ?_)))
  have lv : vs.length = es.size := by rw [pm.length_eq, List.length_map, Array.length_toList]
  have own : ∀ v ∈ vs, keyIs (keyV v) v = true := fun v hv => by
    obtain ⟨e, he, rfl⟩ := List.mem_map.mp (pm.mem_iff.mp hv)
    exact (g e he).1
  have pk : (vs.map keyV).Perm (es.toList.map mkOf) := by
    have q := pm.map keyV
    rw [List.map_map] at q
    exact q
  have hin : ∀ k, k ∈ vs.map keyV ↔ S k := fun k => pk.mem_iff.trans (hm k)
  obtain ⟨al1, so1⟩ := al (vs.map keyV) fun k hk => (hin k).1 hk
  have ek := each_keys own
  refine wpAny_bind (wpAny_newList (?_ : _) (by omega))
  have hoL : (s1.heap.push (seqObj "list" vs.toArray 0)).get? s1.heap.objs.size = some (seqObj "list" vs.toArray 0) := Heap.get?_push_size _ rfl
  refine wpAny_bind (wpAny_holding (PySem.W.list_sort_data (enc := keyPy) (R := fun v k => keyIs k v = true) hoL ek (each_mono (fun v k h => ⟨[], key_reads h, by simp⟩) ek) al1 so1 (by rw [List.length_map]; omega) (fun k _ => ?_) fun out ho2 he => ?_))
  · rw [key_depth]
    show A.units + 1 + 1 + 0 < cLine
    omega
  · obtain ⟨c, hc⟩ := sortedHeap_at (vs := vs) (out := out.toArray) hoL
    refine wpAny_pure ⟨_, rfl, hQ _ s1.heap.objs.size out c (vs.map keyV) (fun b u e => ?_) g1 o1 z1 hc he (pk.nodup_iff.mpr nd) hin (by rw [List.length_map]; omega)⟩
    have q := k1 b u e
    have lt := Heap.lt_size q
    show (sortedHeap (s1.heap.push (seqObj "list" vs.toArray 0)) s1.heap.objs.size vs out.toArray).get? b = some u
    rw [sortedHeap_old (Nat.ne_of_lt lt) (by rw [size_push']; exact Nat.lt_succ_of_lt lt)]
    exact Heap.get?_push_of_some _ q
end
end L3
namespace L3
open PySem PySem.Spec PyProof.Rows L2
def SetMO (w : World) (a : Addr) (S : Key → Prop) (n : Nat) : HO := .ext fun h => SetMx w h a S n
theorem setMO_new {P : Program} {w : World} {H : Hp} {h : Heap} {a : Addr} {S : Key → Prop} {n : Nat} (R : SetMx w h a S n) : ObjOk P w H h a (SetMO w a S n) :=
  ⟨R, R.elim fun o ⟨_, _, _, e, _⟩ => ⟨o, e⟩, fun _ _ q k => SetMx.at q k⟩
def rSetMx (K : PySem.W.Frag) (w : World) : List V → Hp → VK → Prop := fun xs H Q => ∃ (l : Addr) (ks : List Key), xs = [.ref l] ∧ (SqL K H l (ks.map kV) ∨ SqT K H l (ks.map kV)) ∧ ks.length ≤ 4000 ∧ ∀ p, H p = none → Q (.ref p) (upd H p (SetMO w p (fun k => k ∈ ks) ks.length))
theorem keyIs_of {k : Key} {u : Value} (r : RelV (kV k) u) : keyIs k u = true := by
  cases k with
  | inl i =>
    obtain ⟨t, rfl⟩ := (show ∃ t, u = Value.int i t from r)
    exact keyIs_int i t
  | inr x =>
    obtain ⟨t, rfl⟩ := (show ∃ t, u = Value.str x t from r)
    exact keyIs_str x t
theorem vals_key_at : ∀ {ks : List Key} {its : List Value}, Vals (ks.map kV) its → ∀ (i : Nat) (v : Value), its[i]? = some v → ∃ k, ks[i]? = some k ∧ keyIs k v = true
  | [], _, h, i, v, e => by
    cases h
    simp at e
  | k :: ks, _, h, i, v, e => by
    cases h with
    | cons r t =>
      cases i with
      | zero =>
        obtain rfl := Option.some.inj e
        exact ⟨k, rfl, keyIs_of r⟩
      | succ i => exact vals_key_at t i v e
theorem cr_setMx {X : Cx} (hc : X.calm = true) : CallR X (.type "set") (rSetMx X.K X.w) := by
  intro pins s σ H xs us Q I r h
  obtain ⟨l, ks, rfl, hs, hb, q⟩ := h
  rw [Vals.ref1 r]
  have fin : ∀ (h1 : Heap) (tk m : Nat), m ≤ ks.length → SetMx X.w h1 s.heap.objs.size (fun k => k ∈ ks) m → (∀ b o, s.heap.get? b = some o → h1.get? b = some o) → EP X pins σ Q (.ref s.heap.objs.size) { s with heap := h1, toks := tk } := fun h1 tk m hm R k => by
    have R' : SetMx X.w h1 s.heap.objs.size (fun k => k ∈ ks) ks.length := by
      obtain ⟨o, es, ep, t, a1, a2, a3, a4, a5, a6, a7, a8, a9⟩ := R
      exact ⟨o, es, ep, t, a1, a2, a3, a4, a5, a6, a7, Nat.le_trans a8 hm, a9⟩
    exact ⟨.ref _, upd H s.heap.objs.size (SetMO X.w s.heap.objs.size (fun k => k ∈ ks) ks.length), I.laid (t' := tk) k (Nat.le_refl _) (setMO_new R'), rfl, q _ (I.hok.fresh (Nat.le_refl _))⟩
  rcases hs with hs | hs
  · obtain ⟨its, rv, pl, hz⟩ := I.list hs
    have lz : its.toArray.size = ks.length := by rw [List.size_toArray, ← rv.length, List.length_map]
    exact call_setMx_list (P := X.prog) (w := X.w) ks (I.ok.hd hc) pl.isList (fun i v e => vals_key_at rv i v (by rw [List.getElem?_toArray] at e; exact e)) lz.symm (by rw [lz]; unfold scanBound; omega) fun h1 tk R k => fin h1 tk _ (Nat.le_of_eq lz) R k
  · obtain ⟨its, rv, pl, hz⟩ := I.tuple hs
    have lz : its.toArray.size = ks.length := by rw [List.size_toArray, ← rv.length, List.length_map]
    exact call_setMx_tup (P := X.prog) (w := X.w) ks (I.ok.hd hc) pl (fun i v e => vals_key_at rv i v (by rw [List.getElem?_toArray] at e; exact e)) lz.symm (by rw [lz]; unfold scanBound; omega) fun h1 tk R k => fin h1 tk _ (Nat.le_of_eq lz) R k
/-- the keys are of one kind -/
def OneKind (S : Key → Prop) : Prop := (∀ k, S k → ∃ i, k = .inl i) ∨ (∀ k, S k → ∃ x, k = .inr x)
theorem oneKind_al {S : Key → Prop} (h : OneKind S) (ks : List Key) (hk : ∀ k ∈ ks, S k) : PySem.W.AllAlike (ks.map keyPy) ∧ PySem.W.Sortable (ks.map keyPy) := by
  refine ⟨fun d hd d' hd' => ?_, .inr fun d hd => ?_⟩
  · obtain ⟨k, m, rfl⟩ := List.mem_map.mp hd
    obtain ⟨k', m', rfl⟩ := List.mem_map.mp hd'
    rcases h with h | h
    · obtain ⟨i, rfl⟩ := h k (hk k m)
      obtain ⟨j, rfl⟩ := h k' (hk k' m')
      rfl
    · obtain ⟨i, rfl⟩ := h k (hk k m)
      obtain ⟨j, rfl⟩ := h k' (hk k' m')
      rfl
  · obtain ⟨k, m, rfl⟩ := List.mem_map.mp hd
    cases k <;> exact ⟨(fun z => nomatch z), fun _ z => nomatch z⟩
def rSortMx (w : World) : List V → Hp → VK → Prop := fun xs H Q => ∃ (a : Addr) (S : Key → Prop) (n : Nat), xs = [.ref a] ∧ H a = some (SetMO w a S n) ∧ n ≤ 4000 ∧ OneKind S ∧
  ∀ (ks : List Key) (p : Addr), ks.Nodup → (∀ k, k ∈ ks ↔ S k) → ks.length ≤ n → H p = none → Q (.ref p) (upd H p (.lst ((srtK ks).map kV)))
theorem cr_sortMx {X : Cx} {k : Nat} (hc : X.calm = true) (hr : Room k X.A) : CallR X (.builtin "sorted") (rSortMx X.w) := by
  intro pins s σ H xs us Q I r h
  obtain ⟨a, S, n, rfl, ha, hn, one, q⟩ := h
  have R : SetMx X.w s.heap a S n := (I.hok a _ ha).1
  rw [Vals.ref1 r]
  have hu := hr.units
  have zz : 4000 ≤ sizeLine := by decide
  refine sorted_setMx R (I.ok.hd hc) (by unfold scanBound; omega) (by omega) (oneKind_al one) (by omega) fun s1 p out c ks kp g1 o1 hp hg he nd hm hl => ?_
  have hn2 : H p = none := I.hok.fresh hp
  have vk := vals_keys he
  have lz : ((srtK ks).map kV).length ≤ sizeLine := by
    rw [List.length_map]
    unfold srtK
    rw [List.length_mergeSort]
    omega
  have J : Inv X pins σ (upd H p (.lst ((srtK ks).map kV))) { s with heap := s1.heap, gens := s1.gens, drawn := s1.drawn, toks := s1.toks } :=
    I.call (ch := []) (Un.laid kp hp hn2) (I.hok.laid kp hp ⟨lz, out, c, vk, hg⟩) (by rw [g1]; exact I.bare) (fun _ z => nomatch z)
  have e : s1 = { s with heap := s1.heap, gens := s1.gens, drawn := s1.drawn, toks := s1.toks } := by
    obtain ⟨b1, b2, b3, b4, b5⟩ := s1
    obtain rfl : b5 = s.os := o1
    rfl
  rw [e]
  exact ⟨.ref p, _, J, rfl, q ks p nd hm hl hn2⟩
/-- sorted(set(e)) -/
def wSortSet (we : WE) : WE := fun ρ M Q => we ρ M fun d M1 => ∃ ks : List Key, seqD M1 d = some (ks.map keyDD) ∧ ks.length ≤ 4000 ∧ OneKind (fun k => k ∈ ks) ∧ ∀ us : List Key, us.Nodup → (∀ k, k ∈ us ↔ k ∈ ks) → us.length ≤ ks.length → Q (.lst ((srtK us).map keyDD)) M1
section
variable {X : Cx} {e : Expr} {te : TE} {we : WE} {p p2 pos pos2 : Pos} {k : Nat}
theorem sim_sortSet {K : PySem.W.Frag} {w : World} (h : SimE K te we) : SimE K (tCB (rSortMx w) (tCons (tCB (rSetMx K w) (tCons te tNil)) tNil)) (wSortSet we) := by
  intro Z ρ M σ H Q Q' r hw q0
  refine h Z ρ M σ H _ _ r hw fun v d H1 M1 g r1 ⟨ks, hs, hl, one, z⟩ => ?_
  obtain ⟨l, ys, rfl, hv, rl⟩ := seq_of g.sat r1 hs
  obtain rfl := reps_keyDD rl
  refine ⟨l, ks, rfl, hv, hl, fun p hp => ?_⟩
  obtain ⟨g2, _⟩ := Go.laid (o := SetMO w p (fun k => k ∈ ks) ks.length) g.sat hp
  refine ⟨p, _, _, rfl, upd_same, hl, one, fun us p2 nd hm hlu hp2 => ?_⟩
  obtain ⟨g3, f3⟩ := Go.laid (o := .lst ((srtK us).map kV)) g2.sat hp2
  exact q0 _ _ _ M1 ((g.trans g2).trans g3) (.lst (.inl (.inl f3)) (keyDD_reps _)) (z us nd hm hlu)
theorem de_sortSet (hc : X.calm = true) (hr : Room k X.A) (hm : X.mg "sorted" = none) (hm2 : X.mg "set" = none) (he : DE X e te we) (hg : Gl X "sorted" := by rfl) (hg2 : Gl X "set" := by rfl) (hst : starEach [e] X.env = (false, eval e X.env) :: starEach [] X.env := by rfl) :
    DE X (.Call (.Name "sorted" p) [.Call (.Name "set" p2) [e] [] pos2] [] pos) (tCB (rSortMx X.w) (tCons (tCB (rSetMx X.K X.w) (tCons te tNil)) tNil)) (wSortSet we) :=
  ⟨pe_callB (cr_sortMx hc hr) hg hm (show bootBuiltins "sorted" = some (.builtin "sorted") from rfl) (pa_cons (pe_callTy (cr_setMx hc) hg2 hm2 (show bootBuiltins "set" = some (.type "set") from rfl) (pa_cons he.pe pa_nil hst) (by decide) (by decide) hst rfl) pa_nil) (by decide) (by decide) rfl rfl, sim_sortSet he.sm⟩
end
end L3
namespace L3
open PySem PySem.Spec PyProof.Rows L2
/-! ### boxes of draws: a list of three whole numbers whose numbers nobody asks for -/
theorem fz_turn {Z H : Hp} {M : Mp} {a : Addr} {c0 c : Cell} (h : M a = some c0) : fz Z H (setM M a c) = fz Z H M := by
  funext b
  by_cases e : b = a
  · subst e
    rw [fz_some (setM_same (M := M) (c := c)), fz_some h]
  · unfold fz
    rw [setM_ne e]
theorem sat_turn {K : PySem.W.Frag} {Z H : Hp} {M : Mp} {a : Addr} {c0 c : Cell} (S : Sat K Z H M) (h : M a = some c0) (n : c0 ≠ .aux) (ok : CellOk K Z H (setM M a c) a c) : Sat K Z H (setM M a c) := by
  refine ⟨fun b d e => ?_, fun b o e => ⟨(S.zed b o e).1, ?_⟩⟩
  · by_cases hb : b = a
    · subst hb
      rw [setM_same] at e
      cases e
      exact ok
    · rw [setM_ne hb] at e
      refine (S.cell b d e).same (fun x o q => by rw [fz_turn h]; exact q) (fun _ q => q) fun x q => ⟨?_, fun _ q => q⟩
      have : x ≠ a := fun z => by
        rw [z, h] at q
        exact n (Option.some.inj q)
      rw [setM_ne this]
      exact q
  · have : b ≠ a := fun z => by
      have q := (S.zed b o e).2
      rw [z, h] at q
      cases q
    rw [setM_ne this]
    exact (S.zed b o e).2
theorem sat_open {K : PySem.W.Frag} {Z H : Hp} {M : Mp} {a : Addr} (S : Sat K Z H M) (h : M a = some .box) : ∃ c s t : Int, (0 ≤ c ∧ 0 ≤ s ∧ 0 ≤ t) ∧ Sat K Z H (setM M a (.lst [.int c, .int s, .int t])) := by
  obtain ⟨c, s, t, e, b⟩ := S.cell a _ h
  exact ⟨c, s, t, b, sat_turn S h (fun z => nomatch z) ⟨_, e, .cons (.int c) (.cons (.int s) (.cons (.int t) .nil))⟩⟩
theorem sat_shut {K : PySem.W.Frag} {Z H : Hp} {M : Mp} {a : Addr} {c s t : Int} (S : Sat K Z H M) (h : M a = some (.lst [.int c, .int s, .int t])) (b : 0 ≤ c ∧ 0 ≤ s ∧ 0 ≤ t) : Sat K Z H (setM M a .box) := by
  obtain ⟨vs, e, r⟩ := S.cell a _ h
  refine sat_turn S h (fun z => nomatch z) ⟨c, s, t, ?_, b⟩
  rw [e, RepL.ints (ns := [c, s, t]) r]
  rfl
theorem setM_twc {M : Mp} {a : Addr} {c d : Cell} : setM (setM M a c) a d = setM M a d := by
  funext b
  unfold setM
  split <;> rfl
theorem setM_own {M : Mp} {a : Addr} {c : Cell} (h : M a = some c) : setM M a c = M := by
  funext b
  unfold setM
  split
  · rename_i e
    rw [e, h]
  · rfl
/-- a number is drawn from a box -/
def takeF : Fs := fun ds M Q _ => ∃ (a : Addr) (n : Int), ds = [.tok a, .int n] ∧ M a = some .box ∧ 0 < n ∧ n < 2 ^ 60 ∧ ∀ k, 0 ≤ k → k < n → Q (.int k) M
def takeL : Fs := fun ds M Q _ => ∃ (a : Addr) (n c s t : Int), ds = [.tok a, .int n] ∧ M a = some (.lst [.int c, .int s, .int t]) ∧ (0 ≤ c ∧ 0 ≤ s ∧ 0 ≤ t) ∧ 0 < n ∧ n < 2 ^ 60 ∧
  ∀ k c' s' t', 0 ≤ k → k < n → (0 ≤ c' ∧ 0 ≤ s' ∧ 0 ≤ t') → Q (.int k) (setM M a (.lst [.int c', .int s', .int t']))
theorem take_lift {K : PySem.W.Frag} {us : List V} {H : Hp} {Q : VK} {E : XK} (h : lift K takeF us H Q E) : lift K takeL us H Q E := by
  obtain ⟨Z, ds, M, Qd, Rd, S, r, ⟨a, n, rfl, hm, n0, n1, q⟩, hq, hx⟩ := h
  obtain ⟨c, s, t, b, S2⟩ := sat_open S hm
  refine ⟨Z, [.tok a, .int n], setM M a (.lst [.int c, .int s, .int t]), fun d M' => ∃ k c' s' t' : Int, (0 ≤ c' ∧ 0 ≤ s' ∧ 0 ≤ t') ∧ d = .int k ∧ M' = setM M a (.lst [.int c', .int s', .int t']) ∧ Qd (.int k) M, fun _ _ _ => False, S2, by rw [fz_turn hm]; exact r,
    ⟨a, n, c, s, t, rfl, setM_same, b, n0, n1, fun k c' s' t' k0 k1 b' => ⟨k, c', s', t', b', rfl, setM_twc, q k k0 k1⟩⟩, ?_, fun _ _ _ _ _ _ _ _ _ _ _ _ z => z.elim⟩
  rintro v d H' M' g rp ⟨k, c', s', t', b', rfl, rfl, qd⟩
  have S3 := sat_shut g.sat setM_same b'
  rw [setM_twc, setM_own hm] at S3
  refine hq v _ H' M ⟨S3, fun x o e => ?_⟩ (by cases rp; exact .int k) qd
  have e2 := g.ex x o (by rw [fz_turn hm]; exact e)
  rwa [fz_turn hm] at e2
/-- a new box -/
def boxF : Fs := fun ds M Q _ => ∃ (ns : List Int) (k : Int), ds = [.lst (ns.map .int), .int k] ∧ ns.length ≤ 63 ∧ 0 ≤ k ∧ k ≤ 1000 ∧ ∀ p, M p = none → Q (.tok p) (setM M p .box)
def boxL : Fs := fun ds M Q _ => ∃ (ns : List Int) (k : Int), ds = [.lst (ns.map .int), .int k] ∧ ns.length ≤ 63 ∧ 0 ≤ k ∧ k ≤ 1000 ∧ ∀ p c s t, M p = none → (0 ≤ c ∧ 0 ≤ s ∧ 0 ≤ t) → Q (.tok p) (setM M p (.lst [.int c, .int s, .int t]))
theorem box_lift {K : PySem.W.Frag} {us : List V} {H : Hp} {Q : VK} {E : XK} (h : lift K boxF us H Q E) : lift K boxL us H Q E := by
  obtain ⟨Z, ds, M, Qd, Rd, S, r, ⟨ns, k, rfl, h1, h2, h3, q⟩, hq, hx⟩ := h
  refine ⟨Z, _, M, fun d M' => ∃ (p : Addr) (c s t : Int), M p = none ∧ (0 ≤ c ∧ 0 ≤ s ∧ 0 ≤ t) ∧ d = .tok p ∧ M' = setM M p (.lst [.int c, .int s, .int t]) ∧ Qd (.tok p) (setM M p .box), fun _ _ _ => False, S, r,
    ⟨ns, k, rfl, h1, h2, h3, fun p c s t hp b => ⟨p, c, s, t, hp, b, rfl, rfl, q p hp⟩⟩, ?_, fun _ _ _ _ _ _ _ _ _ _ _ _ z => z.elim⟩
  rintro v d H' M' g rp ⟨p, c, s, t, hp, b, rfl, rfl, qd⟩
  have S3 := sat_shut g.sat setM_same b
  rw [setM_twc] at S3
  have ef : fz Z H' (setM M p .box) = fz Z H' (setM M p (.lst [.int c, .int s, .int t])) := by
    have := fz_turn (Z := Z) (H := H') (c := .box) (setM_same (M := M) (a := p) (c := .lst [.int c, .int s, .int t]))
    rwa [setM_twc] at this
  refine hq v _ H' _ ⟨S3, fun x o e => ?_⟩ (by cases rp; exact .tok p) qd
  rw [ef]
  exact g.ex x o e
theorem FnG.weak {P : Program} {w : World} {K : PySem.W.Frag} {mg : Str → Option Value} {base : Heap} {k : Nat} {f : Addr} {fd : FuncData} {ps : List Str} {sp sp' : Sp} (F : FnG P w K mg base k f fd ps sp) (h : ∀ us H Q E, sp' us H Q E → sp us H Q E) : FnG P w K mg base k f fd ps sp' :=
  ⟨fun vs H Q E q => F.len _ _ _ _ (h _ _ _ _ q), fun A o s H ar us vs Q E g hr e0 hb r q => F.run A o s H ar us vs Q E g hr e0 hb r (h _ _ _ _ q)⟩
/-- one of some, by a box -/
def pickB : Fs := fun ds M Q _ => ∃ a d es, ds = [.tok a, d] ∧ M a = some .box ∧ seqD M d = some es ∧ 0 < es.length ∧ es.length ≤ 1000000 ∧ ∀ x ∈ es, Q x M
end L3
namespace L3
open PySem L2
section
variable {X : Cx} {o e : Expr} {es : List Expr} {to : TE} {tr : TA} {wo : WE} {wr : WA} {apos cpos : Pos}
/-! ### xs.insert(i, y), i not below 0 -/
def rIns : V → List V → Hp → VK → Prop := fun x vs H Q => ∃ (l : Addr) (xs : List V) (i : Int) (y : V), x = .ref l ∧ vs = [.int i, y] ∧ H l = some (.lst xs) ∧
  xs.length < sizeLine ∧ 0 ≤ i ∧ i < 2 ^ 63 ∧ Q .non (upd H l (.lst (xs.take i.toNat ++ [y] ++ xs.drop i.toNat)))
def wIns (wo : WE) (r : WA) : WE := fun ρ M Q => wo ρ M fun d M1 => match d with
  | .tok a => (∃ es, M1 a = some (.lst es)) ∧ r ρ M1 fun ds M2 => ∃ (i : Int) (x : D) (es : List D), ds = [.int i, x] ∧ M2 a = some (.lst es) ∧ es.length < sizeLine ∧ 0 ≤ i ∧ i < 2 ^ 62 ∧ Q .non (setM M2 a (.lst (es.take i.toNat ++ [x] ++ es.drop i.toNat)))
  | _ => False
theorem de_insert (ho : DE X o to wo) (ha : DA X (e :: es) tr wr) (hs : attributeBase o "insert" X.env (eval o X.env) = eval o X.env := by rfl)
    (h2 : (((backTo cpos (starEach (e :: es) X.env)).all fun x => !x.1) && ((backToKw cpos (keywordEach [] X.env)).all fun x => x.1.isSome) && decide (((e :: es).length + ([] : List Keyword).length + if ([] : List Keyword).isEmpty = true then 0 else 1) < 30)) = true := by rfl)
    (h3 : (apos.endLine == cpos.line) = true := by rfl) (h4 : starEach (e :: es) X.env = (false, eval e X.env) :: starEach es X.env := by rfl) (h5 : (backTo cpos (starEach es X.env)).any (·.1) = false := by rfl) :
    DE X (.Call (.Attribute o "insert" apos) (e :: es) [] cpos) (tBM X.K "list" rIns to tr) (wIns wo wr) := by
  refine ⟨pe_bm PySem.F.plainAttrs_list PySem.F.slot_list_insert PySem.F.type_list_insert (show MtR X "list.insert" rIns from mt_insert) ho.pe ha.pe hs h2 h3 h4 h5, fun Z ρ M σ H Q Q' s h q => ?_⟩
  refine ho.sm Z ρ M σ H _ _ s h fun x d H1 M1 g1 r1 q1 => ?_
  cases d with
  | tok a =>
    cases r1
    obtain ⟨⟨es0, hm⟩, q1⟩ := q1
    obtain ⟨vs0, e0, _⟩ := g1.sat.cell a _ hm
    refine ⟨.inl ⟨rfl, _, .inl (.inl e0)⟩, ?_⟩
    refine ha.sm Z ρ M1 σ H1 _ _ (s.go g1) q1 fun ys ds H2 M2 g2 r2 q2 => ?_
    obtain ⟨i, x, es, rfl, hm2, hl, i0, i1, q3⟩ := q2
    cases r2 with
    | cons ra rb =>
    cases rb with
    | cons rx r0 =>
    cases r0
    cases ra
    obtain ⟨vs, e1, rl⟩ := g2.sat.cell a _ hm2
    refine ⟨a, vs, i, _, rfl, rfl, e1, by rw [rl.len]; exact hl, i0, by omega, ?_⟩
    have g3 := Go.putL (p := a) g2.sat (.inr ⟨es, hm2⟩) (((rl.take i.toNat).app (.cons rx .nil)).app (rl.drop i.toNat))
    exact q _ _ _ _ ((g1.trans g2).trans g3) .non q3
  | _ => exact q1.elim
end
end L3
namespace L3
open PySem L2
/-! ### sorted(a dict) by whole numbers -/
def rSortDI (K : PySem.W.Frag) : List V → Hp → VK → Prop := fun xs H Q => ∃ (a : Addr) (kvs : List (Key × V)) (ks : List Int), xs = [.ref a] ∧ Rd H a (.dK kvs) ∧ kvs.map (·.1) = ks.map Sum.inl ∧ ks.length < 64 ∧
  ∀ (ys : List Int) (p : Addr), ys.Perm ks → ys.Pairwise (· ≤ ·) → H p = none → Q (.ref p) (upd H p (.lst (ys.map V.int)))
def fSortDI : FC := fun ds M Q => ∃ (t : Addr) (lk : Option (Obj × List (Key × V))) (kd : List (Key × D)) (ks : List Int), ds = [.tok t] ∧ M t = some (.dic lk kd) ∧ kd.map (·.1) = ks.map Sum.inl ∧ ks.length < 64 ∧ ∀ ys : List Int, ys.Perm ks → ys.Pairwise (· ≤ ·) → Q (.lst (ys.map .int)) M
theorem sim_sortDI {K : PySem.W.Frag} : SimC K (rSortDI K) fSortDI := by
  intro Z xs ds H M Q Q' S r f q
  obtain ⟨t, lk, kd, ks, rfl, hm, hk, hl, z⟩ := f
  cases r with
  | cons r1 r2 =>
  cases r2
  cases r1
  obtain ⟨kv, u, e, l, e1, e2⟩ := S.cell t _ hm
  refine ⟨t, kv, ks, rfl, ?_, e1.trans hk, hl, fun ys p pm pw hp => ?_⟩
  · cases lk with
    | none =>
      cases l
      exact .inl e
    | some w =>
      obtain ⟨l1, l2⟩ := l
      subst l2
      exact .inr ⟨_, e⟩
  · obtain ⟨g, f3⟩ := Go.laid (o := .lst (ys.map V.int)) S hp
    exact q _ _ _ M g (.lst (.inl (.inl f3)) (.ofInts ys)) (z ys pm pw)
end L3
namespace L3
open PySem L2
/-! ### zip of a list and a tuple, in any sequence -/
def SqX (K : PySem.W.Frag) (H : Hp) (a : Addr) (xs : List V) : Bool → Prop
  | true => SqT K H a xs
  | false => SqL K H a xs
def ok2 (K : PySem.W.Frag) (p q : Bool) (a b : Addr) (xs ys : List V) (H : Hp) : Prop := SqX K H a xs p ∧ SqX K H b ys q
def n2 (xs ys : List V) : Nat := min xs.length ys.length
/-! by data -/
end L3
namespace L3
open PySem L2
/-! ### dict == dict, whose values are plain data -/
def eqDc (kd kd' : List (Key × D)) : Bool := kd.length == kd'.length && kd.all fun p => match valD kd' p.1 with
  | some e => eqD p.2 e
  | none => false
def rEqDc (K : PySem.W.Frag) (neg : Bool) : R2 := fun x y H Q => ∃ (a b : Addr) (kv kv' : List (Key × V)) (kd kd' : List (Key × D)) (n : Nat), x = .ref a ∧ y = .ref b ∧ Rd H a (.dK kv) ∧ Rd H b (.dK kv') ∧ RepK K H kv kd ∧ RepK K H kv' kd' ∧ n ≤ 60 ∧
  (∀ p ∈ kd, fit n p.2) ∧ (∀ p ∈ kd', fit n p.2) ∧ Q (.bl (if neg then !eqDc kd kd' else eqDc kd kd')) H
theorem hitsDc {X : Cx} {pins : List (Addr × Obj)} {σ : L2.St} {H : Hp} {s : Shared} {A : Around} {n : Nat} (I : L2.Inv X pins σ H s) (hu : A.units + n < cLine) {kv' : List (Key × V)} {kd' : List (Key × D)} {vs' : List (Key × Value)} (r' : KV kv' vs') (q' : RepK X.K H kv' kd') (f' : ∀ p ∈ kd', fit n p.2) :
    ∀ {kv : List (Key × V)} {kd : List (Key × D)} {vs : List (Key × Value)}, KV kv vs → RepK X.K H kv kd → (∀ p ∈ kd, fit n p.2) → PySem.W.KeqHits A s vs' vs (kd.all fun p => match valD kd' p.1 with | some e => eqD p.2 e | none => false)
  | [], kd, vs, r, q, _ => by
    rw [q.nil']
    cases r
    exact .nil
  | p :: kv, kd, vs, r, q, f => by
    obtain ⟨d, kdt, rfl, rd, qt⟩ := q.uncons
    cases r with
    | @cons _ u _ us h t =>
      obtain ⟨uk, uv⟩ := u
      obtain ⟨h1, h2⟩ := h
      have h1 : p.1 = uk := h1
      subst h1
      have ih := hitsDc I hu r' q' f' t qt fun z hz => f z (List.mem_cons_of_mem _ hz)
      have vv := r'.val p.1
      rcases q'.val p.1 with ⟨e1, e2⟩ | ⟨v2, d2, e1, e2, rr⟩
      · rw [e1] at vv
        have hn : valueAt vs' p.1 = none := by
          cases z : valueAt vs' p.1 with
          | none => rfl
          | some _ =>
            rw [z] at vv
            exact vv.elim
        rw [List.all_cons, e2, Bool.false_and]
        exact .miss hn
      · rw [e1] at vv
        cases z : valueAt vs' p.1 with
        | none =>
          rw [z] at vv
          exact vv.elim
        | some u2 =>
          rw [z] at vv
          have vv : RelV v2 u2 := vv
          rw [List.all_cons, e2]
          have fd := f (p.1, d) List.mem_cons_self
          have fd2 : fit n d2 := by
            unfold valD at e2
            cases w : kd'.find? (fun q => decide (q.1 = p.1)) with
            | none =>
              rw [w] at e2
              cases e2
            | some q =>
              rw [w] at e2
              obtain rfl : q.2 = d2 := Option.some.inj e2
              exact f' q (List.mem_of_find?_eq_some w)
          obtain ⟨as, k1⟩ := Dp.reads I _ _ _ (Rep.dp n d _ fd rd) h2
          obtain ⟨bs, k2⟩ := Dp.reads I _ _ _ (Rep.dp n d2 _ fd2 rr) vv
          have l1 := fit_lay n d fd
          have l2 := fit_lay n d2 fd2
          exact .hit z (SeqAt.eqAt_reads _ _ A s _ _ as bs k1 k2 l1.1 l2.1 (by omega)) ih
theorem op_eqDc {X : Cx} {k : Nat} (hr : Room k X.A) : OpR X (compareOp .Eq) (rEqDc X.K false) := by
  intro pins s σ H x y v u Q I rx ry h
  obtain ⟨a, b, kv, kv', kd, kd', n, rfl, rfl, h1, h2, q1, q2, hn, f1, f2, q⟩ := h
  cases rx
  cases ry
  obtain ⟨_, m1, vs, r1, d1⟩ := dk_rd I.hok h1
  obtain ⟨_, m2, vs', r2, d2⟩ := dk_rd I.hok h2
  have hu := hr.units
  have hu2 : X.A.in1.units + n < cLine := by
    show X.A.units + 1 + n < cLine
    omega
  have e1 : vs.length = kd.length := by rw [← r1.length, q1.len]
  have e2 : vs'.length = kd'.length := by rw [← r2.length, q2.len]
  refine PySem.W.keq_eq m1 m2 d1 d2 hr.units0 (fun _ => hitsDc I hu2 r2 q2 f2 r1 q1 f1) ?_
  rw [e1, e2]
  exact ⟨.bl _, H, I, rfl, q⟩
theorem op_neDc {X : Cx} {k : Nat} (hr : Room k X.A) : OpR X (compareOp .NotEq) (rEqDc X.K true) := by
  intro pins s σ H x y v u Q I rx ry h
  obtain ⟨a, b, kv, kv', kd, kd', n, rfl, rfl, h1, h2, q1, q2, hn, f1, f2, q⟩ := h
  cases rx
  cases ry
  obtain ⟨_, m1, vs, r1, d1⟩ := dk_rd I.hok h1
  obtain ⟨_, m2, vs', r2, d2⟩ := dk_rd I.hok h2
  have hu := hr.units
  have hu2 : X.A.in1.units + n < cLine := by
    show X.A.units + 1 + n < cLine
    omega
  have e1 : vs.length = kd.length := by rw [← r1.length, q1.len]
  have e2 : vs'.length = kd'.length := by rw [← r2.length, q2.len]
  refine PySem.W.keq_ne m1 m2 d1 d2 hr.units0 (fun _ => hitsDc I hu2 r2 q2 f2 r1 q1 f1) ?_
  rw [e1, e2]
  exact ⟨.bl _, H, I, rfl, q⟩
def fEqDc (neg : Bool) : F2 := fun d e M Q => ∃ (kd kd' : List (Key × D)) (n : Nat), dicOf M d = some kd ∧ dicOf M e = some kd' ∧ n ≤ 60 ∧ (∀ p ∈ kd, fit n p.2) ∧ (∀ p ∈ kd', fit n p.2) ∧ Q (.bl (if neg then !eqDc kd kd' else eqDc kd kd')) M
theorem sim_eqDc {K : PySem.W.Frag} {neg : Bool} : SimR K (rEqDc K neg) (fEqDc neg) := by
  intro Z x y d e H M Q Q' S r1 r2 ⟨kd, kd', n, e1, e2, hn, f1, f2, z⟩ q
  obtain ⟨a, kv, rfl, h1, k1⟩ := dic_of S r1 e1
  obtain ⟨b, kv', rfl, h2, k2⟩ := dic_of S r2 e2
  exact ⟨a, b, kv, kv', kd, kd', n, rfl, rfl, h1, h2, k1.up fz_sub, k2.up fz_sub, hn, f1, f2, q _ _ H M (Go.refl S) (.bl _) z⟩
/-! ### xs.pop(i) -/
section
variable {X : Cx} {o e : Expr} {es : List Expr} {to : TE} {tr : TA} {wo : WE} {wr : WA} {apos cpos : Pos}
def wPopI (wo : WE) (r : WA) : WE := fun ρ M Q => wo ρ M fun d M1 => match d with
  | .tok a => (∃ es, M1 a = some (.lst es)) ∧ r ρ M1 fun ds M2 => ∃ (i : Nat) (x : D) (es : List D), ds = [.int (i : Int)] ∧ M2 a = some (.lst es) ∧ es[i]? = some x ∧ es.length ≤ 1000000 ∧ Q x (setM M2 a (.lst (es.eraseIdx i)))
  | _ => False
theorem RepL.erase {K : PySem.W.Frag} {H : Hp} : ∀ {vs : List V} {ds : List D} (i : Nat), RepL K H vs ds → RepL K H (vs.eraseIdx i) (ds.eraseIdx i)
  | _, _, _, .nil => .nil
  | _, _, 0, .cons _ t => t
  | _, _, i + 1, .cons q t => .cons q (RepL.erase i t)
theorem de_popI (ho : DE X o to wo) (ha : DA X (e :: es) tr wr) (hs : attributeBase o "pop" X.env (eval o X.env) = eval o X.env := by rfl)
    (h2 : (((backTo cpos (starEach (e :: es) X.env)).all fun x => !x.1) && ((backToKw cpos (keywordEach [] X.env)).all fun x => x.1.isSome) && decide (((e :: es).length + ([] : List Keyword).length + if ([] : List Keyword).isEmpty = true then 0 else 1) < 30)) = true := by rfl)
    (h3 : (apos.endLine == cpos.line) = true := by rfl) (h4 : starEach (e :: es) X.env = (false, eval e X.env) :: starEach es X.env := by rfl) (h5 : (backTo cpos (starEach es X.env)).any (·.1) = false := by rfl) :
    DE X (.Call (.Attribute o "pop" apos) (e :: es) [] cpos) (tBM X.K "list" rPopAt to tr) (wPopI wo wr) := by
  refine ⟨pe_bm PySem.F.plainAttrs_list PySem.F.slot_list_pop PySem.F.type_list_pop (show MtR X "list.pop" rPopAt from mt_popAt) ho.pe ha.pe hs h2 h3 h4 h5, fun Z ρ M σ H Q Q' s h q => ?_⟩
  refine ho.sm Z ρ M σ H _ _ s h fun x d H1 M1 g1 r1 q1 => ?_
  cases d with
  | tok a =>
    cases r1
    obtain ⟨⟨es0, hm⟩, q1⟩ := q1
    obtain ⟨vs0, e0, _⟩ := g1.sat.cell a _ hm
    refine ⟨.inl ⟨rfl, _, .inl (.inl e0)⟩, ?_⟩
    refine ha.sm Z ρ M1 σ H1 _ _ (s.go g1) q1 fun ys ds H2 M2 g2 r2 q2 => ?_
    obtain ⟨i, x, es, rfl, hm2, hi, hz, q3⟩ := q2
    cases r2 with
    | cons ra rb =>
    cases rb
    cases ra
    obtain ⟨vs, e1, rl⟩ := g2.sat.cell a _ hm2
    obtain ⟨w, hw, rw'⟩ := rl.get hi
    have li : i < vs.length := (List.getElem?_eq_some_iff.mp hw).1
    have lz : vs.length ≤ 1000000 := by rw [rl.len]; exact hz
    refine ⟨a, vs, (i : Int), i, w, rfl, rfl, e1, by omega, by omega, ?_, hw, ?_⟩
    · unfold seqIndex?
      simp
      omega
    · have g3 := Go.putL (p := a) g2.sat (.inr ⟨es, hm2⟩) (rl.erase i)
      exact q _ _ _ _ ((g1.trans g2).trans g3) (rw'.up g3.ex) q3
  | _ => exact q1.elim
end
end L3
namespace L3
open PySem L2
/-! ### sorted of pairs (a whole number, anything), the numbers unlike -/
def PrAt (h : Heap) (v : Value) (k : Int) : Prop := ∃ (a : Addr) (o : Obj) (n : Nat) (t : Tok) (u : Value), v = .ref a ∧ h.get? a = some o ∧ o.cls = .type "tuple" ∧ o.data = .seq #[.int k t, u] n
def kpD (p : Int × D) : D := .tup [.int p.1, p.2]
def srtKP (ps : List (Int × D)) : List (Int × D) := ps.mergeSort fun a b => decide (a.1 ≤ b.1)
noncomputable def prKind (us : List Value) (ns : List Int) : PyProof.Rows.KeyKind where
  toKeyOrd := PyProof.Rows.intKind.toKeyOrd
  keyOf v := open Classical in if q : ∃ i : Nat, us[i]? = some v ∧ i < ns.length then some (ns.getD q.choose 0) else none
  dflt := (0 : Int)
theorem pr_at {h : Heap} : ∀ {us : List Value} {ns : List Int}, PySem.W.EachIs (PrAt h) us ns → ∀ {i : Nat} {v : Value}, us[i]? = some v → i < ns.length ∧ PrAt h v (ns.getD i 0)
  | _, _, .nil, i, v, e => by simp at e
  | _, _, .cons r t, 0, v, e => by
    obtain rfl := Option.some.inj e
    exact ⟨Nat.succ_pos _, r⟩
  | _, _, .cons (b := n) r t, i + 1, v, e => by
    obtain ⟨h1, h2⟩ := pr_at t (i := i) e
    exact ⟨Nat.succ_lt_succ h1, h2⟩
theorem pr_one {h : Heap} {v : Value} {a b : Int} (h1 : PrAt h v a) (h2 : PrAt h v b) : a = b := by
  obtain ⟨x, o, n, t, u, rfl, e1, _, d1⟩ := h1
  obtain ⟨y, o', n', t', u', e, e2, _, d2⟩ := h2
  cases e
  rw [e1] at e2
  cases e2
  rw [d1] at d2
  cases d2
  rfl
theorem prKind_some {h : Heap} {us : List Value} {ns : List Int} (E : PySem.W.EachIs (PrAt h) us ns) {i : Nat} {v : Value} (e : us[i]? = some v) : (prKind us ns).keyOf v = some (ns.getD i 0) := by
  have z := pr_at E e
  have q : ∃ i : Nat, us[i]? = some v ∧ i < ns.length := ⟨i, e, z.1⟩
  have e2 : (prKind us ns).keyOf v = some (ns.getD q.choose 0) := by
    show (open Classical in if q : ∃ i : Nat, us[i]? = some v ∧ i < ns.length then some (ns.getD q.choose 0) else none) = _
    rw [dif_pos q]
  rw [e2, pr_one (pr_at E q.choose_spec.1).2 z.2]
theorem prKind_inv {h : Heap} {us : List Value} {ns : List Int} (E : PySem.W.EachIs (PrAt h) us ns) {v : Value} {k : Int} (e : (prKind us ns).keyOf v = some k) : ∃ i : Nat, us[i]? = some v ∧ i < ns.length ∧ ns.getD i 0 = k := by
  by_cases q : ∃ i : Nat, us[i]? = some v ∧ i < ns.length
  · have e2 : (prKind us ns).keyOf v = some (ns.getD q.choose 0) := by
      show (open Classical in if q : ∃ i : Nat, us[i]? = some v ∧ i < ns.length then some (ns.getD q.choose 0) else none) = _
      rw [dif_pos q]
    rw [e2] at e
    exact ⟨q.choose, q.choose_spec.1, q.choose_spec.2, Option.some.inj e⟩
  · have e2 : (prKind us ns).keyOf v = none := by
      show (open Classical in if q : ∃ i : Nat, us[i]? = some v ∧ i < ns.length then some (ns.getD q.choose 0) else none) = _
      rw [dif_neg q]
      rfl
    rw [e2] at e
    cases e
theorem kat_tups {h : Heap} : ∀ {us : List Value} {ns : List Int}, PySem.W.EachIs (PrAt h) us ns → ∃ fs, PySem.W.KatTups h us fs ∧ fs.length = us.length ∧ ∀ f ∈ fs, ∃ k t, f = .int k t
  | _, _, .nil => ⟨[], PySem.W.KatTups.nil, rfl, fun f hf => by cases hf⟩
  | _, _, .cons (b := k) ⟨a, o, n, t, u, e, h1, h2, h3⟩ r => by
    subst e
    obtain ⟨fs, a1, a2, a3⟩ := kat_tups r
    refine ⟨.int k t :: fs, PySem.W.KatTups.cons h1 h2 h3 rfl a1, by rw [List.length_cons, List.length_cons, a2], fun f hf => ?_⟩
    rcases List.mem_cons.mp hf with rfl | hf
    · exact ⟨_, _, rfl⟩
    · exact a3 f hf
theorem sorts_pr {P : Program} {w : World} {A : Around} {s : Shared} {us : List Value} {ns : List Int} (E : PySem.W.EachIs (PrAt s.heap) us ns) (nd : ns.Nodup) : PySem.W.SortsAt P w A s (prKind us ns) us := by
  refine ⟨fun v hv => ?_, PyProof.Rows.tuples' true, ?_, fun h2 E' Q q => ?_⟩
  · obtain ⟨i, hi⟩ := List.mem_iff_getElem?.mp hv
    exact ⟨_, prKind_some E hi⟩
  · intro E' x y a b Q ha hb hq
    obtain ⟨i, hi, li, rfl⟩ := prKind_inv E ha
    obtain ⟨j, hj, lj, rfl⟩ := prKind_inv E hb
    obtain ⟨xa, xo, xn, xt, xu, rfl, x1, x2, x3⟩ := (pr_at E hi).2
    obtain ⟨ya, yo, yn, yt, yu, rfl, y1, y2, y3⟩ := (pr_at E hj).2
    have hq : Q (decide (ns.getD i 0 < ns.getD j 0)) s := hq
    refine PySem.W.kat_lt x1 x3 y1 y3 ?_
    show PySem.W.KatLex P w A true (decide (2 < 2)) Q [(.int (ns.getD i 0) xt, .int (ns.getD j 0) yt), (xu, yu)] 0 s
    refine PySem.W.kat_cons (wpAny_eqBool_int ?_)
    by_cases e : ns.getD i 0 = ns.getD j 0
    · have ij : i = j := by
        have hi2 : ns[i]? = some (ns.getD i 0) := by rw [List.getD_eq_getElem?_getD, List.getElem?_eq_getElem li]; rfl
        have hj2 : ns[j]? = some (ns.getD j 0) := by rw [List.getD_eq_getElem?_getD, List.getElem?_eq_getElem lj]; rfl
        rw [← e] at hj2
        exact (List.getElem?_inj li nd).mp (hi2.trans hj2.symm)
      subst ij
      rw [hi] at hj
      cases hj
      rw [x1] at y1
      cases y1
      rw [x3] at y3
      cases y3
      rw [beq_self_eq_true]
      refine PySem.W.kat_yes (PySem.W.kat_cons ?_)
      have z : decide (ns.getD i 0 < ns.getD i 0) = false := decide_eq_false (Int.lt_irrefl _)
      rw [z] at hq
      have self : ∀ {R : Bool → Shared → Prop}, R true s → wpAny (model P w) A (eqBool xu xu) R (fun _ _ => False) s := fun {R} h => by
        unfold eqBool
        refine wpAny_holding ?_
        rw [if_pos (beq_self_eq_true xu)]
        exact wpAny_bind (wpAny_rule (wpAny_pure h))
      exact self (PySem.W.kat_yes (PySem.W.kat_nil hq))
    · rw [show (ns.getD i 0 == ns.getD j 0) = false from beq_false_of_ne e]
      exact PySem.W.kat_no (PyProof.Rows.oneLt_int hq)
  · obtain ⟨fs, a1, a2, a3⟩ := kat_tups E
    refine PySem.W.kat_kind (T := .type "int") a1 (by omega) (fun f hf => ?_) (beq_self_eq_true _) q
    obtain ⟨k, t, rfl⟩ := a3 f hf
    exact PySem.W.Looks.of_pure rfl
def rSrtK (K : PySem.W.Frag) : List V → Hp → VK → Prop := fun xs H Q => ∃ (p : Addr) (ys : List V) (ps : List (Int × D)) (Hf : Hp), xs = [.ref p] ∧ SqL K H p ys ∧ RepL K H ys (ps.map kpD) ∧ RepL K Hf ys (ps.map kpD) ∧ (ps.map (·.1)).Nodup ∧
  ∀ (l : Addr) (zs : List V), H l = none → RepL K Hf zs ((srtKP ps).map kpD) → Q (.ref l) (upd H l (.lst zs))
theorem each_pr {X : Cx} {pins : List (Addr × Obj)} {σ : L2.St} {H : Hp} {s : Shared} (I : L2.Inv X pins σ H s) {h' : Heap} (k : ∀ b o, s.heap.get? b = some o → h'.get? b = some o) : ∀ {ys : List V} {its : List Value} {ps : List (Int × D)}, Vals ys its → RepL X.K H ys (ps.map kpD) → PySem.W.EachIs (PrAt h') its (ps.map (·.1))
  | _, _, [], .nil, .nil => .nil
  | _, _, p :: ps, .cons rv rvs, .cons rd rds => by
    refine .cons ?_ (each_pr I k rvs rds)
    unfold kpD at rd
    cases rd with
    | tup hs hl =>
      cases rv
      cases hl with
      | cons r1 r2 =>
      cases r2 with
      | cons r2 r3 =>
      cases r3
      cases r1
      obtain ⟨its2, v2, ⟨o, ho, hc, n, hd⟩, _⟩ := I.tuple hs
      cases v2 with
      | cons q1 q2 =>
      cases q2 with
      | cons q2 q3 =>
      cases q3
      obtain ⟨t, rfl⟩ := q1
      exact ⟨_, o, n, t, _, rfl, k _ _ ho, hc, hd⟩
theorem each_keyP {h : Heap} {us : List Value} {ps : List (Int × D)} (E : PySem.W.EachIs (PrAt h) us (ps.map (·.1))) : PySem.W.EachIs (fun v (b : Int × D) => (prKind us (ps.map (·.1))).keyOf v = some b.1) us ps := by
  have main : ∀ (vs : List Value) (qs : List (Int × D)) (i : Nat), us.drop i = vs → ps.drop i = qs → vs.length = qs.length → PySem.W.EachIs (fun v (b : Int × D) => (prKind us (ps.map (·.1))).keyOf v = some b.1) vs qs := by
    intro vs
    induction vs with
    | nil =>
      intro qs i _ _ hl
      cases qs with
      | nil => exact .nil
      | cons _ _ => cases hl
    | cons v vs ih =>
      intro qs i h1 h2 hl
      cases qs with
      | nil => cases hl
      | cons q qs =>
        have e1 : us[i]? = some v := by
          have := congrArg (fun l => l[0]?) h1
          simpa using this
        have e2 : ps[i]? = some q := by
          have := congrArg (fun l => l[0]?) h2
          simpa using this
        refine .cons ?_ (ih qs (i + 1) ?_ ?_ (by simpa using hl))
        · rw [prKind_some E e1, List.getD_eq_getElem?_getD, List.getElem?_map, e2]
          rfl
        · have := congrArg List.tail h1
          simpa using this
        · have := congrArg List.tail h2
          simpa using this
  refine main us ps 0 rfl rfl ?_
  have := E.length
  rw [List.length_map] at this
  exact this
theorem cr_srtK {X : Cx} {k : Nat} (hr : Room k X.A) : CallR X (.builtin "sorted") (rSrtK X.K) := by
  intro pins s σ H xs us Q I r h
  obtain ⟨p, ys, ps, Hf, rfl, hs, rl, rl2, nd, q⟩ := h
  rw [Vals.ref1 r]
  obtain ⟨its, rv, pl, hz⟩ := I.list hs
  have E0 := each_pr I (h' := PySem.W.sortingHeap (PySem.W.copyHeap s.heap its) (s.heap.objs.size + 1) its) (fun _ _ => PySem.W.sorting_copy_old) rv rl
  have S := sorts_pr (P := X.prog) (w := X.w) (A := X.A.in1.in1) (s := { s with heap := PySem.W.sortingHeap (PySem.W.copyHeap s.heap its) (s.heap.objs.size + 1) its }) E0 nd
  have lz : its.length ≤ sizeLine := by rw [← rv.length]; exact hz
  refine PySem.W.sorted_vals pl.isList S lz ?_
  have er : PySem.W.EachIs (fun v (b : Int × D) => ∃ y, RelV y v ∧ Rep X.K Hf y (kpD b)) its ps := PySem.W.each_of_map kpD (each_vals rv rl2)
  have eo := PySem.W.sortVals_each (κ := prKind its (ps.map (·.1))) (rev := false) (fun b : Int × D => b.1) er (each_keyP E0)
  have es : (ps.mergeSort (PySem.W.sortLe (prKind its (ps.map (·.1))).toKeyOrd false fun b : Int × D => b.1)) = srtKP ps := by
    unfold srtKP
    congr 1
    funext a b
    show (!decide (b.1 < a.1)) = decide (a.1 ≤ b.1)
    rw [Bool.eq_iff_iff, Bool.not_eq_true', decide_eq_false_iff_not, decide_eq_true_eq]
    omega
  rw [es] at eo
  have em : PySem.W.EachIs (fun v d => ∃ y, RelV y v ∧ Rep X.K Hf y d) (PySem.W.sortVals (prKind its (ps.map (·.1))) false its its) ((srtKP ps).map kpD) := by
    clear es
    generalize PySem.W.sortVals (prKind its (ps.map (·.1))) false its its = out at eo
    generalize srtKP ps = qs at eo
    clear er S E0
    induction eo with
    | nil => exact .nil
    | cons h t ih => exact .cons h ih
  obtain ⟨zs, z1, z2⟩ := vals_each em
  obtain ⟨ep, hp⟩ := PyProof.Rows.sortedAll_at s.heap its (PySem.W.sortVals (prKind its (ps.map (·.1))) false its its).toArray
  refine ⟨.ref _, upd H (s.heap.objs.size + 1) (.lst zs), I.laid (t' := s.toks) (fun _ _ => PyProof.Rows.sortedAll_old) (Nat.le_succ _) ⟨?_, _, ep, z1, hp⟩, rfl, q _ zs (I.hok.fresh (Nat.le_succ _)) z2⟩
  rw [z1.length, PySem.W.sortVals_length false rfl]
  exact lz
def fSrtK : FC := fun ds M Q => match ds with
  | [d] => ∃ ps : List (Int × D), (∃ a, d = .tok a ∨ d = .lst (ps.map kpD)) ∧ seqD M d = some (ps.map kpD) ∧ (ps.map (·.1)).Nodup ∧ Q (.lst ((srtKP ps).map kpD)) M
  | _ => False
theorem sim_srtK {K : PySem.W.Frag} : SimC K (rSrtK K) fSrtK := by
  intro Z xs ds H M Q Q' S r f q
  unfold fSrtK at f
  split at f
  · cases r with
    | cons r1 r2 =>
      cases r2
      obtain ⟨ps, hd, hs, nd, z⟩ := f
      obtain ⟨p, vs, rfl, hv, rl⟩ := lst_of S r1 hd hs
      refine ⟨p, vs, ps, fz Z H M, rfl, hv, rl.up fz_sub, rl, nd, fun l zs hl rz => ?_⟩
      obtain ⟨g, hn2⟩ := Go.laid (o := .lst zs) S hl
      exact q _ _ _ _ g (.lst (.inl (.inl hn2)) (rz.up g.ex)) z
  · exact f.elim
end L3
namespace L3
open PySem L2
/-! ### tuple * int, 1 too -/
theorem tup_mul1 (l : Addr) (items : Array Value) (n : Nat) (dd : Option Addr) (sl : Array (Option Value)) (u : Tok) :
    Meets (Builtin.«tuple.__mul__» ⟨[.ref l, .int 1 u], []⟩) (fun _ R s => s.heap.get? l = some { cls := .type "tuple", dict := dd, data := .seq items n, slots := sl } ∧ R (.ok (.ret (Value.ref l))) s) :=
  .of_wp fun prog w A R s h => by
    obtain ⟨hp, g, d, tk, os⟩ := s
    obtain ⟨hl, h⟩ := h
    have f1 := AutoSeq1.idx_int
    wp_walk using wpAny_loadPart' hl
    exact ⟨_, rfl, h⟩
def rRep1 (K : PySem.W.Frag) : R2 := fun x y H Q => (∃ l xs, x = .ref l ∧ y = .int 1 ∧ SqT K H l xs ∧ Q (.ref l) H) ∨ rRepT K x y H Q
theorem op_rep1 {X : Cx} : OpR X (binaryOp .Mult) (rRep1 X.K) := by
  intro pins s σ H x y v u Q I rx ry h
  rcases h with h | h
  · obtain ⟨l, xs, rfl, rfl, hT, q⟩ := h
    cases rx
    obtain ⟨t, rfl⟩ := ry
    obtain ⟨its, r, ⟨⟨cls, dd, data, sl⟩, ho, hc, n, hd⟩, _⟩ := I.tuple hT
    dsimp only at hc hd
    subst hc hd
    refine wpAny_binaryOp_repeat_ref (T := "tuple") (U := "int") (by decide) ⟨_, ho, rfl⟩ (fun s' => typeIs_int s' 1 t) noFill_tuple_mul F.fills_int_mul F.slot_int_rmul repeat_tuple F.slot_int_index.lookup ?_
    refine call_meets F.slot_int_rmul (typeIs_int s 1 t) F.entry_int_rmul (F.args_int_rmul_2 _ _) (int_rmul_tuple 1 t l its.toArray n dd sl) ⟨ho, rfl, ⟨_, ho, rfl⟩, ?_⟩
    exact call_meets F.slot_tuple_mul ⟨_, ho, rfl⟩ F.entry_tuple_mul (F.args_tuple_mul_2 _ _) (tup_mul1 l its.toArray n dd sl t) ⟨ho, .ref l, H, I, rfl, q⟩
  · exact op_repT pins s σ H x y v u Q I rx ry h
def tmul1 : F2 := fun d e M Q => match d, e with
  | .tup ds, .int k => ds ≠ [] ∧ 1 ≤ k ∧ k ≤ 1000 ∧ ds.length ≤ 1000 ∧ Q (.tup (List.replicate k.toNat ds).flatten) M
  | _, _ => False
theorem sim_tmul1 {K : PySem.W.Frag} : SimR K (rRep1 K) tmul1 := by
  intro Z x y d e H M Q Q' S r1 r2 f q
  unfold tmul1 at f
  split at f
  · rename_i ds k
    obtain ⟨f0, f1, f2, f3, f4⟩ := f
    by_cases h : k = 1
    · subst h
      cases r1 with
      | tup h1 l1 =>
        cases r2
        have e : (List.replicate (1 : Int).toNat ds).flatten = ds := by simp
        rw [e] at f4
        exact .inl ⟨_, _, rfl, rfl, sqt_mono fz_sub h1, q _ _ _ _ (Go.refl S) (.tup h1 l1) f4⟩
    · exact .inr (sim_tmul Z x y (.tup ds) (.int k) H M Q Q' S r1 r2 ⟨f0, by omega, f2, f3, f4⟩ q)
  · exact f.elim
section
variable {X : Cx} {a b : Expr} {ta tb : TE} {wa wb : WE} {pos : Pos}
theorem de_tmul1 (ha : DE X a ta wa) (hb : DE X b tb wb) : DE X (.BinOp a .Mult b pos) (tOp (rRep1 X.K) ta tb) (wOp tmul1 wa wb) := de_op op_rep1 sim_tmul1 ha hb
end
end L3
namespace L3
open PySem L2
/-! ### equality of plain data with any texts -/
def fitT : Nat → D → Prop
  | _, .non => True
  | _, .bl _ => True
  | _, .int _ => True
  | _, .str _ => True
  | _, .ty _ => False
  | _, .tok _ => False
  | _, .exc _ _ _ _ _ => False
  | _, .tpl _ => False
  | _, .dct _ _ => False
  | 0, .tup _ => False
  | 0, .lst _ => False
  | n + 1, .tup ds => ∀ d ∈ ds, fitT n d
  | n + 1, .lst ds => ∀ d ∈ ds, fitT n d
mutual
theorem dpT {K : PySem.W.Frag} {H : Hp} : ∀ (n : Nat) (d : D) (v : V), fitT n d → Rep K H v d → Dp K H v d.py
  | _, .non, _, _, r => by cases r; exact .non
  | _, .bl b, _, _, r => by cases r; exact .bl b
  | _, .int i, _, _, r => by cases r; exact .int i
  | _, .str x, _, _, r => by cases r; exact .str x
  | _, .ty _, _, f, _ => by simp [fitT] at f
  | _, .tok _, _, f, _ => by simp [fitT] at f
  | _, .exc _ _ _ _ _, _, f, _ => by simp [fitT] at f
  | _, .tpl _, _, f, _ => by simp [fitT] at f
  | _, .dct _ _, _, f, _ => by simp [fitT] at f
  | 0, .tup _, _, f, _ => by cases f
  | 0, .lst _, _, f, _ => by cases f
  | n + 1, .tup ds, _, f, r => by
    cases r with
    | tup hs ha => exact .tup hs (dpTL n ds _ f ha)
  | n + 1, .lst ds, _, f, r => by
    cases r with
    | lst hs ha => exact .lst hs (dpTL n ds _ f ha)
theorem dpTL {K : PySem.W.Frag} {H : Hp} : ∀ (n : Nat) (ds : List D) (vs : List V), (∀ d ∈ ds, fitT n d) → RepL K H vs ds → DpAll K H vs (pyL ds)
  | _, [], _, _, r => by cases r; exact .nil
  | n, d :: ds, _, f, r => by
    cases r with
    | cons r1 r2 => exact .cons (dpT n d _ (f d List.mem_cons_self) r1) (dpTL n ds _ (fun x hx => f x (List.mem_cons_of_mem _ hx)) r2)
end
mutual
theorem fitT_pl : ∀ (n : Nat) (d : D), fitT n d → d.py.plain = true ∧ d.py.depth ≤ n
  | _, .non, _ => ⟨by simp [D.py, PyData.plain], by simp [D.py, PyData.depth]⟩
  | _, .bl b, _ => ⟨by simp [D.py, PyData.plain], by simp [D.py, PyData.depth]⟩
  | _, .int i, _ => ⟨by simp [D.py, PyData.plain], by simp [D.py, PyData.depth]⟩
  | _, .str x, _ => ⟨by simp [D.py, PyData.plain], by simp [D.py, PyData.depth]⟩
  | _, .ty _, f => by simp [fitT] at f
  | _, .tok _, f => by simp [fitT] at f
  | _, .exc _ _ _ _ _, f => by simp [fitT] at f
  | _, .tpl _, f => by simp [fitT] at f
  | _, .dct _ _, f => by simp [fitT] at f
  | 0, .tup _, f => by cases f
  | 0, .lst _, f => by cases f
  | n + 1, .tup ds, f => by
    have q := fitT_plL n ds f
    exact ⟨by simp [D.py, PyData.plain, q.1], by simp only [D.py, PyData.depth]; omega⟩
  | n + 1, .lst ds, f => by
    have q := fitT_plL n ds f
    exact ⟨by simp [D.py, PyData.plain, q.1], by simp only [D.py, PyData.depth]; omega⟩
theorem fitT_plL : ∀ (n : Nat) (ds : List D), (∀ d ∈ ds, fitT n d) → PyData.plainAll (pyL ds) = true ∧ PyData.depthAll (pyL ds) ≤ n
  | _, [], _ => ⟨by simp [pyL, PyData.plainAll], by simp [pyL, PyData.depthAll]⟩
  | n, d :: ds, f => by
    have q1 := fitT_pl n d (f d List.mem_cons_self)
    have q2 := fitT_plL n ds fun x hx => f x (List.mem_cons_of_mem _ hx)
    exact ⟨by simp [pyL, PyData.plainAll, q1.1, q2.1], by simp only [pyL, PyData.depthAll]; omega⟩
end
def rEqP (K : PySem.W.Frag) (neg : Bool) : R2 := fun x y H Q => ∃ (d e : D) (n : Nat), Rep K H x d ∧ Rep K H y e ∧ n ≤ 60 ∧ fitT n d ∧ fitT n e ∧ Q (.bl (if neg then !eqD d e else eqD d e)) H
theorem op_nePl {X : Cx} {k : Nat} (hr : Room k X.A) : OpR X (compareOp .NotEq) (rEqP X.K true) := by
  intro pins s σ H x y v u Q I rx ry h
  obtain ⟨d, e, n, hd, he, hn, f1, f2, q⟩ := h
  obtain ⟨as, r1⟩ := Dp.reads I _ _ _ (dpT n d x f1 hd) rx
  obtain ⟨bs, r2⟩ := Dp.reads I _ _ _ (dpT n e y f2 he) ry
  have l1 := fitT_pl n d f1
  have l2 := fitT_pl n e f2
  have hu := hr.units
  exact SeqAt.rcNe_plain r1 r2 l1.1 l2.1 (by omega) _ _ _ _ ⟨.bl _, H, I, rfl, q⟩
def eqPV (neg : Bool) : F2 := fun d e M Q => ∃ n : Nat, n ≤ 60 ∧ fitT n (res M d) ∧ fitT n (res M e) ∧ Q (.bl (if neg then !eqD (res M d) (res M e) else eqD (res M d) (res M e))) M
theorem sim_eqPl {K : PySem.W.Frag} {neg : Bool} : SimR K (rEqP K neg) (eqPV neg) := by
  intro Z x y d e H M Q Q' S r1 r2 ⟨n, hn, f1, f2, f⟩ q
  exact ⟨_, _, n, res_rep S r1, res_rep S r2, hn, f1, f2, q _ _ H M (Go.refl S) (.bl _) f⟩
end L3
set_option maxHeartbeats 0
namespace K16
open PySem L2 L3
open PyProof.Rows (envOfC)
def top (i : Nat) : Stmt := PySem.Challenge.pw_nonearer_k16_whole_deeds_and_what_stays.main.body.getD i (.Pass ⟨0, 0, 0, 0⟩)
abbrev s_deed_key : Stmt := top 1
abbrev s_done_all : Stmt := top 3
abbrev s_done : Stmt := top 4
abbrev s_state_of : Stmt := top 5
abbrev s_last_deeds : Stmt := top 6
abbrev s_deeds_between : Stmt := top 7
abbrev s__law_box : Stmt := top 9
abbrev s__law_take : Stmt := top 10
abbrev s__law_pick : Stmt := top 11
abbrev s__law_word : Stmt := top 12
abbrev s__law_vector : Stmt := top 13
abbrev s__law_item : Stmt := top 14
abbrev s__law_world : Stmt := top 15
abbrev s__law_items : Stmt := top 17
abbrev s__law_deeds : Stmt := top 18
abbrev s__law_after : Stmt := top 19
abbrev s__law_shown : Stmt := top 20
abbrev s__law_last : Stmt := top 21
abbrev s__law_run_right : Stmt := top 22
abbrev s__law_changed : Stmt := top 23
abbrev s__law_effects_right : Stmt := top 24
abbrev s__law_between_right : Stmt := top 25
abbrev s_law : Stmt := top 26
structure Txt (K : PySem.W.Frag) (mg : Str → Option Value) (aKINDS : Addr) : Prop where
  z_abs : mg "abs" = none
  z_any : mg "any" = none
  z_dict : mg "dict" = none
  z_int : mg "int" = none
  z_isinstance : mg "isinstance" = none
  z_len : mg "len" = none
  z_list : mg "list" = none
  z_range : mg "range" = none
  z_repr : mg "repr" = none
  z_set : mg "set" = none
  z_sorted : mg "sorted" = none
  z_tuple : mg "tuple" = none
/-! BOXES -/
/-! ### contracts -/
/-- a word of letters -/
def wordOk (x : Str) : Prop := PySem.PyData.strOk x = true ∧ 1 ≤ x.length ∧ x.length ≤ 8
def itB (p : Nat) (i : Itm) : Prop := vk p 10000 i.vec ∧ (i.labs.map (·.1)).Nodup ∧ i.labs.length ≤ 4 ∧ (∀ x ∈ i.labs, wordOk x.1 ∧ -1000000000 ≤ x.2 ∧ x.2 ≤ 1000000001) ∧ 0 ≤ i.key ∧ i.key ≤ 2000000000
def stB (p n : Nat) (st : List Itm) : Prop := (keysS st).Nodup ∧ st.length ≤ n ∧ ∀ i ∈ st, itB p i
instance decItm : DecidableEq Itm := fun ⟨k, v, l⟩ ⟨k', v', l'⟩ => if h : k = k' ∧ v = v' ∧ l = l' then isTrue (by obtain ⟨rfl, rfl, rfl⟩ := h; rfl) else isFalse fun e => h (by cases e; exact ⟨rfl, rfl, rfl⟩)
instance decDd : DecidableEq Dd := fun d e => match d, e with
  | .take k, .take k' => if h : k = k' then isTrue (by rw [h]) else isFalse fun e => h (by cases e; rfl)
  | .put i, .put j => if h : i = j then isTrue (by rw [h]) else isFalse fun e => h (by cases e; rfl)
  | .take _, .put _ => isFalse nofun
  | .put _, .take _ => isFalse nofun
def ddB (p : Nat) (ks : List Int) : Dd → Prop
  | .take k => k ∈ ks
  | .put i => itB p i ∧ i.key ∈ ks
/-- what the program does: an item keeps its place -/
def doneP (st : List Itm) : Dd → List Itm
  | .take k => lessS st k
  | .put i => putS st i
/-- the deeds that no later one of the same key follows -/
def lastOf : List Dd → List Dd
  | [] => []
  | d :: r => if d.key ∈ r.map Dd.key then lastOf r else d :: lastOf r
def srtDd (l : List Dd) : List Dd := l.mergeSort fun a b => decide (a.key ≤ b.key)
def srtS (l : List Itm) : List Itm := l.mergeSort fun a b => decide (a.key ≤ b.key)
def lastL (l : List Dd) : List Dd := srtDd (lastOf l)
def betw (a b : List Itm) : List Dd := srtDd ((a.filter fun i => decide (i.key ∉ keysS b)).map (fun i => Dd.take i.key) ++ (b.filter fun i => decide (i ∉ a)).map Dd.put)
def shownS (st : List Itm) : Str := shown (.lst ((srtS st).map fun i => .tup [.int i.key, i.d]))
def wldD (p : Nat) (t : Addr) (ns : List Str) : D := .tup [.int (p : Int), .tok t, .lst (ns.map .str)]
structure WldOk (M : Mp) (b t : Addr) (p : Nat) (ks : List Int) (ns : List Str) : Prop where
  box : M b = some .box
  keys : M t = some (.lst (ks.map .int))
  p1 : 1 ≤ p
  p3 : p ≤ 3
  k0 : 0 < ks.length
  k20 : ks.length ≤ 20
  kpw : ks.Pairwise (· < ·)
  kb : ∀ k ∈ ks, 0 ≤ k ∧ k ≤ 1000000000
  n0 : 0 < ns.length
  n3 : ns.length ≤ 3
  nd : ns.Nodup
  nw : ∀ x ∈ ns, wordOk x
def F_deed_key : Fs := fun ds M Q _ => ∃ (d : Dd), ds = [d.d] ∧ Q (.int d.key) M
def F_done_all : Fs := fun ds M Q _ => ∃ (e : D) (st : List Itm) (dd : List Dd), ds = [e, .tup (dd.map Dd.d)] ∧ dicOf M e = some (stD st) ∧ (keysS st).Nodup ∧ st.length + dd.length ≤ 1000 ∧ ∀ (t : Addr) (M' : Mp), Up M M' → M t = none → M' t = some (.dic none (stD (dd.foldl doneP st))) → Q (.tok t) M'
def F_done : Fs := fun ds M Q _ => ∃ (e : D) (st : List Itm) (d : Dd), ds = [e, d.d] ∧ dicOf M e = some (stD st) ∧ (keysS st).Nodup ∧ st.length ≤ 900 ∧ ∀ (t : Addr) (M' : Mp), Up M M' → M t = none → M' t = some (.dic none (stD (doneP st d))) → Q (.tok t) M'
def F_state_of : Fs := fun ds M Q _ => ∃ (is : List Itm), ds = [.tup (is.map Itm.d)] ∧ is.length ≤ 900 ∧ ∀ (t : Addr) (M' : Mp), Up M M' → M t = none → M' t = some (.dic none (stD (is.foldl putS []))) → Q (.tok t) M'
def F_last_deeds : Fs := fun ds M Q _ => ∃ (dd : List Dd), ds = [.tup (dd.map Dd.d)] ∧ dd.length ≤ 40 ∧ ∀ M', Up M M' → Q (.tup ((lastL dd).map Dd.d)) M'
def F_deeds_between : Fs := fun ds M Q _ => ∃ (e f : D) (a b : List Itm) (p : Nat), ds = [e, f] ∧ (∃ t, e = .tok t ∧ M t = some (.dic none (stD a))) ∧ (∃ t, f = .tok t ∧ M t = some (.dic none (stD b))) ∧ stB p 40 a ∧ stB p 40 b ∧ Q (.tup ((betw a b).map Dd.d)) M
abbrev F__law_box : Fs := boxF
abbrev F__law_boxL : Fs := boxL
abbrev F__law_take : Fs := takeF
abbrev F__law_takeL : Fs := takeL
abbrev F__law_pick : Fs := pickB
def F__law_word : Fs := fun ds M Q _ => ∃ (b : Addr) (m : Nat), ds = [.tok b, .int (m : Int)] ∧ M b = some .box ∧ 1 ≤ m ∧ m ≤ 8 ∧ ∀ x : Str, wordOk x → Q (.str x) M
def F__law_vector : Fs := fun ds M Q _ => ∃ (b : Addr) (p : Nat), ds = [.tok b, .int (p : Int)] ∧ M b = some .box ∧ p ≤ 8 ∧ ∀ v : List Int, vk p 10000 v → Q (vec v) M
def F__law_item : Fs := fun ds M Q _ => ∃ (b : Addr) (p : Nat) (dk : D) (ks : List Int) (ns : List Str), ds = [.tok b, .int (p : Int), dk, .lst (ns.map .str)] ∧ M b = some .box ∧ p ≤ 8 ∧ seqD M dk = some (ks.map .int) ∧ 0 < ks.length ∧ ks.length ≤ 20 ∧ (∀ k ∈ ks, 0 ≤ k ∧ k ≤ 2000000000) ∧ ns.length ≤ 4 ∧ ns.Nodup ∧ (∀ x ∈ ns, wordOk x) ∧ ∀ (i : Itm) (M' : Mp), Up M M' → itB p i → i.key ∈ ks → (∀ x ∈ i.labs, x.1 ∈ ns) → Q i.d M'
def F__law_world : Fs := fun ds M Q _ => ∃ (b : Addr), ds = [.tok b] ∧ M b = some .box ∧ ∀ (p : Nat) (t : Addr) (ks : List Int) (ns : List Str) (M' : Mp), Up M M' → M t = none → M' t = some (.lst (ks.map .int)) → 1 ≤ p → p ≤ 3 → 0 < ks.length → ks.length ≤ 20 → ks.Pairwise (· < ·) → (∀ k ∈ ks, 0 ≤ k ∧ k ≤ 1000000000) → 0 < ns.length → ns.length ≤ 3 → ns.Nodup → (∀ x ∈ ns, wordOk x) → Q (.tup [.int (p : Int), .tok t, .lst (ns.map .str)]) M'
def F__law_items : Fs := fun ds M Q _ => ∃ (b t : Addr) (p m : Nat) (ks : List Int) (ns : List Str), ds = [.tok b, .tup [.int (p : Int), .tok t, .lst (ns.map .str)], .int (m : Int)] ∧ M b = some .box ∧ M t = some (.lst (ks.map .int)) ∧ p ≤ 8 ∧ m ≤ 30 ∧ 0 < ks.length ∧ ks.length ≤ 20 ∧ (∀ k ∈ ks, 0 ≤ k ∧ k ≤ 2000000000) ∧ ns.length ≤ 4 ∧ ns.Nodup ∧ (∀ x ∈ ns, wordOk x) ∧ ∀ (a : Addr) (is : List Itm) (M' : Mp), Up M M' → M a = none → M' a = some (.lst (is.map Itm.d)) → is.length = m → (∀ i ∈ is, itB p i ∧ i.key ∈ ks) → Q (.tok a) M'
def F__law_deeds : Fs := fun ds M Q _ => ∃ (b t : Addr) (p m : Nat) (ks : List Int) (ns : List Str), ds = [.tok b, wldD p t ns, .int (m : Int)] ∧ WldOk M b t p ks ns ∧ m ≤ 30 ∧ ∀ (dd : List Dd) (M' : Mp), Up M M' → dd.length = m → (∀ d ∈ dd, ddB p ks d) → Q (.tup (dd.map Dd.d)) M'
def F__law_after : Fs := fun ds M Q _ => ∃ (t : Addr) (f : D) (st : List Itm) (dd : List Dd), ds = [.tok t, f] ∧ M t = some (.dic none (stD st)) ∧ (f = .tup (dd.map Dd.d) ∨ f = .lst (dd.map Dd.d)) ∧ (keysS st).Nodup ∧ st.length + dd.length ≤ 100 ∧ ∀ (t : Addr) (M' : Mp), Up M M' → M t = none → M' t = some (.dic none (stD (dd.foldl doneS st))) → Q (.tok t) M'
def F__law_shown : Fs := fun ds M Q _ => ∃ (t : Addr) (st : List Itm) (p : Nat), ds = [.tok t] ∧ M t = some (.dic none (stD st)) ∧ p ≤ 8 ∧ stB p 60 st ∧ Q (.str (shownS st)) M
def F__law_last : Fs := fun ds M Q _ => ∃ (dd : List Dd), ds = [.tup (dd.map Dd.d)] ∧ dd.length ≤ 40 ∧ ∀ M', Up M M' → Q (.tup ((lastL dd).map Dd.d)) M'
def F__law_run_right : Fs := fun ds M Q _ => ∃ (b t : Addr) (p : Nat) (ks : List Int) (ns : List Str), ds = [.tok b, wldD p t ns] ∧ WldOk M b t p ks ns ∧ ∀ M', Up M M' → Q (.bl true) M'
def F__law_changed : Fs := fun ds M Q _ => ∃ (b t : Addr) (p : Nat) (ks : List Int) (ns : List Str) (dd : List Dd), ds = [.tok b, wldD p t ns, .tup (dd.map Dd.d)] ∧ WldOk M b t p ks ns ∧ 0 < dd.length ∧ dd.length ≤ 30 ∧ (∀ d ∈ dd, ddB p ks d) ∧ ∀ (dd' : List Dd) (M' : Mp), Up M M' → dd'.length ≤ 32 → (∀ d ∈ dd', ddB p ks d) → Q (.tup (dd'.map Dd.d)) M'
def F__law_effects_right : Fs := fun ds M Q _ => ∃ (b t : Addr) (p : Nat) (ks : List Int) (ns : List Str), ds = [.tok b, wldD p t ns] ∧ WldOk M b t p ks ns ∧ ∀ M', Up M M' → Q (.bl true) M'
def F__law_between_right : Fs := fun ds M Q _ => ∃ (b t : Addr) (p : Nat) (ks : List Int) (ns : List Str), ds = [.tok b, wldD p t ns] ∧ WldOk M b t p ks ns ∧ ∀ M', Up M M' → Q (.bl true) M'
def F_law : Fs := fun ds M Q _ => ∃ (ns : List Int), ds = [.lst (ns.map .int)] ∧ ns.length ≤ 63 ∧ ∀ M', Q (.bl true) M'
section
variable {P : Program} {w : World} {K : PySem.W.Frag} {mg : Str → Option Value} {base : Heap} {aKINDS : Addr}
theorem sc_deed_key : FnScope ["deed"] ["deed"] (defScope s_deed_key) := ⟨rfl, rfl, rfl, by decide +kernel, rfl, by decide +kernel, by decide +kernel⟩
abbrev W_deed_key : WS := (wRet (wIf (wB (wOp (eqV false) (wOp ixD (wVar 0) (wC (.int 0))) (wC (.str "take")))) (wOp ixD (wVar 0) (wC (.int 1))) (wOp ixD (wOp ixD (wVar 0) (wC (.int 1))) (wC (.int 0)))))
theorem dv_deed_key {f : Addr} (T : Txt K mg aKINDS) (cdv : Value) (A : Around) (outer : List Env) (s : Shared) (H : Hp) (E : XK) (gd : A.guards = some []) (hr : Room 0 (A.deeper (envOfC "deed_key" (defScope s_deed_key) s.heap.objs.size f cdv))) :
    ∃ t, DSs (cxOf (L2.CX P w) P w K mg base ["deed"] "deed_key" (defScope s_deed_key) f cdv A outer s H E) (lw E) (defBody s_deed_key) t W_deed_key := by
  exact ⟨_, (dss_one (ds_ret (de_if (dt_cmp (op_eqV hr) sim_eqV (de_ix (de_var 0) de_int) de_str) (de_ix (de_var 0) de_int) (de_ix (de_ix (de_var 0) de_int) de_int))))⟩
theorem ok_deed_key {f : Addr} {fd : FuncData} (Fn : Fun K "deed_key" "deed_key" s_deed_key f fd) (T : Txt K mg aKINDS) (len : ∀ ds M Q E, F_deed_key ds M Q E → ds.length = 1)
    (body : ∀ ds M Q R, F_deed_key ds M Q R → W_deed_key { nx := fun _ M' => Q .non M', rt := Q, xr := lx R } (startE 1 ds) M) : FnG P w K mg base 1 f fd ["deed"] (lift K F_deed_key) :=
  ok_fn Fn sc_deed_key len fun cdv A outer s H E gd hr => (dv_deed_key T cdv A outer s H E gd hr).elim fun t ht => ⟨t, _, ht, body⟩
theorem sc_done_all : FnScope ["state", "deeds", "left", "deed", "key"] ["state", "deeds"] (defScope s_done_all) := ⟨rfl, rfl, rfl, by decide +kernel, rfl, by decide +kernel, by decide +kernel⟩
abbrev W_done_all : WS := (wSeq (wAsg (wCB fDictA (wCons (wVar 0) wNil)) (wgName 2)) (wSeq (wFor (wiSeq (wVar 1)) (wgName 3) (wSeq (wAsg (wCall F_deed_key (wCons (wVar 3) wNil)) (wgName 4)) (wIfS (wB (wOp (eqV false) (wOp ixD (wVar 3) (wC (.int 0))) (wC (.str "put")))) (wDPut (wVar 2) (wVar 4) (wOp ixD (wVar 3) (wC (.int 1)))) (wIfS (wB (wOp (fDIn false) (wVar 4) (wVar 2))) (wDDel (wVar 2) (wVar 4)) wNext)))) (wRet (wVar 2))))
theorem dv_done_all {f : Addr} (T : Txt K mg aKINDS) (h_deed_key : Has P w K mg base 1 "deed_key" s_deed_key ["deed"] F_deed_key) (cdv : Value) (A : Around) (outer : List Env) (s : Shared) (H : Hp) (E : XK) (gd : A.guards = some []) (hr : Room 1 (A.deeper (envOfC "done_all" (defScope s_done_all) s.heap.objs.size f cdv))) :
    ∃ t, DSs (cxOf (L2.CX P w) P w K mg base ["state", "deeds", "left", "deed", "key"] "done_all" (defScope s_done_all) f cdv A outer s H E) (lw E) (defBody s_done_all) t W_done_all := by
  exact ⟨_, (dss_cons (ds_set 2 sc_done_all.nd (de_callTy (call_dictA rfl) sim_dictA T.z_dict (show bootBuiltins "dict" = some (.type "dict") from rfl) (da_cons (de_var 0) da_nil))) (dss_cons (ds_for (passes_of rfl) rfl (di_seq (de_var 1)) (dg_name 3 sc_done_all.nd) (dss_cons (ds_set 4 sc_done_all.nd (de_h h_deed_key (hr.mono (by decide)) gd (da_cons (de_var 3) da_nil))) (dss_one (ds_if (dt_cmp (op_eqV hr) sim_eqV (de_ix (de_var 3) de_int) de_str) (dss_one (ds_dput hr (de_var 2) (de_var 4) (de_ix (de_var 3) de_int))) (dss_one (ds_if (dt_cmp (op_dIn hr) sim_dIn (de_var 4) (de_var 2)) (dss_one (ds_ddel (de_var 2) (de_var 4))) dss_nil)))))) (dss_one (ds_ret (de_var 2)))))⟩
theorem ok_done_all {f : Addr} {fd : FuncData} (Fn : Fun K "done_all" "done_all" s_done_all f fd) (T : Txt K mg aKINDS) (h_deed_key : Has P w K mg base 1 "deed_key" s_deed_key ["deed"] F_deed_key) (len : ∀ ds M Q E, F_done_all ds M Q E → ds.length = 2)
    (body : ∀ ds M Q R, F_done_all ds M Q R → W_done_all { nx := fun _ M' => Q .non M', rt := Q, xr := lx R } (startE 5 ds) M) : FnG P w K mg base 2 f fd ["state", "deeds"] (lift K F_done_all) :=
  ok_fn Fn sc_done_all len fun cdv A outer s H E gd hr => (dv_done_all T h_deed_key cdv A outer s H E gd hr).elim fun t ht => ⟨t, _, ht, body⟩
theorem sc_done : FnScope ["state", "deed"] ["state", "deed"] (defScope s_done) := ⟨rfl, rfl, rfl, by decide +kernel, rfl, by decide +kernel, by decide +kernel⟩
abbrev W_done : WS := (wRet (wCall F_done_all (wCons (wVar 0) (wCons (wTup (wCons (wVar 1) wNil)) wNil))))
theorem dv_done {f : Addr} (T : Txt K mg aKINDS) (h_done_all : Has P w K mg base 2 "done_all" s_done_all ["state", "deeds"] F_done_all) (cdv : Value) (A : Around) (outer : List Env) (s : Shared) (H : Hp) (E : XK) (gd : A.guards = some []) (hr : Room 2 (A.deeper (envOfC "done" (defScope s_done) s.heap.objs.size f cdv))) :
    ∃ t, DSs (cxOf (L2.CX P w) P w K mg base ["state", "deed"] "done" (defScope s_done) f cdv A outer s H E) (lw E) (defBody s_done) t W_done := by
  exact ⟨_, (dss_one (ds_ret (de_h h_done_all (hr.mono (by decide)) gd (da_cons (de_var 0) (da_cons (de_tup (da_cons (de_var 1) da_nil)) da_nil)))))⟩
theorem ok_done {f : Addr} {fd : FuncData} (Fn : Fun K "done" "done" s_done f fd) (T : Txt K mg aKINDS) (h_done_all : Has P w K mg base 2 "done_all" s_done_all ["state", "deeds"] F_done_all) (len : ∀ ds M Q E, F_done ds M Q E → ds.length = 2)
    (body : ∀ ds M Q R, F_done ds M Q R → W_done { nx := fun _ M' => Q .non M', rt := Q, xr := lx R } (startE 2 ds) M) : FnG P w K mg base 3 f fd ["state", "deed"] (lift K F_done) :=
  ok_fn Fn sc_done len fun cdv A outer s H E gd hr => (dv_done T h_done_all cdv A outer s H E gd hr).elim fun t ht => ⟨t, _, ht, body⟩
theorem sc_state_of : FnScope ["items", "item"] ["items"] (defScope s_state_of) := ⟨rfl, rfl, rfl, by decide +kernel, rfl, by decide +kernel, by decide +kernel⟩
abbrev W_state_of : WS := (wRet (wDc (wiSeq (wVar 0)) (wgName 1) wYes (wOp ixD (wVar 1) (wC (.int 0))) (wVar 1) [1]))
theorem dv_state_of {f : Addr} (T : Txt K mg aKINDS) (cdv : Value) (A : Around) (outer : List Env) (s : Shared) (H : Hp) (E : XK) (gd : A.guards = some []) (hr : Room 0 (A.deeper (envOfC "state_of" (defScope s_state_of) s.heap.objs.size f cdv))) :
    ∃ t, DSs (cxOf (L2.CX P w) P w K mg base ["items", "item"] "state_of" (defScope s_state_of) f cdv A outer s H E) (lw E) (defBody s_state_of) t W_state_of := by
  exact ⟨_, (dss_one (ds_ret (de_dc (own := [("item", 1)]) rfl sc_state_of.nd (di_seq (de_var 0)) (show BlkOk ["items", "item"] (defScope s_state_of) _ [("item", 1)] from ⟨rfl, by decide +kernel, by decide +kernel, by decide +kernel, by decide +kernel⟩) (fun _ _ _ _ _ => (dg_name 1 sc_state_of.nd)) (fun _ _ _ _ _ => dts_nil) (fun _ _ _ _ _ => (de_ix (de_var 1) de_int)) (fun _ _ _ _ _ => (de_var 1)) keep_name)))⟩
theorem ok_state_of {f : Addr} {fd : FuncData} (Fn : Fun K "state_of" "state_of" s_state_of f fd) (T : Txt K mg aKINDS) (len : ∀ ds M Q E, F_state_of ds M Q E → ds.length = 1)
    (body : ∀ ds M Q R, F_state_of ds M Q R → W_state_of { nx := fun _ M' => Q .non M', rt := Q, xr := lx R } (startE 2 ds) M) : FnG P w K mg base 1 f fd ["items"] (lift K F_state_of) :=
  ok_fn Fn sc_state_of len fun cdv A outer s H E gd hr => (dv_state_of T cdv A outer s H E gd hr).elim fun t ht => ⟨t, _, ht, body⟩
theorem sc_last_deeds : FnScope ["deeds", "last", "deed", "key"] ["deeds"] (defScope s_last_deeds) := ⟨rfl, rfl, rfl, by decide +kernel, rfl, by decide +kernel, by decide +kernel⟩
abbrev W_last_deeds : WS := (wSeq (wAsg (wDc (wiSeq (wVar 0)) (wgName 2) wYes (wCall F_deed_key (wCons (wVar 2) wNil)) (wVar 2) [2]) (wgName 1)) (wRet (wCB fTuple (wCons (wLc (wiSeq (wCB fSortDI (wCons (wVar 1) wNil))) (wgName 3) wYes (wDGet (wVar 1) (wVar 3)) [3]) wNil))))
theorem dv_last_deeds {f : Addr} (T : Txt K mg aKINDS) (h_deed_key : Has P w K mg base 1 "deed_key" s_deed_key ["deed"] F_deed_key) (cdv : Value) (A : Around) (outer : List Env) (s : Shared) (H : Hp) (E : XK) (gd : A.guards = some []) (hr : Room 1 (A.deeper (envOfC "last_deeds" (defScope s_last_deeds) s.heap.objs.size f cdv))) :
    ∃ t, DSs (cxOf (L2.CX P w) P w K mg base ["deeds", "last", "deed", "key"] "last_deeds" (defScope s_last_deeds) f cdv A outer s H E) (lw E) (defBody s_last_deeds) t W_last_deeds := by
  exact ⟨_, (dss_cons (ds_set 1 sc_last_deeds.nd (de_dc (own := [("deed", 2)]) rfl sc_last_deeds.nd (di_seq (de_var 0)) (show BlkOk ["deeds", "last", "deed", "key"] (defScope s_last_deeds) _ [("deed", 2)] from ⟨rfl, by decide +kernel, by decide +kernel, by decide +kernel, by decide +kernel⟩) (fun _ _ _ _ _ => (dg_name 2 sc_last_deeds.nd)) (fun _ _ _ _ _ => dts_nil) (fun _ _ _ _ _ => (de_h h_deed_key (hr.mono (by decide)) gd (da_cons (de_var 2) da_nil))) (fun _ _ _ _ _ => (de_var 2)) keep_name)) (dss_one (ds_ret (de_callTy call_tuple_of sim_tuple T.z_tuple (show bootBuiltins "tuple" = some (.type "tuple") from rfl) (da_cons (de_lc (own := [("key", 3)]) rfl sc_last_deeds.nd (di_seq (de_callB (call_sortedDI rfl) sim_sortDI T.z_sorted (show bootBuiltins "sorted" = some (.builtin "sorted") from rfl) (da_cons (de_var 1) da_nil))) (show BlkOk ["deeds", "last", "deed", "key"] (defScope s_last_deeds) _ [("key", 3)] from ⟨rfl, by decide +kernel, by decide +kernel, by decide +kernel, by decide +kernel⟩) (fun _ _ _ _ _ => (dg_name 3 sc_last_deeds.nd)) (fun _ _ _ _ _ => dts_nil) (fun _ _ _ _ _ => (de_dget hr (de_var 1) (de_var 3))) keep_name) da_nil)))))⟩
theorem ok_last_deeds {f : Addr} {fd : FuncData} (Fn : Fun K "last_deeds" "last_deeds" s_last_deeds f fd) (T : Txt K mg aKINDS) (h_deed_key : Has P w K mg base 1 "deed_key" s_deed_key ["deed"] F_deed_key) (len : ∀ ds M Q E, F_last_deeds ds M Q E → ds.length = 1)
    (body : ∀ ds M Q R, F_last_deeds ds M Q R → W_last_deeds { nx := fun _ M' => Q .non M', rt := Q, xr := lx R } (startE 4 ds) M) : FnG P w K mg base 2 f fd ["deeds"] (lift K F_last_deeds) :=
  ok_fn Fn sc_last_deeds len fun cdv A outer s H E gd hr => (dv_last_deeds T h_deed_key cdv A outer s H E gd hr).elim fun t ht => ⟨t, _, ht, body⟩
theorem sc_deeds_between : FnScope ["one", "other", "takes", "puts", "key", "_", "deed"] ["one", "other"] (defScope s_deeds_between) := ⟨rfl, rfl, rfl, by decide +kernel, rfl, by decide +kernel, by decide +kernel⟩
abbrev W_deeds_between : WS := (wSeq (wLock 0 (wAsg (wLc (wiDk dkeys (wVar 0)) (wgName 4) (wB (wOp (fDIn true) (wVar 4) (wVar 1))) (wTup (wCons (wVar 4) (wCons (wTup (wCons (wC (.str "take")) (wCons (wVar 4) wNil))) wNil))) [4]) (wgName 2))) (wSeq (wLock 1 (wAsg (wLc (wiDk dkeys (wVar 1)) (wgName 4) (wOr (wB (wOp (fDIn true) (wVar 4) (wVar 0))) (wB (wOp (eqV true) (wDGet (wVar 0) (wVar 4)) (wDGet (wVar 1) (wVar 4))))) (wTup (wCons (wVar 4) (wCons (wTup (wCons (wC (.str "put")) (wCons (wDGet (wVar 1) (wVar 4)) wNil))) wNil))) [4]) (wgName 3))) (wRet (wCB fTuple (wCons (wLc (wiSeq (wCB fSrtK (wCons (wOp addD (wVar 2) (wVar 3)) wNil))) (wgTup 2 (wgCons (wgName 5) (wgCons (wgName 6) wgNil))) wYes (wVar 6) [5, 6]) wNil)))))
theorem dv_deeds_between {f : Addr} (T : Txt K mg aKINDS) (cdv : Value) (A : Around) (outer : List Env) (s : Shared) (H : Hp) (E : XK) (gd : A.guards = some []) (hr : Room 0 (A.deeper (envOfC "deeds_between" (defScope s_deeds_between) s.heap.objs.size f cdv))) :
    ∃ t, DSs (cxOf (L2.CX P w) P w K mg base ["one", "other", "takes", "puts", "key", "_", "deed"] "deeds_between" (defScope s_deeds_between) f cdv A outer s H E) (lw E) (defBody s_deeds_between) t W_deeds_between := by
  exact ⟨_, (dss_cons (ds_lock 0 (ds_setLc 2 (own := [("key", 4)]) rfl sc_deeds_between.nd (di_keys (de_var 0)) (show BlkOk ["one", "other", "takes", "puts", "key", "_", "deed"] (defScope s_deeds_between) _ [("key", 4)] from ⟨rfl, by decide +kernel, by decide +kernel, by decide +kernel, by decide +kernel⟩) (fun _ _ _ _ _ => (dg_name 4 sc_deeds_between.nd)) (fun _ _ _ _ _ => (dts_one (dt_cmp (op_dNotIn hr) sim_dIn (de_var 4) (de_var 1)))) (fun _ _ _ _ _ => (de_tup (da_cons (de_var 4) (da_cons (de_tup (da_cons de_str (da_cons (de_var 4) da_nil))) da_nil)))) keep_name (by rfl))) (dss_cons (ds_lock 1 (ds_setLc 3 (own := [("key", 4)]) rfl sc_deeds_between.nd (di_keys (de_var 1)) (show BlkOk ["one", "other", "takes", "puts", "key", "_", "deed"] (defScope s_deeds_between) _ [("key", 4)] from ⟨rfl, by decide +kernel, by decide +kernel, by decide +kernel, by decide +kernel⟩) (fun _ _ _ _ _ => (dg_name 4 sc_deeds_between.nd)) (fun _ _ _ _ _ => (dts_one (DW.dt (dw_or (dt_cmp (op_dNotIn hr) sim_dIn (de_var 4) (de_var 0)) (dw_or1 (dt_cmp (op_neV hr) sim_neV (de_dget hr (de_var 0) (de_var 4)) (de_dget hr (de_var 1) (de_var 4)))))))) (fun _ _ _ _ _ => (de_tup (da_cons (de_var 4) (da_cons (de_tup (da_cons de_str (da_cons (de_dget hr (de_var 1) (de_var 4)) da_nil))) da_nil)))) keep_name (by rfl))) (dss_one (ds_ret (de_callTy call_tuple_of sim_tuple T.z_tuple (show bootBuiltins "tuple" = some (.type "tuple") from rfl) (da_cons (de_lc (own := [("_", 5), ("deed", 6)]) rfl sc_deeds_between.nd (di_seq (de_callB (cr_srtK hr) sim_srtK T.z_sorted (show bootBuiltins "sorted" = some (.builtin "sorted") from rfl) (da_cons (de_add (de_var 2) (de_var 3)) da_nil))) (show BlkOk ["one", "other", "takes", "puts", "key", "_", "deed"] (defScope s_deeds_between) _ [("_", 5), ("deed", 6)] from ⟨rfl, by decide +kernel, by decide +kernel, by decide +kernel, by decide +kernel⟩) (fun _ _ _ _ _ => (dg_tup rfl (dgs_cons (dg_name 5 sc_deeds_between.nd) (dgs_cons (dg_name 6 sc_deeds_between.nd) dgs_nil)))) (fun _ _ _ _ _ => dts_nil) (fun _ _ _ _ _ => (de_var 6)) (keep_tup (keep_cons keep_name (keep_cons keep_name keep_nil (fun _ _ _ _ _ h1 h2 => h1 _ _ h2)) (fun _ _ _ _ _ h1 h2 => h1 _ _ h2)))) da_nil))))))⟩
theorem ok_deeds_between {f : Addr} {fd : FuncData} (Fn : Fun K "deeds_between" "deeds_between" s_deeds_between f fd) (T : Txt K mg aKINDS) (len : ∀ ds M Q E, F_deeds_between ds M Q E → ds.length = 2)
    (body : ∀ ds M Q R, F_deeds_between ds M Q R → W_deeds_between { nx := fun _ M' => Q .non M', rt := Q, xr := lx R } (startE 7 ds) M) : FnG P w K mg base 1 f fd ["one", "other"] (lift K F_deeds_between) :=
  ok_fn Fn sc_deeds_between len fun cdv A outer s H E gd hr => (dv_deeds_between T cdv A outer s H E gd hr).elim fun t ht => ⟨t, _, ht, body⟩
theorem sc__law_box : FnScope ["script", "k", "cell", "great"] ["script", "k"] (defScope s__law_box) := ⟨rfl, rfl, rfl, by decide +kernel, rfl, by decide +kernel, by decide +kernel⟩
abbrev W__law_box : WS := (wSeq (wAsg (wOp addD (wOp (fI CM fun i j => .int (i * j)) (wC (.int 7411)) (wVar 1)) (wC (.int 1304))) (wgName 2)) (wSeq (wIfS (wB (wOp fLt (wVar 1) (wCB fLen (wCons (wVar 0) wNil)))) (wAsg (wCB fAbs (wCons (wOp ixD (wVar 0) (wVar 1)) wNil)) (wgName 2)) (wIfS (wB (wOp fGt (wCB fLen (wCons (wVar 0) wNil)) (wC (.int 0)))) (wAsg (wOp addD (wVar 2) (wOp (fI CM fun i j => .int (i * j)) (wOp (fI (fun _ j => 0 < j) fun i j => .int (i % j)) (wCB fInt (wCons (wCB fAbs (wCons (wOp ixD (wVar 0) (wOp (fI (fun _ j => 0 < j) fun i j => .int (i % j)) (wCB fInt (wCons (wVar 1) wNil)) (wCB fLen (wCons (wVar 0) wNil)))) wNil)) wNil)) (wC (.int 2147483629))) (wC (.int 60719)))) (wgName 2)) wNext)) (wSeq (wAsg (wCB fInt (wCons (wOp fGe (wVar 2) (wOp (fI CPow fun i j => .int (i ^ j.toNat)) (wC (.int 10)) (wC (.int 18)))) wNil)) (wgName 3)) (wRet (wLstM (wCons (wOp ixD (wLst (wCons (wC (.int 0)) (wCons (wVar 2) wNil))) (wVar 3)) (wCons (wOp addD (wOp (fI (fun _ j => 0 < j) fun i j => .int (i % j)) (wCB fInt (wCons (wOp addD (wOp addD (wOp (fI CM fun i j => .int (i * j)) (wOp (fI (fun _ j => 0 < j) fun i j => .int (i % j)) (wCB fInt (wCons (wVar 2) wNil)) (wC (.int 2147483629))) (wC (.int 48271))) (wOp (fI CM fun i j => .int (i * j)) (wC (.int 30011)) (wVar 1))) (wC (.int 977))) wNil)) (wC (.int 2147483629))) (wC (.int 1))) (wCons (wC (.int 0)) wNil))))))))
theorem dv__law_box {f : Addr} (T : Txt K mg aKINDS) (cdv : Value) (A : Around) (outer : List Env) (s : Shared) (H : Hp) (E : XK) (gd : A.guards = some []) (hr : Room 0 (A.deeper (envOfC "_law_box" (defScope s__law_box) s.heap.objs.size f cdv))) :
    ∃ t, DSs (cxOf (L2.CX P w) P w K mg base ["script", "k", "cell", "great"] "_law_box" (defScope s__law_box) f cdv A outer s H E) (lw E) (defBody s__law_box) t W__law_box := by
  exact ⟨_, (dss_cons (ds_set 2 sc__law_box.nd (de_add (de_mul de_int (de_var 1)) de_int)) (dss_cons (ds_if (dt_cmp op_lt sim_lt (de_var 1) (de_callB call_lenA sim_len T.z_len (show bootBuiltins "len" = some (.builtin "len") from rfl) (da_cons (de_var 0) da_nil))) (dss_one (ds_set 2 sc__law_box.nd (de_callB call_abs sim_abs T.z_abs (show bootBuiltins "abs" = some (.builtin "abs") from rfl) (da_cons (de_ix (de_var 0) (de_var 1)) da_nil)))) (dss_one (ds_if (dt_cmp op_gt sim_gt (de_callB call_lenA sim_len T.z_len (show bootBuiltins "len" = some (.builtin "len") from rfl) (da_cons (de_var 0) da_nil)) de_int) (dss_one (ds_set 2 sc__law_box.nd (de_add (de_var 2) (de_mul (de_mod (de_callTy call_int1 sim_int T.z_int (show bootBuiltins "int" = some (.type "int") from rfl) (da_cons (de_callB call_abs sim_abs T.z_abs (show bootBuiltins "abs" = some (.builtin "abs") from rfl) (da_cons (de_ix (de_var 0) (de_mod (de_callTy call_int1 sim_int T.z_int (show bootBuiltins "int" = some (.type "int") from rfl) (da_cons (de_var 1) da_nil)) (de_callB call_lenA sim_len T.z_len (show bootBuiltins "len" = some (.builtin "len") from rfl) (da_cons (de_var 0) da_nil)))) da_nil)) da_nil)) de_int) de_int)))) dss_nil))) (dss_cons (ds_set 3 sc__law_box.nd (de_callTy call_int1 sim_int T.z_int (show bootBuiltins "int" = some (.type "int") from rfl) (da_cons (de_cmp op_ge sim_ge (de_var 2) (de_pow de_int de_int)) da_nil))) (dss_one (ds_ret (de_lstM (da_cons (de_ix (de_lst (da_cons de_int (da_cons (de_var 2) da_nil))) (de_var 3)) (da_cons (de_add (de_mod (de_callTy call_int1 sim_int T.z_int (show bootBuiltins "int" = some (.type "int") from rfl) (da_cons (de_add (de_add (de_mul (de_mod (de_callTy call_int1 sim_int T.z_int (show bootBuiltins "int" = some (.type "int") from rfl) (da_cons (de_var 2) da_nil)) de_int) de_int) (de_mul de_int (de_var 1))) de_int) da_nil)) de_int) de_int) (da_cons de_int da_nil)))))))))⟩
theorem ok__law_box {f : Addr} {fd : FuncData} (Fn : Fun K "_law_box" "_law_box" s__law_box f fd) (T : Txt K mg aKINDS) (len : ∀ ds M Q E, F__law_boxL ds M Q E → ds.length = 2)
    (body : ∀ ds M Q R, F__law_boxL ds M Q R → W__law_box { nx := fun _ M' => Q .non M', rt := Q, xr := lx R } (startE 4 ds) M) : FnG P w K mg base 1 f fd ["script", "k"] (lift K F__law_box) :=
  FnG.weak (ok_fn Fn sc__law_box len fun cdv A outer s H E gd hr => (dv__law_box T cdv A outer s H E gd hr).elim fun t ht => ⟨t, _, ht, body⟩) fun _ _ _ _ h => box_lift h
theorem sc__law_take : FnScope ["box", "many", "raw", "digit"] ["box", "many"] (defScope s__law_take) := ⟨rfl, rfl, rfl, by decide +kernel, rfl, by decide +kernel, by decide +kernel⟩
abbrev W__law_take : WS := (wSeq (wIfS (wB (wOp fGt (wOp ixD (wVar 0) (wC (.int 0))) (wC (.int 0)))) (wSeq (wAsg (wOp (fI (fun _ j => 0 < j) fun i j => .int (i % j)) (wCB fInt (wCons (wOp ixD (wVar 0) (wC (.int 0))) wNil)) (wVar 1)) (wgName 3)) (wSeq (wAsg (wOp (fI CDivW fun i j => .int (i / j)) (wOp ixD (wVar 0) (wC (.int 0))) (wVar 1)) (wgSub (wVar 0) (wC (.int 0)))) (wRet (wVar 3)))) wNext) (wSeq (wAsg (wOp addD (wOp ixD (wVar 0) (wC (.int 2))) (wC (.int 1))) (wgSub (wVar 0) (wC (.int 2)))) (wSeq (wAsg (wOp (fI (fun _ j => 0 < j) fun i j => .int (i % j)) (wCB fInt (wCons (wOp addD (wOp (fI CM fun i j => .int (i * j)) (wOp addD (wOp ixD (wVar 0) (wC (.int 1))) (wOp (fI CM fun i j => .int (i * j)) (wC (.int 99991)) (wOp ixD (wVar 0) (wC (.int 2))))) (wC (.int 69621))) (wC (.int 53))) wNil)) (wC (.int 2147483563))) (wgName 2)) (wSeq (wAsg (wOp addD (wOp (fI (fun _ j => 0 < j) fun i j => .int (i % j)) (wCB fInt (wCons (wOp addD (wOp (fI CM fun i j => .int (i * j)) (wVar 2) (wC (.int 40692))) (wC (.int 27011))) wNil)) (wC (.int 2147483629))) (wC (.int 1))) (wgSub (wVar 0) (wC (.int 1)))) (wRet (wOp (fI (fun _ j => 0 < j) fun i j => .int (i % j)) (wCB fInt (wCons (wOp (fI CDivW fun i j => .int (i / j)) (wOp addD (wOp (fI CM fun i j => .int (i * j)) (wVar 2) (wC (.int 2147483647))) (wOp ixD (wVar 0) (wC (.int 1)))) (wC (.int 8191))) wNil)) (wVar 1)))))))
theorem dv__law_take {f : Addr} (T : Txt K mg aKINDS) (cdv : Value) (A : Around) (outer : List Env) (s : Shared) (H : Hp) (E : XK) (gd : A.guards = some []) (hr : Room 0 (A.deeper (envOfC "_law_take" (defScope s__law_take) s.heap.objs.size f cdv))) :
    ∃ t, DSs (cxOf (L2.CX P w) P w K mg base ["box", "many", "raw", "digit"] "_law_take" (defScope s__law_take) f cdv A outer s H E) (lw E) (defBody s__law_take) t W__law_take := by
  exact ⟨_, (dss_cons (ds_if (dt_cmp op_gt sim_gt (de_ix (de_var 0) de_int) de_int) (dss_cons (ds_set 3 sc__law_take.nd (de_mod (de_callTy call_int1 sim_int T.z_int (show bootBuiltins "int" = some (.type "int") from rfl) (da_cons (de_ix (de_var 0) de_int) da_nil)) (de_var 1))) (dss_cons (ds_asg (de_fdiv (de_ix (de_var 0) de_int) (de_var 1)) (dg_sub (de_var 0) de_int)) (dss_one (ds_ret (de_var 3))))) dss_nil) (dss_cons (ds_asg (de_add (de_ix (de_var 0) de_int) de_int) (dg_sub (de_var 0) de_int)) (dss_cons (ds_set 2 sc__law_take.nd (de_mod (de_callTy call_int1 sim_int T.z_int (show bootBuiltins "int" = some (.type "int") from rfl) (da_cons (de_add (de_mul (de_add (de_ix (de_var 0) de_int) (de_mul de_int (de_ix (de_var 0) de_int))) de_int) de_int) da_nil)) de_int)) (dss_cons (ds_asg (de_add (de_mod (de_callTy call_int1 sim_int T.z_int (show bootBuiltins "int" = some (.type "int") from rfl) (da_cons (de_add (de_mul (de_var 2) de_int) de_int) da_nil)) de_int) de_int) (dg_sub (de_var 0) de_int)) (dss_one (ds_ret (de_mod (de_callTy call_int1 sim_int T.z_int (show bootBuiltins "int" = some (.type "int") from rfl) (da_cons (de_fdiv (de_add (de_mul (de_var 2) de_int) (de_ix (de_var 0) de_int)) de_int) da_nil)) (de_var 1))))))))⟩
theorem ok__law_take {f : Addr} {fd : FuncData} (Fn : Fun K "_law_take" "_law_take" s__law_take f fd) (T : Txt K mg aKINDS) (len : ∀ ds M Q E, F__law_takeL ds M Q E → ds.length = 2)
    (body : ∀ ds M Q R, F__law_takeL ds M Q R → W__law_take { nx := fun _ M' => Q .non M', rt := Q, xr := lx R } (startE 4 ds) M) : FnG P w K mg base 1 f fd ["box", "many"] (lift K F__law_take) :=
  FnG.weak (ok_fn Fn sc__law_take len fun cdv A outer s H E gd hr => (dv__law_take T cdv A outer s H E gd hr).elim fun t ht => ⟨t, _, ht, body⟩) fun _ _ _ _ h => take_lift h
theorem sc__law_pick : FnScope ["box", "some"] ["box", "some"] (defScope s__law_pick) := ⟨rfl, rfl, rfl, by decide +kernel, rfl, by decide +kernel, by decide +kernel⟩
abbrev W__law_pick : WS := (wRet (wOp ixD (wVar 1) (wCall F__law_take (wCons (wVar 0) (wCons (wCB fLen (wCons (wVar 1) wNil)) wNil)))))
theorem dv__law_pick {f : Addr} (T : Txt K mg aKINDS) (h__law_take : Has P w K mg base 1 "_law_take" s__law_take ["box", "many"] F__law_take) (cdv : Value) (A : Around) (outer : List Env) (s : Shared) (H : Hp) (E : XK) (gd : A.guards = some []) (hr : Room 1 (A.deeper (envOfC "_law_pick" (defScope s__law_pick) s.heap.objs.size f cdv))) :
    ∃ t, DSs (cxOf (L2.CX P w) P w K mg base ["box", "some"] "_law_pick" (defScope s__law_pick) f cdv A outer s H E) (lw E) (defBody s__law_pick) t W__law_pick := by
  exact ⟨_, (dss_one (ds_ret (de_ix (de_var 1) (de_h h__law_take (hr.mono (by decide)) gd (da_cons (de_var 0) (da_cons (de_callB call_lenA sim_len T.z_len (show bootBuiltins "len" = some (.builtin "len") from rfl) (da_cons (de_var 1) da_nil)) da_nil))))))⟩
theorem ok__law_pick {f : Addr} {fd : FuncData} (Fn : Fun K "_law_pick" "_law_pick" s__law_pick f fd) (T : Txt K mg aKINDS) (h__law_take : Has P w K mg base 1 "_law_take" s__law_take ["box", "many"] F__law_take) (len : ∀ ds M Q E, F__law_pick ds M Q E → ds.length = 2)
    (body : ∀ ds M Q R, F__law_pick ds M Q R → W__law_pick { nx := fun _ M' => Q .non M', rt := Q, xr := lx R } (startE 2 ds) M) : FnG P w K mg base 2 f fd ["box", "some"] (lift K F__law_pick) :=
  ok_fn Fn sc__law_pick len fun cdv A outer s H E gd hr => (dv__law_pick T h__law_take cdv A outer s H E gd hr).elim fun t ht => ⟨t, _, ht, body⟩
theorem sc__law_word : FnScope ["box", "most", "letters", "turn"] ["box", "most"] (defScope s__law_word) := ⟨rfl, rfl, rfl, by decide +kernel, rfl, by decide +kernel, by decide +kernel⟩
abbrev W__law_word : WS := (wSeq (wAsg (wC (.str "abcdefghijklmnopqrstuvwxyz")) (wgName 2)) (wRet (wJoin (wC (.str "")) (wLc (wiRange1 (wCons (wOp addD (wC (.int 1)) (wCall F__law_take (wCons (wVar 0) (wCons (wVar 1) wNil)))) wNil)) (wgName 3) wYes (wOp ixD (wVar 2) (wCall F__law_take (wCons (wVar 0) (wCons (wC (.int 26)) wNil)))) [3]))))
theorem dv__law_word {f : Addr} (T : Txt K mg aKINDS) (h__law_take : Has P w K mg base 1 "_law_take" s__law_take ["box", "many"] F__law_take) (cdv : Value) (A : Around) (outer : List Env) (s : Shared) (H : Hp) (E : XK) (gd : A.guards = some []) (hr : Room 1 (A.deeper (envOfC "_law_word" (defScope s__law_word) s.heap.objs.size f cdv))) :
    ∃ t, DSs (cxOf (L2.CX P w) P w K mg base ["box", "most", "letters", "turn"] "_law_word" (defScope s__law_word) f cdv A outer s H E) (lw E) (defBody s__law_word) t W__law_word := by
  exact ⟨_, (dss_cons (ds_set 2 sc__law_word.nd de_str) (dss_one (ds_ret (de_join de_str (de_lc (own := [("turn", 3)]) rfl sc__law_word.nd (di_range1 T.z_range (da_cons (de_add de_int (de_h h__law_take (hr.mono (by decide)) gd (da_cons (de_var 0) (da_cons (de_var 1) da_nil)))) da_nil)) (show BlkOk ["box", "most", "letters", "turn"] (defScope s__law_word) _ [("turn", 3)] from ⟨rfl, by decide +kernel, by decide +kernel, by decide +kernel, by decide +kernel⟩) (fun _ _ _ _ _ => (dg_name 3 sc__law_word.nd)) (fun _ _ _ _ _ => dts_nil) (fun _ _ _ _ _ => (de_ix (de_var 2) (de_h h__law_take (hr.mono (by decide)) gd (da_cons (de_var 0) (da_cons de_int da_nil))))) keep_name)))))⟩
theorem ok__law_word {f : Addr} {fd : FuncData} (Fn : Fun K "_law_word" "_law_word" s__law_word f fd) (T : Txt K mg aKINDS) (h__law_take : Has P w K mg base 1 "_law_take" s__law_take ["box", "many"] F__law_take) (len : ∀ ds M Q E, F__law_word ds M Q E → ds.length = 2)
    (body : ∀ ds M Q R, F__law_word ds M Q R → W__law_word { nx := fun _ M' => Q .non M', rt := Q, xr := lx R } (startE 4 ds) M) : FnG P w K mg base 2 f fd ["box", "most"] (lift K F__law_word) :=
  ok_fn Fn sc__law_word len fun cdv A outer s H E gd hr => (dv__law_word T h__law_take cdv A outer s H E gd hr).elim fun t ht => ⟨t, _, ht, body⟩
theorem sc__law_vector : FnScope ["box", "places", "most", "turn"] ["box", "places"] (defScope s__law_vector) := ⟨rfl, rfl, rfl, by decide +kernel, rfl, by decide +kernel, by decide +kernel⟩
abbrev W__law_vector : WS := (wSeq (wAsg (wCall F__law_pick (wCons (wVar 0) (wCons (wLst (wCons (wC (.int 1)) (wCons (wC (.int 2)) (wCons (wC (.int 3)) (wCons (wC (.int 5)) (wCons (wC (.int 10000)) wNil)))))) wNil))) (wgName 2)) (wRet (wCB fTuple (wCons (wLc (wiRange1 (wCons (wVar 1) wNil)) (wgName 3) wYes (wOp (fI0 fun i j => .int (i - j)) (wCall F__law_take (wCons (wVar 0) (wCons (wOp addD (wOp (fI CM fun i j => .int (i * j)) (wC (.int 2)) (wVar 2)) (wC (.int 1))) wNil))) (wVar 2)) [3]) wNil))))
theorem dv__law_vector {f : Addr} (T : Txt K mg aKINDS) (h__law_take : Has P w K mg base 1 "_law_take" s__law_take ["box", "many"] F__law_take) (h__law_pick : Has P w K mg base 2 "_law_pick" s__law_pick ["box", "some"] F__law_pick) (cdv : Value) (A : Around) (outer : List Env) (s : Shared) (H : Hp) (E : XK) (gd : A.guards = some []) (hr : Room 2 (A.deeper (envOfC "_law_vector" (defScope s__law_vector) s.heap.objs.size f cdv))) :
    ∃ t, DSs (cxOf (L2.CX P w) P w K mg base ["box", "places", "most", "turn"] "_law_vector" (defScope s__law_vector) f cdv A outer s H E) (lw E) (defBody s__law_vector) t W__law_vector := by
  exact ⟨_, (dss_cons (ds_set 2 sc__law_vector.nd (de_h h__law_pick (hr.mono (by decide)) gd (da_cons (de_var 0) (da_cons (de_lst (da_cons de_int (da_cons de_int (da_cons de_int (da_cons de_int (da_cons de_int da_nil)))))) da_nil)))) (dss_one (ds_ret (de_callTy call_tuple_of sim_tuple T.z_tuple (show bootBuiltins "tuple" = some (.type "tuple") from rfl) (da_cons (de_lc (own := [("turn", 3)]) rfl sc__law_vector.nd (di_range1 T.z_range (da_cons (de_var 1) da_nil)) (show BlkOk ["box", "places", "most", "turn"] (defScope s__law_vector) _ [("turn", 3)] from ⟨rfl, by decide +kernel, by decide +kernel, by decide +kernel, by decide +kernel⟩) (fun _ _ _ _ _ => (dg_name 3 sc__law_vector.nd)) (fun _ _ _ _ _ => dts_nil) (fun _ _ _ _ _ => (de_sub (de_h h__law_take (hr.mono (by decide)) gd (da_cons (de_var 0) (da_cons (de_add (de_mul de_int (de_var 2)) de_int) da_nil))) (de_var 2))) keep_name) da_nil)))))⟩
theorem ok__law_vector {f : Addr} {fd : FuncData} (Fn : Fun K "_law_vector" "_law_vector" s__law_vector f fd) (T : Txt K mg aKINDS) (h__law_take : Has P w K mg base 1 "_law_take" s__law_take ["box", "many"] F__law_take) (h__law_pick : Has P w K mg base 2 "_law_pick" s__law_pick ["box", "some"] F__law_pick) (len : ∀ ds M Q E, F__law_vector ds M Q E → ds.length = 2)
    (body : ∀ ds M Q R, F__law_vector ds M Q R → W__law_vector { nx := fun _ M' => Q .non M', rt := Q, xr := lx R } (startE 4 ds) M) : FnG P w K mg base 3 f fd ["box", "places"] (lift K F__law_vector) :=
  ok_fn Fn sc__law_vector len fun cdv A outer s H E gd hr => (dv__law_vector T h__law_take h__law_pick cdv A outer s H E gd hr).elim fun t ht => ⟨t, _, ht, body⟩
theorem sc__law_item : FnScope ["box", "places", "keys", "names", "name", "labels", "most"] ["box", "places", "keys", "names"] (defScope s__law_item) := ⟨rfl, rfl, rfl, by decide +kernel, rfl, by decide +kernel, by decide +kernel⟩
abbrev W__law_item : WS := (wSeq (wPar 5 6 (wCons (wLstM wNil) (wCons (wCall F__law_pick (wCons (wVar 0) (wCons (wLst (wCons (wC (.int 1)) (wCons (wC (.int 3)) (wCons (wC (.int 3)) (wCons (wOp (fI CPow fun i j => .int (i ^ j.toNat)) (wC (.int 10)) (wC (.int 9))) wNil))))) wNil))) wNil))) (wSeq (wFor (wiSeq (wVar 3)) (wgName 4) (wIfS (wB (wOp (eqV false) (wCall F__law_take (wCons (wVar 0) (wCons (wC (.int 2)) wNil))) (wC (.int 0)))) (wDrop (wApp (wVar 5) (wCons (wTup (wCons (wVar 4) (wCons (wOp (fI0 fun i j => .int (i - j)) (wCall F__law_take (wCons (wVar 0) (wCons (wOp addD (wOp (fI CM fun i j => .int (i * j)) (wC (.int 2)) (wVar 6)) (wC (.int 1))) wNil))) (wVar 6)) wNil))) wNil))) wNext)) (wRet (wTup (wCons (wCall F__law_pick (wCons (wVar 0) (wCons (wVar 2) wNil))) (wCons (wCall F__law_vector (wCons (wVar 0) (wCons (wVar 1) wNil))) (wCons (wCB fTuple (wCons (wVar 5) wNil)) wNil)))))))
theorem dv__law_item {f : Addr} (T : Txt K mg aKINDS) (h__law_take : Has P w K mg base 1 "_law_take" s__law_take ["box", "many"] F__law_take) (h__law_pick : Has P w K mg base 2 "_law_pick" s__law_pick ["box", "some"] F__law_pick) (h__law_vector : Has P w K mg base 3 "_law_vector" s__law_vector ["box", "places"] F__law_vector) (cdv : Value) (A : Around) (outer : List Env) (s : Shared) (H : Hp) (E : XK) (gd : A.guards = some []) (hr : Room 3 (A.deeper (envOfC "_law_item" (defScope s__law_item) s.heap.objs.size f cdv))) :
    ∃ t, DSs (cxOf (L2.CX P w) P w K mg base ["box", "places", "keys", "names", "name", "labels", "most"] "_law_item" (defScope s__law_item) f cdv A outer s H E) (lw E) (defBody s__law_item) t W__law_item := by
  exact ⟨_, (dss_cons (ds_par 5 6 rfl sc__law_item.nd (da_cons (de_lstM da_nil) (da_cons (de_h h__law_pick (hr.mono (by decide)) gd (da_cons (de_var 0) (da_cons (de_lst (da_cons de_int (da_cons de_int (da_cons de_int (da_cons (de_pow de_int de_int) da_nil))))) da_nil))) da_nil))) (dss_cons (ds_for (passes_of rfl) rfl (di_seq (de_var 3)) (dg_name 4 sc__law_item.nd) (dss_one (ds_if (dt_cmp (op_eqV hr) sim_eqV (de_h h__law_take (hr.mono (by decide)) gd (da_cons (de_var 0) (da_cons de_int da_nil))) de_int) (dss_one (ds_expr (de_append (de_var 5) (da_cons (de_tup (da_cons (de_var 4) (da_cons (de_sub (de_h h__law_take (hr.mono (by decide)) gd (da_cons (de_var 0) (da_cons (de_add (de_mul de_int (de_var 6)) de_int) da_nil))) (de_var 6)) da_nil))) da_nil)))) dss_nil))) (dss_one (ds_ret (de_tup (da_cons (de_h h__law_pick (hr.mono (by decide)) gd (da_cons (de_var 0) (da_cons (de_var 2) da_nil))) (da_cons (de_h h__law_vector (hr.mono (by decide)) gd (da_cons (de_var 0) (da_cons (de_var 1) da_nil))) (da_cons (de_callTy call_tuple_of sim_tuple T.z_tuple (show bootBuiltins "tuple" = some (.type "tuple") from rfl) (da_cons (de_var 5) da_nil)) da_nil))))))))⟩
theorem ok__law_item {f : Addr} {fd : FuncData} (Fn : Fun K "_law_item" "_law_item" s__law_item f fd) (T : Txt K mg aKINDS) (h__law_take : Has P w K mg base 1 "_law_take" s__law_take ["box", "many"] F__law_take) (h__law_pick : Has P w K mg base 2 "_law_pick" s__law_pick ["box", "some"] F__law_pick) (h__law_vector : Has P w K mg base 3 "_law_vector" s__law_vector ["box", "places"] F__law_vector) (len : ∀ ds M Q E, F__law_item ds M Q E → ds.length = 4)
    (body : ∀ ds M Q R, F__law_item ds M Q R → W__law_item { nx := fun _ M' => Q .non M', rt := Q, xr := lx R } (startE 7 ds) M) : FnG P w K mg base 4 f fd ["box", "places", "keys", "names"] (lift K F__law_item) :=
  ok_fn Fn sc__law_item len fun cdv A outer s H E gd hr => (dv__law_item T h__law_take h__law_pick h__law_vector cdv A outer s H E gd hr).elim fun t ht => ⟨t, _, ht, body⟩
theorem sc__law_world : FnScope ["box", "keys", "turn", "names"] ["box"] (defScope s__law_world) := ⟨rfl, rfl, rfl, by decide +kernel, rfl, by decide +kernel, by decide +kernel⟩
abbrev W__law_world : WS := (wSeq (wAsg (wLstM (wCons (wCall F__law_take (wCons (wVar 0) (wCons (wC (.int 9)) wNil))) wNil)) (wgName 1)) (wSeq (wFor (wiRange1 (wCons (wOp addD (wC (.int 2)) (wCall F__law_take (wCons (wVar 0) (wCons (wC (.int 5)) wNil)))) wNil)) (wgName 2) (wDrop (wApp (wVar 1) (wCons (wOp addD (wOp ixD (wVar 1) (wNeg (wC (.int 1)))) (wCall F__law_pick (wCons (wVar 0) (wCons (wLst (wCons (wC (.int 1)) (wCons (wC (.int 1)) (wCons (wC (.int 2)) (wCons (wC (.int 1000)) wNil))))) wNil)))) wNil)))) (wSeq (wIfS (wB (wOp (eqV false) (wCall F__law_take (wCons (wVar 0) (wCons (wC (.int 5)) wNil))) (wC (.int 0)))) (wDrop (wApp (wVar 1) (wCons (wOp (fI0 fun i j => .int (i - j)) (wOp (fI CPow fun i j => .int (i ^ j.toNat)) (wC (.int 10)) (wC (.int 9))) (wC (.int 1))) wNil))) wNext) (wSeq (wAsg (wSortSet (wLc (wiRange1 (wCons (wC (.int 3)) wNil)) (wgName 2) wYes (wCall F__law_word (wCons (wVar 0) (wCons (wCall F__law_pick (wCons (wVar 0) (wCons (wLst (wCons (wC (.int 1)) (wCons (wC (.int 3)) (wCons (wC (.int 8)) wNil)))) wNil))) wNil))) [2])) (wgName 3)) (wRet (wTup (wCons (wOp addD (wC (.int 1)) (wCall F__law_take (wCons (wVar 0) (wCons (wC (.int 3)) wNil)))) (wCons (wVar 1) (wCons (wVar 3) wNil)))))))))
theorem dv__law_world {f : Addr} (T : Txt K mg aKINDS) (h__law_take : Has P w K mg base 1 "_law_take" s__law_take ["box", "many"] F__law_take) (h__law_pick : Has P w K mg base 2 "_law_pick" s__law_pick ["box", "some"] F__law_pick) (h__law_word : Has P w K mg base 2 "_law_word" s__law_word ["box", "most"] F__law_word) (cdv : Value) (A : Around) (outer : List Env) (s : Shared) (H : Hp) (E : XK) (gd : A.guards = some []) (hr : Room 2 (A.deeper (envOfC "_law_world" (defScope s__law_world) s.heap.objs.size f cdv))) :
    ∃ t, DSs (cxOf (L2.CX P w) P w K mg base ["box", "keys", "turn", "names"] "_law_world" (defScope s__law_world) f cdv A outer s H E) (lw E) (defBody s__law_world) t W__law_world := by
  exact ⟨_, (dss_cons (ds_set 1 sc__law_world.nd (de_lstM (da_cons (de_h h__law_take (hr.mono (by decide)) gd (da_cons (de_var 0) (da_cons de_int da_nil))) da_nil))) (dss_cons (ds_for (passes_of rfl) rfl (di_range1 T.z_range (da_cons (de_add de_int (de_h h__law_take (hr.mono (by decide)) gd (da_cons (de_var 0) (da_cons de_int da_nil)))) da_nil)) (dg_name 2 sc__law_world.nd) (dss_one (ds_expr (de_append (de_var 1) (da_cons (de_add (de_ix (de_var 1) (de_neg de_int)) (de_h h__law_pick (hr.mono (by decide)) gd (da_cons (de_var 0) (da_cons (de_lst (da_cons de_int (da_cons de_int (da_cons de_int (da_cons de_int da_nil))))) da_nil)))) da_nil))))) (dss_cons (ds_if (dt_cmp (op_eqV hr) sim_eqV (de_h h__law_take (hr.mono (by decide)) gd (da_cons (de_var 0) (da_cons de_int da_nil))) de_int) (dss_one (ds_expr (de_append (de_var 1) (da_cons (de_sub (de_pow de_int de_int) de_int) da_nil)))) dss_nil) (dss_cons (ds_set 3 sc__law_world.nd (de_sortSet rfl hr T.z_sorted T.z_set (de_lc (own := [("turn", 2)]) rfl sc__law_world.nd (di_range1 T.z_range (da_cons de_int da_nil)) (show BlkOk ["box", "keys", "turn", "names"] (defScope s__law_world) _ [("turn", 2)] from ⟨rfl, by decide +kernel, by decide +kernel, by decide +kernel, by decide +kernel⟩) (fun _ _ _ _ _ => (dg_name 2 sc__law_world.nd)) (fun _ _ _ _ _ => dts_nil) (fun _ _ _ _ _ => (de_h h__law_word (hr.mono (by decide)) gd (da_cons (de_var 0) (da_cons (de_h h__law_pick (hr.mono (by decide)) gd (da_cons (de_var 0) (da_cons (de_lst (da_cons de_int (da_cons de_int (da_cons de_int da_nil)))) da_nil))) da_nil)))) keep_name))) (dss_one (ds_ret (de_tup (da_cons (de_add de_int (de_h h__law_take (hr.mono (by decide)) gd (da_cons (de_var 0) (da_cons de_int da_nil)))) (da_cons (de_var 1) (da_cons (de_var 3) da_nil))))))))))⟩
theorem ok__law_world {f : Addr} {fd : FuncData} (Fn : Fun K "_law_world" "_law_world" s__law_world f fd) (T : Txt K mg aKINDS) (h__law_take : Has P w K mg base 1 "_law_take" s__law_take ["box", "many"] F__law_take) (h__law_pick : Has P w K mg base 2 "_law_pick" s__law_pick ["box", "some"] F__law_pick) (h__law_word : Has P w K mg base 2 "_law_word" s__law_word ["box", "most"] F__law_word) (len : ∀ ds M Q E, F__law_world ds M Q E → ds.length = 1)
    (body : ∀ ds M Q R, F__law_world ds M Q R → W__law_world { nx := fun _ M' => Q .non M', rt := Q, xr := lx R } (startE 4 ds) M) : FnG P w K mg base 3 f fd ["box"] (lift K F__law_world) :=
  ok_fn Fn sc__law_world len fun cdv A outer s H E gd hr => (dv__law_world T h__law_take h__law_pick h__law_word cdv A outer s H E gd hr).elim fun t ht => ⟨t, _, ht, body⟩
theorem sc__law_items : FnScope ["box", "world", "many", "found", "turn", "places", "keys", "names", "item"] ["box", "world", "many"] (defScope s__law_items) := ⟨rfl, rfl, rfl, by decide +kernel, rfl, by decide +kernel, by decide +kernel⟩
abbrev W__law_items : WS := (wSeq (wAsg (wVar 1) (wgTup 3 (wgCons (wgName 5) (wgCons (wgName 6) (wgCons (wgName 7) wgNil))))) (wSeq (wAsg (wLstM wNil) (wgName 3)) (wSeq (wFor (wiRange1 (wCons (wVar 2) wNil)) (wgName 4) (wSeq (wAsg (wCall F__law_item (wCons (wVar 0) (wCons (wVar 5) (wCons (wVar 6) (wCons (wVar 7) wNil))))) (wgName 8)) (wSeq (wIfS (wAnd (wB (wOp (eqV true) (wVar 3) (wLst wNil))) (wB (wOp (eqV false) (wCall F__law_take (wCons (wVar 0) (wCons (wC (.int 4)) wNil))) (wC (.int 0))))) (wAsg (wTup (wCons (wOp ixD (wVar 8) (wC (.int 0))) (wCons (wOp ixD (wCall F__law_pick (wCons (wVar 0) (wCons (wVar 3) wNil))) (wC (.int 1))) (wCons (wOp ixD (wVar 8) (wC (.int 2))) wNil)))) (wgName 8)) wNext) (wDrop (wApp (wVar 3) (wCons (wVar 8) wNil)))))) (wRet (wVar 3)))))
theorem dv__law_items {f : Addr} (T : Txt K mg aKINDS) (h__law_take : Has P w K mg base 1 "_law_take" s__law_take ["box", "many"] F__law_take) (h__law_pick : Has P w K mg base 2 "_law_pick" s__law_pick ["box", "some"] F__law_pick) (h__law_item : Has P w K mg base 4 "_law_item" s__law_item ["box", "places", "keys", "names"] F__law_item) (cdv : Value) (A : Around) (outer : List Env) (s : Shared) (H : Hp) (E : XK) (gd : A.guards = some []) (hr : Room 4 (A.deeper (envOfC "_law_items" (defScope s__law_items) s.heap.objs.size f cdv))) :
    ∃ t, DSs (cxOf (L2.CX P w) P w K mg base ["box", "world", "many", "found", "turn", "places", "keys", "names", "item"] "_law_items" (defScope s__law_items) f cdv A outer s H E) (lw E) (defBody s__law_items) t W__law_items := by
  exact ⟨_, (dss_cons (ds_asg (de_var 1) (dg_tup rfl (dgs_cons (dg_name 5 sc__law_items.nd) (dgs_cons (dg_name 6 sc__law_items.nd) (dgs_cons (dg_name 7 sc__law_items.nd) dgs_nil))))) (dss_cons (ds_set 3 sc__law_items.nd (de_lstM da_nil)) (dss_cons (ds_for (passes_of rfl) rfl (di_range1 T.z_range (da_cons (de_var 2) da_nil)) (dg_name 4 sc__law_items.nd) (dss_cons (ds_set 8 sc__law_items.nd (de_h h__law_item (hr.mono (by decide)) gd (da_cons (de_var 0) (da_cons (de_var 5) (da_cons (de_var 6) (da_cons (de_var 7) da_nil)))))) (dss_cons (ds_if (DW.dt (dw_and (dt_cmp (op_neV hr) sim_neV (de_var 3) (de_lst da_nil)) (dw_and1 (dt_cmp (op_eqV hr) sim_eqV (de_h h__law_take (hr.mono (by decide)) gd (da_cons (de_var 0) (da_cons de_int da_nil))) de_int)))) (dss_one (ds_set 8 sc__law_items.nd (de_tup (da_cons (de_ix (de_var 8) de_int) (da_cons (de_ix (de_h h__law_pick (hr.mono (by decide)) gd (da_cons (de_var 0) (da_cons (de_var 3) da_nil))) de_int) (da_cons (de_ix (de_var 8) de_int) da_nil)))))) dss_nil) (dss_one (ds_expr (de_append (de_var 3) (da_cons (de_var 8) da_nil))))))) (dss_one (ds_ret (de_var 3))))))⟩
theorem ok__law_items {f : Addr} {fd : FuncData} (Fn : Fun K "_law_items" "_law_items" s__law_items f fd) (T : Txt K mg aKINDS) (h__law_take : Has P w K mg base 1 "_law_take" s__law_take ["box", "many"] F__law_take) (h__law_pick : Has P w K mg base 2 "_law_pick" s__law_pick ["box", "some"] F__law_pick) (h__law_item : Has P w K mg base 4 "_law_item" s__law_item ["box", "places", "keys", "names"] F__law_item) (len : ∀ ds M Q E, F__law_items ds M Q E → ds.length = 3)
    (body : ∀ ds M Q R, F__law_items ds M Q R → W__law_items { nx := fun _ M' => Q .non M', rt := Q, xr := lx R } (startE 9 ds) M) : FnG P w K mg base 5 f fd ["box", "world", "many"] (lift K F__law_items) :=
  ok_fn Fn sc__law_items len fun cdv A outer s H E gd hr => (dv__law_items T h__law_take h__law_pick h__law_item cdv A outer s H E gd hr).elim fun t ht => ⟨t, _, ht, body⟩
theorem sc__law_deeds : FnScope ["box", "world", "many", "found", "item"] ["box", "world", "many"] (defScope s__law_deeds) := ⟨rfl, rfl, rfl, by decide +kernel, rfl, by decide +kernel, by decide +kernel⟩
abbrev W__law_deeds : WS := (wSeq (wAsg (wLstM wNil) (wgName 3)) (wSeq (wFor (wiSeq (wCall F__law_items (wCons (wVar 0) (wCons (wVar 1) (wCons (wVar 2) wNil))))) (wgName 4) (wDrop (wApp (wVar 3) (wCons (wIf (wB (wOp (eqV false) (wCall F__law_take (wCons (wVar 0) (wCons (wC (.int 3)) wNil))) (wC (.int 0)))) (wTup (wCons (wC (.str "take")) (wCons (wOp ixD (wVar 4) (wC (.int 0))) wNil))) (wTup (wCons (wC (.str "put")) (wCons (wVar 4) wNil)))) wNil)))) (wRet (wCB fTuple (wCons (wVar 3) wNil)))))
theorem dv__law_deeds {f : Addr} (T : Txt K mg aKINDS) (h__law_take : Has P w K mg base 1 "_law_take" s__law_take ["box", "many"] F__law_take) (h__law_items : Has P w K mg base 5 "_law_items" s__law_items ["box", "world", "many"] F__law_items) (cdv : Value) (A : Around) (outer : List Env) (s : Shared) (H : Hp) (E : XK) (gd : A.guards = some []) (hr : Room 5 (A.deeper (envOfC "_law_deeds" (defScope s__law_deeds) s.heap.objs.size f cdv))) :
    ∃ t, DSs (cxOf (L2.CX P w) P w K mg base ["box", "world", "many", "found", "item"] "_law_deeds" (defScope s__law_deeds) f cdv A outer s H E) (lw E) (defBody s__law_deeds) t W__law_deeds := by
  exact ⟨_, (dss_cons (ds_set 3 sc__law_deeds.nd (de_lstM da_nil)) (dss_cons (ds_for (passes_of rfl) rfl (di_seq (de_h h__law_items (hr.mono (by decide)) gd (da_cons (de_var 0) (da_cons (de_var 1) (da_cons (de_var 2) da_nil))))) (dg_name 4 sc__law_deeds.nd) (dss_one (ds_expr (de_append (de_var 3) (da_cons (de_if (dt_cmp (op_eqV hr) sim_eqV (de_h h__law_take (hr.mono (by decide)) gd (da_cons (de_var 0) (da_cons de_int da_nil))) de_int) (de_tup (da_cons de_str (da_cons (de_ix (de_var 4) de_int) da_nil))) (de_tup (da_cons de_str (da_cons (de_var 4) da_nil)))) da_nil))))) (dss_one (ds_ret (de_callTy call_tuple_of sim_tuple T.z_tuple (show bootBuiltins "tuple" = some (.type "tuple") from rfl) (da_cons (de_var 3) da_nil))))))⟩
theorem ok__law_deeds {f : Addr} {fd : FuncData} (Fn : Fun K "_law_deeds" "_law_deeds" s__law_deeds f fd) (T : Txt K mg aKINDS) (h__law_take : Has P w K mg base 1 "_law_take" s__law_take ["box", "many"] F__law_take) (h__law_items : Has P w K mg base 5 "_law_items" s__law_items ["box", "world", "many"] F__law_items) (len : ∀ ds M Q E, F__law_deeds ds M Q E → ds.length = 3)
    (body : ∀ ds M Q R, F__law_deeds ds M Q R → W__law_deeds { nx := fun _ M' => Q .non M', rt := Q, xr := lx R } (startE 5 ds) M) : FnG P w K mg base 6 f fd ["box", "world", "many"] (lift K F__law_deeds) :=
  ok_fn Fn sc__law_deeds len fun cdv A outer s H E gd hr => (dv__law_deeds T h__law_take h__law_items cdv A outer s H E gd hr).elim fun t ht => ⟨t, _, ht, body⟩
theorem sc__law_after : FnScope ["state", "deeds", "found", "deed", "key"] ["state", "deeds"] (defScope s__law_after) := ⟨rfl, rfl, rfl, by decide +kernel, rfl, by decide +kernel, by decide +kernel⟩
abbrev W__law_after : WS := (wSeq (wAsg (wCB fDictA (wCons (wListI false (wVar 0)) wNil)) (wgName 2)) (wSeq (wFor (wiSeq (wVar 1)) (wgName 3) (wSeq (wAsg (wIf (wB (wOp (eqV false) (wOp ixD (wVar 3) (wC (.int 0))) (wC (.str "put")))) (wOp ixD (wOp ixD (wVar 3) (wC (.int 1))) (wC (.int 0))) (wOp ixD (wVar 3) (wC (.int 1)))) (wgName 4)) (wSeq (wIfS (wB (wOp (fDIn false) (wVar 4) (wVar 2))) (wDrop (wDPop1 (wVar 2) (wVar 4))) wNext) (wIfS (wB (wOp (eqV false) (wOp ixD (wVar 3) (wC (.int 0))) (wC (.str "put")))) (wDPut (wVar 2) (wVar 4) (wOp ixD (wVar 3) (wC (.int 1)))) wNext)))) (wRet (wVar 2))))
theorem dv__law_after {f : Addr} (T : Txt K mg aKINDS) (cdv : Value) (A : Around) (outer : List Env) (s : Shared) (H : Hp) (E : XK) (gd : A.guards = some []) (hr : Room 0 (A.deeper (envOfC "_law_after" (defScope s__law_after) s.heap.objs.size f cdv))) :
    ∃ t, DSs (cxOf (L2.CX P w) P w K mg base ["state", "deeds", "found", "deed", "key"] "_law_after" (defScope s__law_after) f cdv A outer s H E) (lw E) (defBody s__law_after) t W__law_after := by
  exact ⟨_, (dss_cons (ds_set 2 sc__law_after.nd (de_callTy (call_dictA rfl) sim_dictA T.z_dict (show bootBuiltins "dict" = some (.type "dict") from rfl) (da_cons (de_listItems false rfl (de_var 0) T.z_list) da_nil))) (dss_cons (ds_for (passes_of rfl) rfl (di_seq (de_var 1)) (dg_name 3 sc__law_after.nd) (dss_cons (ds_set 4 sc__law_after.nd (de_if (dt_cmp (op_eqV hr) sim_eqV (de_ix (de_var 3) de_int) de_str) (de_ix (de_ix (de_var 3) de_int) de_int) (de_ix (de_var 3) de_int))) (dss_cons (ds_if (dt_cmp (op_dIn hr) sim_dIn (de_var 4) (de_var 2)) (dss_one (ds_expr (de_dpop1 (de_var 2) (de_var 4)))) dss_nil) (dss_one (ds_if (dt_cmp (op_eqV hr) sim_eqV (de_ix (de_var 3) de_int) de_str) (dss_one (ds_dput hr (de_var 2) (de_var 4) (de_ix (de_var 3) de_int))) dss_nil))))) (dss_one (ds_ret (de_var 2)))))⟩
theorem ok__law_after {f : Addr} {fd : FuncData} (Fn : Fun K "_law_after" "_law_after" s__law_after f fd) (T : Txt K mg aKINDS) (len : ∀ ds M Q E, F__law_after ds M Q E → ds.length = 2)
    (body : ∀ ds M Q R, F__law_after ds M Q R → W__law_after { nx := fun _ M' => Q .non M', rt := Q, xr := lx R } (startE 5 ds) M) : FnG P w K mg base 1 f fd ["state", "deeds"] (lift K F__law_after) :=
  ok_fn Fn sc__law_after len fun cdv A outer s H E gd hr => (dv__law_after T cdv A outer s H E gd hr).elim fun t ht => ⟨t, _, ht, body⟩
theorem sc__law_shown : FnScope ["state", "key"] ["state"] (defScope s__law_shown) := ⟨rfl, rfl, rfl, by decide +kernel, rfl, by decide +kernel, by decide +kernel⟩
abbrev W__law_shown : WS := (wRet (wCB fRepr (wCons (wLc (wiSeq (wCB fSorted (wCons (wCB (fListK false) (wCons (wVar 0) wNil)) wNil))) (wgName 1) wYes (wTup (wCons (wVar 1) (wCons (wDGet (wVar 0) (wVar 1)) wNil))) [1]) wNil)))
theorem dv__law_shown {f : Addr} (T : Txt K mg aKINDS) (cdv : Value) (A : Around) (outer : List Env) (s : Shared) (H : Hp) (E : XK) (gd : A.guards = some []) (hr : Room 0 (A.deeper (envOfC "_law_shown" (defScope s__law_shown) s.heap.objs.size f cdv))) :
    ∃ t, DSs (cxOf (L2.CX P w) P w K mg base ["state", "key"] "_law_shown" (defScope s__law_shown) f cdv A outer s H E) (lw E) (defBody s__law_shown) t W__law_shown := by
  exact ⟨_, (dss_one (ds_ret (de_callB (call_repr_any hr gd) sim_repr T.z_repr (show bootBuiltins "repr" = some (.builtin "repr") from rfl) (da_cons (de_lc (own := [("key", 1)]) rfl sc__law_shown.nd (di_seq (de_callB cr_sorted sim_sorted T.z_sorted (show bootBuiltins "sorted" = some (.builtin "sorted") from rfl) (da_cons (de_callTy (call_listK rfl) sim_listK T.z_list (show bootBuiltins "list" = some (.type "list") from rfl) (da_cons (de_var 0) da_nil)) da_nil))) (show BlkOk ["state", "key"] (defScope s__law_shown) _ [("key", 1)] from ⟨rfl, by decide +kernel, by decide +kernel, by decide +kernel, by decide +kernel⟩) (fun _ _ _ _ _ => (dg_name 1 sc__law_shown.nd)) (fun _ _ _ _ _ => dts_nil) (fun _ _ _ _ _ => (de_tup (da_cons (de_var 1) (da_cons (de_dget hr (de_var 0) (de_var 1)) da_nil)))) keep_name) da_nil))))⟩
theorem ok__law_shown {f : Addr} {fd : FuncData} (Fn : Fun K "_law_shown" "_law_shown" s__law_shown f fd) (T : Txt K mg aKINDS) (len : ∀ ds M Q E, F__law_shown ds M Q E → ds.length = 1)
    (body : ∀ ds M Q R, F__law_shown ds M Q R → W__law_shown { nx := fun _ M' => Q .non M', rt := Q, xr := lx R } (startE 2 ds) M) : FnG P w K mg base 1 f fd ["state"] (lift K F__law_shown) :=
  ok_fn Fn sc__law_shown len fun cdv A outer s H E gd hr => (dv__law_shown T cdv A outer s H E gd hr).elim fun t ht => ⟨t, _, ht, body⟩
theorem sc__law_last : FnScope ["deeds", "found", "at", "key", "later", "deed"] ["deeds"] (defScope s__law_last) := ⟨rfl, rfl, rfl, by decide +kernel, rfl, by decide +kernel, by decide +kernel⟩
abbrev W__law_last : WS := (wSeq (wAsg (wLstM wNil) (wgName 1)) (wSeq (wFor (wiRange1 (wCons (wCB fLen (wCons (wVar 0) wNil)) wNil)) (wgName 2) (wSeq (wAsg (wIf (wB (wOp (eqV false) (wOp ixD (wOp ixD (wVar 0) (wVar 2)) (wC (.int 0))) (wC (.str "put")))) (wOp ixD (wOp ixD (wOp ixD (wVar 0) (wVar 2)) (wC (.int 1))) (wC (.int 0))) (wOp ixD (wOp ixD (wVar 0) (wVar 2)) (wC (.int 1)))) (wgName 3)) (wSeq (wAsg (wLc (wiSeq (wSl (wVar 0) (wPart (wOp addD (wVar 2) (wC (.int 1)))) wNoP)) (wgName 5) wYes (wIf (wB (wOp (eqV false) (wOp ixD (wVar 5) (wC (.int 0))) (wC (.str "put")))) (wOp ixD (wOp ixD (wVar 5) (wC (.int 1))) (wC (.int 0))) (wOp ixD (wVar 5) (wC (.int 1)))) [5]) (wgName 4)) (wIfS (wB (wOp (fInA true) (wVar 3) (wVar 4))) (wDrop (wApp (wVar 1) (wCons (wTup (wCons (wVar 3) (wCons (wOp ixD (wVar 0) (wVar 2)) wNil))) wNil))) wNext)))) (wRet (wCB fTuple (wCons (wLc (wiSeq (wCB fSrtK (wCons (wVar 1) wNil))) (wgTup 2 (wgCons (wgName 3) (wgCons (wgName 5) wgNil))) wYes (wVar 5) [3, 5]) wNil)))))
theorem dv__law_last {f : Addr} (T : Txt K mg aKINDS) (cdv : Value) (A : Around) (outer : List Env) (s : Shared) (H : Hp) (E : XK) (gd : A.guards = some []) (hr : Room 0 (A.deeper (envOfC "_law_last" (defScope s__law_last) s.heap.objs.size f cdv))) :
    ∃ t, DSs (cxOf (L2.CX P w) P w K mg base ["deeds", "found", "at", "key", "later", "deed"] "_law_last" (defScope s__law_last) f cdv A outer s H E) (lw E) (defBody s__law_last) t W__law_last := by
  exact ⟨_, (dss_cons (ds_set 1 sc__law_last.nd (de_lstM da_nil)) (dss_cons (ds_for (passes_of rfl) rfl (di_range1 T.z_range (da_cons (de_callB call_lenA sim_len T.z_len (show bootBuiltins "len" = some (.builtin "len") from rfl) (da_cons (de_var 0) da_nil)) da_nil)) (dg_name 2 sc__law_last.nd) (dss_cons (ds_set 3 sc__law_last.nd (de_if (dt_cmp (op_eqV hr) sim_eqV (de_ix (de_ix (de_var 0) (de_var 2)) de_int) de_str) (de_ix (de_ix (de_ix (de_var 0) (de_var 2)) de_int) de_int) (de_ix (de_ix (de_var 0) (de_var 2)) de_int))) (dss_cons (ds_setLc 4 (own := [("deed", 5)]) rfl sc__law_last.nd (di_seq (de_slice (de_var 0) (do_some (de_add (de_var 2) de_int)) do_none)) (show BlkOk ["deeds", "found", "at", "key", "later", "deed"] (defScope s__law_last) _ [("deed", 5)] from ⟨rfl, by decide +kernel, by decide +kernel, by decide +kernel, by decide +kernel⟩) (fun _ _ _ _ _ => (dg_name 5 sc__law_last.nd)) (fun _ _ _ _ _ => dts_nil) (fun _ _ _ _ _ => (de_if (dt_cmp (op_eqV hr) sim_eqV (de_ix (de_var 5) de_int) de_str) (de_ix (de_ix (de_var 5) de_int) de_int) (de_ix (de_var 5) de_int))) keep_name (by rfl)) (dss_one (ds_if (dt_cmp (op_notInA hr) sim_inA (de_var 3) (de_var 4)) (dss_one (ds_expr (de_append (de_var 1) (da_cons (de_tup (da_cons (de_var 3) (da_cons (de_ix (de_var 0) (de_var 2)) da_nil))) da_nil)))) dss_nil))))) (dss_one (ds_ret (de_callTy call_tuple_of sim_tuple T.z_tuple (show bootBuiltins "tuple" = some (.type "tuple") from rfl) (da_cons (de_lc (own := [("key", 3), ("deed", 5)]) rfl sc__law_last.nd (di_seq (de_callB (cr_srtK hr) sim_srtK T.z_sorted (show bootBuiltins "sorted" = some (.builtin "sorted") from rfl) (da_cons (de_var 1) da_nil))) (show BlkOk ["deeds", "found", "at", "key", "later", "deed"] (defScope s__law_last) _ [("key", 3), ("deed", 5)] from ⟨rfl, by decide +kernel, by decide +kernel, by decide +kernel, by decide +kernel⟩) (fun _ _ _ _ _ => (dg_tup rfl (dgs_cons (dg_name 3 sc__law_last.nd) (dgs_cons (dg_name 5 sc__law_last.nd) dgs_nil)))) (fun _ _ _ _ _ => dts_nil) (fun _ _ _ _ _ => (de_var 5)) (keep_tup (keep_cons keep_name (keep_cons keep_name keep_nil (fun _ _ _ _ _ h1 h2 => h1 _ _ h2)) (fun _ _ _ _ _ h1 h2 => h1 _ _ h2)))) da_nil))))))⟩
theorem ok__law_last {f : Addr} {fd : FuncData} (Fn : Fun K "_law_last" "_law_last" s__law_last f fd) (T : Txt K mg aKINDS) (len : ∀ ds M Q E, F__law_last ds M Q E → ds.length = 1)
    (body : ∀ ds M Q R, F__law_last ds M Q R → W__law_last { nx := fun _ M' => Q .non M', rt := Q, xr := lx R } (startE 6 ds) M) : FnG P w K mg base 1 f fd ["deeds"] (lift K F__law_last) :=
  ok_fn Fn sc__law_last len fun cdv A outer s H E gd hr => (dv__law_last T cdv A outer s H E gd hr).elim fun t ht => ⟨t, _, ht, body⟩
theorem sc__law_run_right : FnScope ["box", "world", "deed", "all_told", "items", "state", "deeds", "same", "kept", "told", "due", "item"] ["box", "world"] (defScope s__law_run_right) := ⟨rfl, rfl, rfl, by decide +kernel, rfl, by decide +kernel, by decide +kernel⟩
abbrev W__law_run_right : WS := (wSeq (wPar 5 6 (wCons wDNew (wCons (wCall F__law_deeds (wCons (wVar 0) (wCons (wVar 1) (wCons (wOp addD (wC (.int 1)) (wCall F__law_take (wCons (wVar 0) (wCons (wC (.int 9)) wNil)))) wNil)))) wNil))) (wSeq (wFor (wiSeq (wVar 6)) (wgName 2) (wSeq (wPar3 9 10 8 (wCons (wCall F_done (wCons (wVar 5) (wCons (wVar 2) wNil))) (wCons (wCall F__law_after (wCons (wVar 5) (wCons (wTup (wCons (wVar 2) wNil)) wNil))) (wCons (wCall F__law_shown (wCons (wVar 5) wNil)) wNil)))) (wSeq (wIfS (wOr (wNot (wB (wCB fIsi (wCons (wVar 9) (wCons (wC (.ty "dict")) wNil))))) (wOr (wB (wOp (eqV true) (wCall F__law_shown (wCons (wVar 9) wNil)) (wCall F__law_shown (wCons (wVar 10) wNil)))) (wB (wOp (fEqDc true) (wCallK 0 2 [1, 0] F_done wNil (wCons (wVar 2) (wCons (wVar 5) wNil))) (wVar 10))))) (wRet (wC (.bl false))) wNext) (wSeq (wDPut (wVar 9) (wOp (fI0 fun i j => .int (i - j)) (wC (.int 0)) (wC (.int 5))) (wC .non)) (wSeq (wIfS (wOr (wB (wOp (eqV true) (wCall F__law_shown (wCons (wVar 5) wNil)) (wVar 8))) (wB (wOp (fEqDc true) (wCall F_done (wCons (wVar 5) (wCons (wVar 2) wNil))) (wVar 10)))) (wRet (wC (.bl false))) wNext) (wAsg (wVar 10) (wgName 5))))))) (wSeq (wAsg (wCall F_done_all (wCons wDNew (wCons (wVar 6) wNil))) (wgName 3)) (wSeq (wIfS (wOr (wB (wOp (eqV true) (wCall F__law_shown (wCons (wVar 3) wNil)) (wCall F__law_shown (wCons (wVar 5) wNil)))) (wB (wOp (fEqDc true) (wCallK 0 2 [1, 0] F_done_all wNil (wCons (wVar 6) (wCons wDNew wNil))) (wVar 5)))) (wRet (wC (.bl false))) wNext) (wSeq (wDPut (wVar 3) (wOp (fI0 fun i j => .int (i - j)) (wC (.int 0)) (wC (.int 1))) (wC .non)) (wSeq (wIfS (wOr (wB (wOp (fEqDc true) (wCall F_done_all (wCons wDNew (wCons (wVar 6) wNil))) (wVar 5))) (wB (wOp (fEqDc true) (wCall F_done_all (wCons (wVar 5) (wCons (wTup wNil) wNil))) (wVar 5)))) (wRet (wC (.bl false))) wNext) (wSeq (wPar 7 8 (wCons (wCall F_done_all (wCons (wVar 5) (wCons (wTup wNil) wNil))) (wCons (wCall F__law_shown (wCons (wVar 5) wNil)) wNil))) (wSeq (wDPut (wVar 7) (wOp (fI0 fun i j => .int (i - j)) (wC (.int 0)) (wC (.int 1))) (wC .non)) (wSeq (wIfS (wB (wOp (eqV true) (wCall F__law_shown (wCons (wVar 5) wNil)) (wVar 8))) (wRet (wC (.bl false))) wNext) (wSeq (wAsg (wLc (wiSeq (wVar 6)) (wgName 2) (wB (wOp (eqV false) (wOp ixD (wVar 2) (wC (.int 0))) (wC (.str "put")))) (wOp ixD (wVar 2) (wC (.int 1))) [2]) (wgName 4)) (wSeq (wIfS (wB (wOp (eqV true) (wCall F__law_shown (wCons (wCall F_state_of (wCons (wCB fTuple (wCons (wVar 4) wNil)) wNil)) wNil)) (wCall F__law_shown (wCons (wCall F__law_after (wCons wDNew (wCons (wLc (wiSeq (wVar 4)) (wgName 11) wYes (wTup (wCons (wC (.str "put")) (wCons (wVar 11) wNil))) [11]) wNil))) wNil)))) (wRet (wC (.bl false))) wNext) (wRet (wAndV (wOp (fEqDc false) (wCallK 0 1 [0] F_state_of wNil (wCons (wCB fTuple (wCons (wVar 4) wNil)) wNil)) (wCall F_state_of (wCons (wCB fTuple (wCons (wVar 4) wNil)) wNil))) (wOp (fEqDc false) (wCall F_state_of (wCons (wTup wNil) wNil)) wDct0))))))))))))))
theorem dv__law_run_right {f : Addr} (T : Txt K mg aKINDS) (h_done_all : Has P w K mg base 2 "done_all" s_done_all ["state", "deeds"] F_done_all) (h_done : Has P w K mg base 3 "done" s_done ["state", "deed"] F_done) (h_state_of : Has P w K mg base 1 "state_of" s_state_of ["items"] F_state_of) (h__law_take : Has P w K mg base 1 "_law_take" s__law_take ["box", "many"] F__law_take) (h__law_deeds : Has P w K mg base 6 "_law_deeds" s__law_deeds ["box", "world", "many"] F__law_deeds) (h__law_after : Has P w K mg base 1 "_law_after" s__law_after ["state", "deeds"] F__law_after) (h__law_shown : Has P w K mg base 1 "_law_shown" s__law_shown ["state"] F__law_shown) (cdv : Value) (A : Around) (outer : List Env) (s : Shared) (H : Hp) (E : XK) (gd : A.guards = some []) (hr : Room 6 (A.deeper (envOfC "_law_run_right" (defScope s__law_run_right) s.heap.objs.size f cdv))) :
    ∃ t, DSs (cxOf (L2.CX P w) P w K mg base ["box", "world", "deed", "all_told", "items", "state", "deeds", "same", "kept", "told", "due", "item"] "_law_run_right" (defScope s__law_run_right) f cdv A outer s H E) (lw E) (defBody s__law_run_right) t W__law_run_right := by
  exact ⟨_, (dss_cons (ds_par 5 6 rfl sc__law_run_right.nd (da_cons de_dnew (da_cons (de_h h__law_deeds (hr.mono (by decide)) gd (da_cons (de_var 0) (da_cons (de_var 1) (da_cons (de_add de_int (de_h h__law_take (hr.mono (by decide)) gd (da_cons (de_var 0) (da_cons de_int da_nil)))) da_nil)))) da_nil))) (dss_cons (ds_for (passes_of rfl) rfl (di_seq (de_var 6)) (dg_name 2 sc__law_run_right.nd) (dss_cons (ds_par3 9 10 8 rfl sc__law_run_right.nd (da_cons (de_h h_done (hr.mono (by decide)) gd (da_cons (de_var 5) (da_cons (de_var 2) da_nil))) (da_cons (de_h h__law_after (hr.mono (by decide)) gd (da_cons (de_var 5) (da_cons (de_tup (da_cons (de_var 2) da_nil)) da_nil))) (da_cons (de_h h__law_shown (hr.mono (by decide)) gd (da_cons (de_var 5) da_nil)) da_nil)))) (dss_cons (ds_if (DW.dt (dw_or (dt_not (dt_val (de_callB call_isi sim_isi T.z_isinstance (show bootBuiltins "isinstance" = some (.builtin "isinstance") from rfl) (da_cons (de_var 9) (da_cons (de_bty T.z_dict rfl) da_nil))))) (dw_or (dt_cmp (op_neV hr) sim_neV (de_h h__law_shown (hr.mono (by decide)) gd (da_cons (de_var 9) da_nil)) (de_h h__law_shown (hr.mono (by decide)) gd (da_cons (de_var 10) da_nil))) (dw_or1 (dt_cmp (op_neDc hr) sim_eqDc (de_hk0 (ks := ["deed", "state"]) (idx := [1, 0]) h_done (hr.mono (by decide)) gd (fun _ _ _ _ _ _ us ws h1 h2 => match us, ws, h1, h2 with | [], [_, _], _, _ => rfl) (dk_cons (de_var 2) (dk_cons (de_var 5) dk_nil))) (de_var 10)))))) (dss_one (ds_ret de_bl)) dss_nil) (dss_cons (ds_dput hr (de_var 9) (de_sub de_int de_int) de_non) (dss_cons (ds_if (DW.dt (dw_or (dt_cmp (op_neV hr) sim_neV (de_h h__law_shown (hr.mono (by decide)) gd (da_cons (de_var 5) da_nil)) (de_var 8)) (dw_or1 (dt_cmp (op_neDc hr) sim_eqDc (de_h h_done (hr.mono (by decide)) gd (da_cons (de_var 5) (da_cons (de_var 2) da_nil))) (de_var 10))))) (dss_one (ds_ret de_bl)) dss_nil) (dss_one (ds_set 5 sc__law_run_right.nd (de_var 10)))))))) (dss_cons (ds_set 3 sc__law_run_right.nd (de_h h_done_all (hr.mono (by decide)) gd (da_cons de_dnew (da_cons (de_var 6) da_nil)))) (dss_cons (ds_if (DW.dt (dw_or (dt_cmp (op_neV hr) sim_neV (de_h h__law_shown (hr.mono (by decide)) gd (da_cons (de_var 3) da_nil)) (de_h h__law_shown (hr.mono (by decide)) gd (da_cons (de_var 5) da_nil))) (dw_or1 (dt_cmp (op_neDc hr) sim_eqDc (de_hk0 (ks := ["deeds", "state"]) (idx := [1, 0]) h_done_all (hr.mono (by decide)) gd (fun _ _ _ _ _ _ us ws h1 h2 => match us, ws, h1, h2 with | [], [_, _], _, _ => rfl) (dk_cons (de_var 6) (dk_cons de_dnew dk_nil))) (de_var 5))))) (dss_one (ds_ret de_bl)) dss_nil) (dss_cons (ds_dput hr (de_var 3) (de_sub de_int de_int) de_non) (dss_cons (ds_if (DW.dt (dw_or (dt_cmp (op_neDc hr) sim_eqDc (de_h h_done_all (hr.mono (by decide)) gd (da_cons de_dnew (da_cons (de_var 6) da_nil))) (de_var 5)) (dw_or1 (dt_cmp (op_neDc hr) sim_eqDc (de_h h_done_all (hr.mono (by decide)) gd (da_cons (de_var 5) (da_cons (de_tup da_nil) da_nil))) (de_var 5))))) (dss_one (ds_ret de_bl)) dss_nil) (dss_cons (ds_par 7 8 rfl sc__law_run_right.nd (da_cons (de_h h_done_all (hr.mono (by decide)) gd (da_cons (de_var 5) (da_cons (de_tup da_nil) da_nil))) (da_cons (de_h h__law_shown (hr.mono (by decide)) gd (da_cons (de_var 5) da_nil)) da_nil))) (dss_cons (ds_dput hr (de_var 7) (de_sub de_int de_int) de_non) (dss_cons (ds_if (dt_cmp (op_neV hr) sim_neV (de_h h__law_shown (hr.mono (by decide)) gd (da_cons (de_var 5) da_nil)) (de_var 8)) (dss_one (ds_ret de_bl)) dss_nil) (dss_cons (ds_setLc 4 (own := [("deed", 2)]) rfl sc__law_run_right.nd (di_seq (de_var 6)) (show BlkOk ["box", "world", "deed", "all_told", "items", "state", "deeds", "same", "kept", "told", "due", "item"] (defScope s__law_run_right) _ [("deed", 2)] from ⟨rfl, by decide +kernel, by decide +kernel, by decide +kernel, by decide +kernel⟩) (fun _ _ _ _ _ => (dg_name 2 sc__law_run_right.nd)) (fun _ _ _ _ _ => (dts_one (dt_cmp (op_eqV hr) sim_eqV (de_ix (de_var 2) de_int) de_str))) (fun _ _ _ _ _ => (de_ix (de_var 2) de_int)) keep_name (by rfl)) (dss_cons (ds_if (dt_cmp (op_neV hr) sim_neV (de_h h__law_shown (hr.mono (by decide)) gd (da_cons (de_h h_state_of (hr.mono (by decide)) gd (da_cons (de_callTy call_tuple_of sim_tuple T.z_tuple (show bootBuiltins "tuple" = some (.type "tuple") from rfl) (da_cons (de_var 4) da_nil)) da_nil)) da_nil)) (de_h h__law_shown (hr.mono (by decide)) gd (da_cons (de_h h__law_after (hr.mono (by decide)) gd (da_cons de_dnew (da_cons (de_lc (own := [("item", 11)]) rfl sc__law_run_right.nd (di_seq (de_var 4)) (show BlkOk ["box", "world", "deed", "all_told", "items", "state", "deeds", "same", "kept", "told", "due", "item"] (defScope s__law_run_right) _ [("item", 11)] from ⟨rfl, by decide +kernel, by decide +kernel, by decide +kernel, by decide +kernel⟩) (fun _ _ _ _ _ => (dg_name 11 sc__law_run_right.nd)) (fun _ _ _ _ _ => dts_nil) (fun _ _ _ _ _ => (de_tup (da_cons de_str (da_cons (de_var 11) da_nil)))) keep_name) da_nil))) da_nil))) (dss_one (ds_ret de_bl)) dss_nil) (dss_one (ds_ret (de_and (de_cmp (op_eqDc hr) sim_eqDc (de_hk0 (ks := ["items"]) (idx := [0]) h_state_of (hr.mono (by decide)) gd (fun _ _ _ _ _ _ us ws h1 h2 => match us, ws, h1, h2 with | [], [_], _, _ => rfl) (dk_cons (de_callTy call_tuple_of sim_tuple T.z_tuple (show bootBuiltins "tuple" = some (.type "tuple") from rfl) (da_cons (de_var 4) da_nil)) dk_nil)) (de_h h_state_of (hr.mono (by decide)) gd (da_cons (de_callTy call_tuple_of sim_tuple T.z_tuple (show bootBuiltins "tuple" = some (.type "tuple") from rfl) (da_cons (de_var 4) da_nil)) da_nil))) (de_one (de_cmp (op_eqDc hr) sim_eqDc (de_h h_state_of (hr.mono (by decide)) gd (da_cons (de_tup da_nil) da_nil)) de_dct0))))))))))))))))⟩
theorem ok__law_run_right {f : Addr} {fd : FuncData} (Fn : Fun K "_law_run_right" "_law_run_right" s__law_run_right f fd) (T : Txt K mg aKINDS) (h_done_all : Has P w K mg base 2 "done_all" s_done_all ["state", "deeds"] F_done_all) (h_done : Has P w K mg base 3 "done" s_done ["state", "deed"] F_done) (h_state_of : Has P w K mg base 1 "state_of" s_state_of ["items"] F_state_of) (h__law_take : Has P w K mg base 1 "_law_take" s__law_take ["box", "many"] F__law_take) (h__law_deeds : Has P w K mg base 6 "_law_deeds" s__law_deeds ["box", "world", "many"] F__law_deeds) (h__law_after : Has P w K mg base 1 "_law_after" s__law_after ["state", "deeds"] F__law_after) (h__law_shown : Has P w K mg base 1 "_law_shown" s__law_shown ["state"] F__law_shown) (len : ∀ ds M Q E, F__law_run_right ds M Q E → ds.length = 2)
    (body : ∀ ds M Q R, F__law_run_right ds M Q R → W__law_run_right { nx := fun _ M' => Q .non M', rt := Q, xr := lx R } (startE 12 ds) M) : FnG P w K mg base 7 f fd ["box", "world"] (lift K F__law_run_right) :=
  ok_fn Fn sc__law_run_right len fun cdv A outer s H E gd hr => (dv__law_run_right T h_done_all h_done h_state_of h__law_take h__law_deeds h__law_after h__law_shown cdv A outer s H E gd hr).elim fun t ht => ⟨t, _, ht, body⟩
theorem sc__law_changed : FnScope ["box", "world", "deeds", "found", "more", "at", "kind"] ["box", "world", "deeds"] (defScope s__law_changed) := ⟨rfl, rfl, rfl, by decide +kernel, rfl, by decide +kernel, by decide +kernel⟩
abbrev W__law_changed : WS := (wSeq (wPar 3 4 (wCons (wCB fListM (wCons (wVar 2) wNil)) (wCons (wOp ixD (wCall F__law_deeds (wCons (wVar 0) (wCons (wVar 1) (wCons (wC (.int 1)) wNil)))) (wC (.int 0))) wNil))) (wSeq (wPar 5 6 (wCons (wCall F__law_take (wCons (wVar 0) (wCons (wCB fLen (wCons (wVar 3) wNil)) wNil))) (wCons (wCall F__law_take (wCons (wVar 0) (wCons (wC (.int 5)) wNil))) wNil))) (wSeq (wIfS (wB (wOp (eqV false) (wVar 6) (wC (.int 0)))) (wDrop (wPopI (wVar 3) (wCons (wVar 5) wNil))) (wIfS (wB (wOp (eqV false) (wVar 6) (wC (.int 1)))) (wAsg (wVar 4) (wgSub (wVar 3) (wVar 5))) (wIfS (wB (wOp (eqV false) (wVar 6) (wC (.int 2)))) (wDrop (wIns (wVar 3) (wCons (wVar 5) (wCons (wVar 4) wNil)))) (wIfS (wB (wOp (eqV false) (wVar 6) (wC (.int 3)))) (wDrop (wApp (wVar 3) (wCons (wOp ixD (wVar 3) (wVar 5)) wNil))) (wSeq (wDrop (wIns (wVar 3) (wCons (wC (.int 0)) (wCons (wVar 4) wNil)))) (wDrop (wApp (wVar 3) (wCons (wOp ixD (wVar 3) (wCall F__law_take (wCons (wVar 0) (wCons (wCB fLen (wCons (wVar 3) wNil)) wNil)))) wNil)))))))) (wRet (wCB fTuple (wCons (wVar 3) wNil))))))
theorem dv__law_changed {f : Addr} (T : Txt K mg aKINDS) (h__law_take : Has P w K mg base 1 "_law_take" s__law_take ["box", "many"] F__law_take) (h__law_deeds : Has P w K mg base 6 "_law_deeds" s__law_deeds ["box", "world", "many"] F__law_deeds) (cdv : Value) (A : Around) (outer : List Env) (s : Shared) (H : Hp) (E : XK) (gd : A.guards = some []) (hr : Room 6 (A.deeper (envOfC "_law_changed" (defScope s__law_changed) s.heap.objs.size f cdv))) :
    ∃ t, DSs (cxOf (L2.CX P w) P w K mg base ["box", "world", "deeds", "found", "more", "at", "kind"] "_law_changed" (defScope s__law_changed) f cdv A outer s H E) (lw E) (defBody s__law_changed) t W__law_changed := by
  exact ⟨_, (dss_cons (ds_par 3 4 rfl sc__law_changed.nd (da_cons (de_callTy call_list_of sim_listM T.z_list (show bootBuiltins "list" = some (.type "list") from rfl) (da_cons (de_var 2) da_nil)) (da_cons (de_ix (de_h h__law_deeds (hr.mono (by decide)) gd (da_cons (de_var 0) (da_cons (de_var 1) (da_cons de_int da_nil)))) de_int) da_nil))) (dss_cons (ds_par 5 6 rfl sc__law_changed.nd (da_cons (de_h h__law_take (hr.mono (by decide)) gd (da_cons (de_var 0) (da_cons (de_callB call_lenA sim_len T.z_len (show bootBuiltins "len" = some (.builtin "len") from rfl) (da_cons (de_var 3) da_nil)) da_nil))) (da_cons (de_h h__law_take (hr.mono (by decide)) gd (da_cons (de_var 0) (da_cons de_int da_nil))) da_nil))) (dss_cons (ds_if (dt_cmp (op_eqV hr) sim_eqV (de_var 6) de_int) (dss_one (ds_expr (de_popI (de_var 3) (da_cons (de_var 5) da_nil)))) (dss_one (ds_if (dt_cmp (op_eqV hr) sim_eqV (de_var 6) de_int) (dss_one (ds_asg (de_var 4) (dg_sub (de_var 3) (de_var 5)))) (dss_one (ds_if (dt_cmp (op_eqV hr) sim_eqV (de_var 6) de_int) (dss_one (ds_expr (de_insert (de_var 3) (da_cons (de_var 5) (da_cons (de_var 4) da_nil))))) (dss_one (ds_if (dt_cmp (op_eqV hr) sim_eqV (de_var 6) de_int) (dss_one (ds_expr (de_append (de_var 3) (da_cons (de_ix (de_var 3) (de_var 5)) da_nil)))) (dss_cons (ds_expr (de_insert (de_var 3) (da_cons de_int (da_cons (de_var 4) da_nil)))) (dss_one (ds_expr (de_append (de_var 3) (da_cons (de_ix (de_var 3) (de_h h__law_take (hr.mono (by decide)) gd (da_cons (de_var 0) (da_cons (de_callB call_lenA sim_len T.z_len (show bootBuiltins "len" = some (.builtin "len") from rfl) (da_cons (de_var 3) da_nil)) da_nil)))) da_nil)))))))))))) (dss_one (ds_ret (de_callTy call_tuple_of sim_tuple T.z_tuple (show bootBuiltins "tuple" = some (.type "tuple") from rfl) (da_cons (de_var 3) da_nil)))))))⟩
theorem ok__law_changed {f : Addr} {fd : FuncData} (Fn : Fun K "_law_changed" "_law_changed" s__law_changed f fd) (T : Txt K mg aKINDS) (h__law_take : Has P w K mg base 1 "_law_take" s__law_take ["box", "many"] F__law_take) (h__law_deeds : Has P w K mg base 6 "_law_deeds" s__law_deeds ["box", "world", "many"] F__law_deeds) (len : ∀ ds M Q E, F__law_changed ds M Q E → ds.length = 3)
    (body : ∀ ds M Q R, F__law_changed ds M Q R → W__law_changed { nx := fun _ M' => Q .non M', rt := Q, xr := lx R } (startE 7 ds) M) : FnG P w K mg base 7 f fd ["box", "world", "deeds"] (lift K F__law_changed) :=
  ok_fn Fn sc__law_changed len fun cdv A outer s H E gd hr => (dv__law_changed T h__law_take h__law_deeds cdv A outer s H E gd hr).elim fun t ht => ⟨t, _, ht, body⟩
theorem sc__law_effects_right : FnScope ["box", "world", "one", "other", "full", "same", "state", "places", "keys", "names", "first", "second", "key"] ["box", "world"] (defScope s__law_effects_right) := ⟨rfl, rfl, rfl, by decide +kernel, rfl, by decide +kernel, by decide +kernel⟩
abbrev W__law_effects_right : WS := (wSeq (wAsg (wVar 1) (wgTup 3 (wgCons (wgName 7) (wgCons (wgName 8) (wgCons (wgName 9) wgNil))))) (wSeq (wAsg (wCall F__law_deeds (wCons (wVar 0) (wCons (wVar 1) (wCons (wOp addD (wC (.int 1)) (wCall F__law_take (wCons (wVar 0) (wCons (wC (.int 6)) wNil)))) wNil)))) (wgName 2)) (wSeq (wAsg (wCall F__law_changed (wCons (wVar 0) (wCons (wVar 1) (wCons (wVar 2) wNil)))) (wgName 3)) (wSeq (wPar 10 11 (wCons (wCall F_last_deeds (wCons (wVar 2) wNil)) (wCons (wCallK 0 1 [0] F_last_deeds wNil (wCons (wVar 3) wNil)) wNil))) (wSeq (wIfS (wOr (wB (wOp (eqV true) (wCB fRepr (wCons (wVar 10) wNil)) (wCB fRepr (wCons (wCall F__law_last (wCons (wVar 2) wNil)) wNil)))) (wOr (wB (wOp (eqV true) (wCB fRepr (wCons (wVar 11) wNil)) (wCB fRepr (wCons (wCall F__law_last (wCons (wVar 3) wNil)) wNil)))) (wB (wOp (eqV true) (wCall F_last_deeds (wCons (wVar 10) wNil)) (wVar 10))))) (wRet (wC (.bl false))) wNext) (wSeq (wAsg (wCB fDictA (wCons (wLc (wiSeq (wVar 8)) (wgName 12) wYes (wTup (wCons (wVar 12) (wCons (wTup (wCons (wVar 12) (wCons (wOp tmul1 (wTup (wCons (wC (.int 7)) wNil)) (wVar 7)) (wCons (wTup wNil) wNil)))) wNil))) [12]) wNil)) (wgName 4)) (wSeq (wAsg (wC (.bl true)) (wgName 5)) (wSeq (wFor (wiSeq (wLst (wCons wDct0 (wCons (wVar 4) (wCons (wCall F__law_after (wCons wDNew (wCons (wCall F__law_deeds (wCons (wVar 0) (wCons (wVar 1) (wCons (wC (.int 4)) wNil)))) wNil))) wNil))))) (wgName 6) (wSeq (wIfS (wOr (wB (wOp (fEqDc true) (wCall F_done_all (wCons (wVar 6) (wCons (wVar 2) wNil))) (wCall F_done_all (wCons (wVar 6) (wCons (wVar 10) wNil))))) (wB (wOp (fEqDc true) (wCall F_done_all (wCons (wVar 6) (wCons (wVar 3) wNil))) (wCall F_done_all (wCons (wVar 6) (wCons (wVar 11) wNil)))))) (wRet (wC (.bl false))) wNext) (wAsg (wAndV (wVar 5) (wOp (fEqDc false) (wCall F_done_all (wCons (wVar 6) (wCons (wVar 2) wNil))) (wCall F_done_all (wCons (wVar 6) (wCons (wVar 3) wNil))))) (wgName 5)))) (wRet (wOp (eqV false) (wVar 5) (wOp (eqV false) (wVar 10) (wVar 11))))))))))))
theorem dv__law_effects_right {f : Addr} (T : Txt K mg aKINDS) (h_done_all : Has P w K mg base 2 "done_all" s_done_all ["state", "deeds"] F_done_all) (h_last_deeds : Has P w K mg base 2 "last_deeds" s_last_deeds ["deeds"] F_last_deeds) (h__law_take : Has P w K mg base 1 "_law_take" s__law_take ["box", "many"] F__law_take) (h__law_deeds : Has P w K mg base 6 "_law_deeds" s__law_deeds ["box", "world", "many"] F__law_deeds) (h__law_after : Has P w K mg base 1 "_law_after" s__law_after ["state", "deeds"] F__law_after) (h__law_last : Has P w K mg base 1 "_law_last" s__law_last ["deeds"] F__law_last) (h__law_changed : Has P w K mg base 7 "_law_changed" s__law_changed ["box", "world", "deeds"] F__law_changed) (cdv : Value) (A : Around) (outer : List Env) (s : Shared) (H : Hp) (E : XK) (gd : A.guards = some []) (hr : Room 7 (A.deeper (envOfC "_law_effects_right" (defScope s__law_effects_right) s.heap.objs.size f cdv))) :
    ∃ t, DSs (cxOf (L2.CX P w) P w K mg base ["box", "world", "one", "other", "full", "same", "state", "places", "keys", "names", "first", "second", "key"] "_law_effects_right" (defScope s__law_effects_right) f cdv A outer s H E) (lw E) (defBody s__law_effects_right) t W__law_effects_right := by
  exact ⟨_, (dss_cons (ds_asg (de_var 1) (dg_tup rfl (dgs_cons (dg_name 7 sc__law_effects_right.nd) (dgs_cons (dg_name 8 sc__law_effects_right.nd) (dgs_cons (dg_name 9 sc__law_effects_right.nd) dgs_nil))))) (dss_cons (ds_set 2 sc__law_effects_right.nd (de_h h__law_deeds (hr.mono (by decide)) gd (da_cons (de_var 0) (da_cons (de_var 1) (da_cons (de_add de_int (de_h h__law_take (hr.mono (by decide)) gd (da_cons (de_var 0) (da_cons de_int da_nil)))) da_nil))))) (dss_cons (ds_set 3 sc__law_effects_right.nd (de_h h__law_changed (hr.mono (by decide)) gd (da_cons (de_var 0) (da_cons (de_var 1) (da_cons (de_var 2) da_nil))))) (dss_cons (ds_par 10 11 rfl sc__law_effects_right.nd (da_cons (de_h h_last_deeds (hr.mono (by decide)) gd (da_cons (de_var 2) da_nil)) (da_cons (de_hk0 (ks := ["deeds"]) (idx := [0]) h_last_deeds (hr.mono (by decide)) gd (fun _ _ _ _ _ _ us ws h1 h2 => match us, ws, h1, h2 with | [], [_], _, _ => rfl) (dk_cons (de_var 3) dk_nil)) da_nil))) (dss_cons (ds_if (DW.dt (dw_or (dt_cmp (op_neV hr) sim_neV (de_callB (call_repr_any hr gd) sim_repr T.z_repr (show bootBuiltins "repr" = some (.builtin "repr") from rfl) (da_cons (de_var 10) da_nil)) (de_callB (call_repr_any hr gd) sim_repr T.z_repr (show bootBuiltins "repr" = some (.builtin "repr") from rfl) (da_cons (de_h h__law_last (hr.mono (by decide)) gd (da_cons (de_var 2) da_nil)) da_nil))) (dw_or (dt_cmp (op_neV hr) sim_neV (de_callB (call_repr_any hr gd) sim_repr T.z_repr (show bootBuiltins "repr" = some (.builtin "repr") from rfl) (da_cons (de_var 11) da_nil)) (de_callB (call_repr_any hr gd) sim_repr T.z_repr (show bootBuiltins "repr" = some (.builtin "repr") from rfl) (da_cons (de_h h__law_last (hr.mono (by decide)) gd (da_cons (de_var 3) da_nil)) da_nil))) (dw_or1 (dt_cmp (op_neV hr) sim_neV (de_h h_last_deeds (hr.mono (by decide)) gd (da_cons (de_var 10) da_nil)) (de_var 10)))))) (dss_one (ds_ret de_bl)) dss_nil) (dss_cons (ds_set 4 sc__law_effects_right.nd (de_callTy (call_dictA rfl) sim_dictA T.z_dict (show bootBuiltins "dict" = some (.type "dict") from rfl) (da_cons (de_lc (own := [("key", 12)]) rfl sc__law_effects_right.nd (di_seq (de_var 8)) (show BlkOk ["box", "world", "one", "other", "full", "same", "state", "places", "keys", "names", "first", "second", "key"] (defScope s__law_effects_right) _ [("key", 12)] from ⟨rfl, by decide +kernel, by decide +kernel, by decide +kernel, by decide +kernel⟩) (fun _ _ _ _ _ => (dg_name 12 sc__law_effects_right.nd)) (fun _ _ _ _ _ => dts_nil) (fun _ _ _ _ _ => (de_tup (da_cons (de_var 12) (da_cons (de_tup (da_cons (de_var 12) (da_cons (de_tmul1 (de_tup (da_cons de_int da_nil)) (de_var 7)) (da_cons (de_tup da_nil) da_nil)))) da_nil)))) keep_name) da_nil))) (dss_cons (ds_set 5 sc__law_effects_right.nd de_bl) (dss_cons (ds_for (passes_of rfl) rfl (di_seq (de_lst (da_cons de_dct0 (da_cons (de_var 4) (da_cons (de_h h__law_after (hr.mono (by decide)) gd (da_cons de_dnew (da_cons (de_h h__law_deeds (hr.mono (by decide)) gd (da_cons (de_var 0) (da_cons (de_var 1) (da_cons de_int da_nil)))) da_nil))) da_nil))))) (dg_name 6 sc__law_effects_right.nd) (dss_cons (ds_if (DW.dt (dw_or (dt_cmp (op_neDc hr) sim_eqDc (de_h h_done_all (hr.mono (by decide)) gd (da_cons (de_var 6) (da_cons (de_var 2) da_nil))) (de_h h_done_all (hr.mono (by decide)) gd (da_cons (de_var 6) (da_cons (de_var 10) da_nil)))) (dw_or1 (dt_cmp (op_neDc hr) sim_eqDc (de_h h_done_all (hr.mono (by decide)) gd (da_cons (de_var 6) (da_cons (de_var 3) da_nil))) (de_h h_done_all (hr.mono (by decide)) gd (da_cons (de_var 6) (da_cons (de_var 11) da_nil))))))) (dss_one (ds_ret de_bl)) dss_nil) (dss_one (ds_set 5 sc__law_effects_right.nd (de_and (de_var 5) (de_one (de_cmp (op_eqDc hr) sim_eqDc (de_h h_done_all (hr.mono (by decide)) gd (da_cons (de_var 6) (da_cons (de_var 2) da_nil))) (de_h h_done_all (hr.mono (by decide)) gd (da_cons (de_var 6) (da_cons (de_var 3) da_nil)))))))))) (dss_one (ds_ret (de_cmp (op_eqV hr) sim_eqV (de_var 5) (de_cmp (op_eqV hr) sim_eqV (de_var 10) (de_var 11)))))))))))))⟩
theorem ok__law_effects_right {f : Addr} {fd : FuncData} (Fn : Fun K "_law_effects_right" "_law_effects_right" s__law_effects_right f fd) (T : Txt K mg aKINDS) (h_done_all : Has P w K mg base 2 "done_all" s_done_all ["state", "deeds"] F_done_all) (h_last_deeds : Has P w K mg base 2 "last_deeds" s_last_deeds ["deeds"] F_last_deeds) (h__law_take : Has P w K mg base 1 "_law_take" s__law_take ["box", "many"] F__law_take) (h__law_deeds : Has P w K mg base 6 "_law_deeds" s__law_deeds ["box", "world", "many"] F__law_deeds) (h__law_after : Has P w K mg base 1 "_law_after" s__law_after ["state", "deeds"] F__law_after) (h__law_last : Has P w K mg base 1 "_law_last" s__law_last ["deeds"] F__law_last) (h__law_changed : Has P w K mg base 7 "_law_changed" s__law_changed ["box", "world", "deeds"] F__law_changed) (len : ∀ ds M Q E, F__law_effects_right ds M Q E → ds.length = 2)
    (body : ∀ ds M Q R, F__law_effects_right ds M Q R → W__law_effects_right { nx := fun _ M' => Q .non M', rt := Q, xr := lx R } (startE 13 ds) M) : FnG P w K mg base 8 f fd ["box", "world"] (lift K F__law_effects_right) :=
  ok_fn Fn sc__law_effects_right len fun cdv A outer s H E gd hr => (dv__law_effects_right T h_done_all h_last_deeds h__law_take h__law_deeds h__law_after h__law_last h__law_changed cdv A outer s H E gd hr).elim fun t ht => ⟨t, _, ht, body⟩
theorem sc__law_between_right : FnScope ["box", "world", "one", "other", "key", "told", "due", "kept", "at"] ["box", "world"] (defScope s__law_between_right) := ⟨rfl, rfl, rfl, by decide +kernel, rfl, by decide +kernel, by decide +kernel⟩
abbrev W__law_between_right : WS := (wSeq (wAsg (wCall F__law_after (wCons wDNew (wCons (wCall F__law_deeds (wCons (wVar 0) (wCons (wVar 1) (wCons (wCall F__law_take (wCons (wVar 0) (wCons (wC (.int 7)) wNil))) wNil)))) wNil))) (wgName 2)) (wSeq (wAsg (wCall F__law_after (wCons (wVar 2) (wCons (wCall F__law_deeds (wCons (wVar 0) (wCons (wVar 1) (wCons (wCall F__law_take (wCons (wVar 0) (wCons (wC (.int 5)) wNil))) wNil)))) wNil))) (wgName 3)) (wSeq (wAsg (wTup (wCons (wCall F_deeds_between (wCons (wVar 2) (wCons (wVar 3) wNil))) (wCons (wLstM wNil) (wCons (wTup (wCons (wCall F__law_shown (wCons (wVar 2) wNil)) (wCons (wCall F__law_shown (wCons (wVar 3) wNil)) wNil))) wNil)))) (wgTup 3 (wgCons (wgName 5) (wgCons (wgName 6) (wgCons (wgName 7) wgNil))))) (wSeq (wFor (wiSeq (wSortSet (wOp addD (wCB (fListK false) (wCons (wVar 2) wNil)) (wCB (fListK false) (wCons (wVar 3) wNil))))) (wgName 4) (wIfS (wB (wOp (fDIn true) (wVar 4) (wVar 3))) (wDrop (wApp (wVar 6) (wCons (wTup (wCons (wC (.str "take")) (wCons (wVar 4) wNil))) wNil))) (wIfS (wOr (wB (wOp (fDIn true) (wVar 4) (wVar 2))) (wB (wOp (eqV true) (wDGet (wVar 2) (wVar 4)) (wDGet (wVar 3) (wVar 4))))) (wDrop (wApp (wVar 6) (wCons (wTup (wCons (wC (.str "put")) (wCons (wDGet (wVar 3) (wVar 4)) wNil))) wNil))) wNext))) (wSeq (wIfS (wOr (wB (wOp (eqV true) (wCB fRepr (wCons (wVar 5) wNil)) (wCB fRepr (wCons (wCB fTuple (wCons (wVar 6) wNil)) wNil)))) (wOr (wB (wOp (eqV true) (wCallK 0 2 [1, 0] F_deeds_between wNil (wCons (wVar 3) (wCons (wVar 2) wNil))) (wVar 5))) (wB (wOp (fEqDc true) (wCall F_done_all (wCons (wVar 2) (wCons (wVar 5) wNil))) (wVar 3))))) (wRet (wC (.bl false))) wNext) (wSeq (wIfS (wOr (wB (wOp (eqV true) (wCall F_deeds_between (wCons (wVar 2) (wCons (wVar 2) wNil))) (wTup wNil))) (wOr (wB (wOp (fEqDc true) (wCall F_done_all (wCons (wVar 3) (wCons (wCall F_deeds_between (wCons (wVar 3) (wCons (wVar 2) wNil))) wNil))) (wVar 2))) (wB (wOp (eqPV true) (wTup (wCons (wCall F__law_shown (wCons (wVar 2) wNil)) (wCons (wCall F__law_shown (wCons (wVar 3) wNil)) wNil))) (wVar 7))))) (wRet (wC (.bl false))) wNext) (wRet (wNotV (wCB (fBls fun bs => bs.any id) (wCons (wLc (wiRange1 (wCons (wCB fLen (wCons (wVar 5) wNil)) wNil)) (wgName 8) wYes (wOp (fEqDc false) (wCall F_done_all (wCons (wVar 2) (wCons (wOp addD (wSl (wVar 5) wNoP (wPart (wVar 8))) (wSl (wVar 5) (wPart (wOp addD (wVar 8) (wC (.int 1)))) wNoP)) wNil))) (wVar 3)) [8]) wNil))))))))))
theorem dv__law_between_right {f : Addr} (T : Txt K mg aKINDS) (h_done_all : Has P w K mg base 2 "done_all" s_done_all ["state", "deeds"] F_done_all) (h_deeds_between : Has P w K mg base 1 "deeds_between" s_deeds_between ["one", "other"] F_deeds_between) (h__law_take : Has P w K mg base 1 "_law_take" s__law_take ["box", "many"] F__law_take) (h__law_deeds : Has P w K mg base 6 "_law_deeds" s__law_deeds ["box", "world", "many"] F__law_deeds) (h__law_after : Has P w K mg base 1 "_law_after" s__law_after ["state", "deeds"] F__law_after) (h__law_shown : Has P w K mg base 1 "_law_shown" s__law_shown ["state"] F__law_shown) (cdv : Value) (A : Around) (outer : List Env) (s : Shared) (H : Hp) (E : XK) (gd : A.guards = some []) (hr : Room 6 (A.deeper (envOfC "_law_between_right" (defScope s__law_between_right) s.heap.objs.size f cdv))) :
    ∃ t, DSs (cxOf (L2.CX P w) P w K mg base ["box", "world", "one", "other", "key", "told", "due", "kept", "at"] "_law_between_right" (defScope s__law_between_right) f cdv A outer s H E) (lw E) (defBody s__law_between_right) t W__law_between_right := by
  exact ⟨_, (dss_cons (ds_set 2 sc__law_between_right.nd (de_h h__law_after (hr.mono (by decide)) gd (da_cons de_dnew (da_cons (de_h h__law_deeds (hr.mono (by decide)) gd (da_cons (de_var 0) (da_cons (de_var 1) (da_cons (de_h h__law_take (hr.mono (by decide)) gd (da_cons (de_var 0) (da_cons de_int da_nil))) da_nil)))) da_nil)))) (dss_cons (ds_set 3 sc__law_between_right.nd (de_h h__law_after (hr.mono (by decide)) gd (da_cons (de_var 2) (da_cons (de_h h__law_deeds (hr.mono (by decide)) gd (da_cons (de_var 0) (da_cons (de_var 1) (da_cons (de_h h__law_take (hr.mono (by decide)) gd (da_cons (de_var 0) (da_cons de_int da_nil))) da_nil)))) da_nil)))) (dss_cons (ds_asg (de_tup (da_cons (de_h h_deeds_between (hr.mono (by decide)) gd (da_cons (de_var 2) (da_cons (de_var 3) da_nil))) (da_cons (de_lstM da_nil) (da_cons (de_tup (da_cons (de_h h__law_shown (hr.mono (by decide)) gd (da_cons (de_var 2) da_nil)) (da_cons (de_h h__law_shown (hr.mono (by decide)) gd (da_cons (de_var 3) da_nil)) da_nil))) da_nil)))) (dg_tup rfl (dgs_cons (dg_name 5 sc__law_between_right.nd) (dgs_cons (dg_name 6 sc__law_between_right.nd) (dgs_cons (dg_name 7 sc__law_between_right.nd) dgs_nil))))) (dss_cons (ds_for (passes_of rfl) rfl (di_seq (de_sortSet rfl hr T.z_sorted T.z_set (de_add (de_callTy (call_listK rfl) sim_listK T.z_list (show bootBuiltins "list" = some (.type "list") from rfl) (da_cons (de_var 2) da_nil)) (de_callTy (call_listK rfl) sim_listK T.z_list (show bootBuiltins "list" = some (.type "list") from rfl) (da_cons (de_var 3) da_nil))))) (dg_name 4 sc__law_between_right.nd) (dss_one (ds_if (dt_cmp (op_dNotIn hr) sim_dIn (de_var 4) (de_var 3)) (dss_one (ds_expr (de_append (de_var 6) (da_cons (de_tup (da_cons de_str (da_cons (de_var 4) da_nil))) da_nil)))) (dss_one (ds_if (DW.dt (dw_or (dt_cmp (op_dNotIn hr) sim_dIn (de_var 4) (de_var 2)) (dw_or1 (dt_cmp (op_neV hr) sim_neV (de_dget hr (de_var 2) (de_var 4)) (de_dget hr (de_var 3) (de_var 4)))))) (dss_one (ds_expr (de_append (de_var 6) (da_cons (de_tup (da_cons de_str (da_cons (de_dget hr (de_var 3) (de_var 4)) da_nil))) da_nil)))) dss_nil))))) (dss_cons (ds_if (DW.dt (dw_or (dt_cmp (op_neV hr) sim_neV (de_callB (call_repr_any hr gd) sim_repr T.z_repr (show bootBuiltins "repr" = some (.builtin "repr") from rfl) (da_cons (de_var 5) da_nil)) (de_callB (call_repr_any hr gd) sim_repr T.z_repr (show bootBuiltins "repr" = some (.builtin "repr") from rfl) (da_cons (de_callTy call_tuple_of sim_tuple T.z_tuple (show bootBuiltins "tuple" = some (.type "tuple") from rfl) (da_cons (de_var 6) da_nil)) da_nil))) (dw_or (dt_cmp (op_neV hr) sim_neV (de_hk0 (ks := ["other", "one"]) (idx := [1, 0]) h_deeds_between (hr.mono (by decide)) gd (fun _ _ _ _ _ _ us ws h1 h2 => match us, ws, h1, h2 with | [], [_, _], _, _ => rfl) (dk_cons (de_var 3) (dk_cons (de_var 2) dk_nil))) (de_var 5)) (dw_or1 (dt_cmp (op_neDc hr) sim_eqDc (de_h h_done_all (hr.mono (by decide)) gd (da_cons (de_var 2) (da_cons (de_var 5) da_nil))) (de_var 3)))))) (dss_one (ds_ret de_bl)) dss_nil) (dss_cons (ds_if (DW.dt (dw_or (dt_cmp (op_neV hr) sim_neV (de_h h_deeds_between (hr.mono (by decide)) gd (da_cons (de_var 2) (da_cons (de_var 2) da_nil))) (de_tup da_nil)) (dw_or (dt_cmp (op_neDc hr) sim_eqDc (de_h h_done_all (hr.mono (by decide)) gd (da_cons (de_var 3) (da_cons (de_h h_deeds_between (hr.mono (by decide)) gd (da_cons (de_var 3) (da_cons (de_var 2) da_nil))) da_nil))) (de_var 2)) (dw_or1 (dt_cmp (op_nePl hr) sim_eqPl (de_tup (da_cons (de_h h__law_shown (hr.mono (by decide)) gd (da_cons (de_var 2) da_nil)) (da_cons (de_h h__law_shown (hr.mono (by decide)) gd (da_cons (de_var 3) da_nil)) da_nil))) (de_var 7)))))) (dss_one (ds_ret de_bl)) dss_nil) (dss_one (ds_ret (de_not (de_callB (cr_any rfl) sim_any T.z_any (show bootBuiltins "any" = some (.builtin "any") from rfl) (da_cons (de_lc (own := [("at", 8)]) rfl sc__law_between_right.nd (di_range1 T.z_range (da_cons (de_callB call_lenA sim_len T.z_len (show bootBuiltins "len" = some (.builtin "len") from rfl) (da_cons (de_var 5) da_nil)) da_nil)) (show BlkOk ["box", "world", "one", "other", "key", "told", "due", "kept", "at"] (defScope s__law_between_right) _ [("at", 8)] from ⟨rfl, by decide +kernel, by decide +kernel, by decide +kernel, by decide +kernel⟩) (fun _ _ _ _ _ => (dg_name 8 sc__law_between_right.nd)) (fun _ _ _ _ _ => dts_nil) (fun _ _ _ _ _ => (de_cmp (op_eqDc hr) sim_eqDc (de_h h_done_all (hr.mono (by decide)) gd (da_cons (de_var 2) (da_cons (de_add (de_slice (de_var 5) do_none (do_some (de_var 8))) (de_slice (de_var 5) (do_some (de_add (de_var 8) de_int)) do_none)) da_nil))) (de_var 3))) keep_name) da_nil)))))))))))⟩
theorem ok__law_between_right {f : Addr} {fd : FuncData} (Fn : Fun K "_law_between_right" "_law_between_right" s__law_between_right f fd) (T : Txt K mg aKINDS) (h_done_all : Has P w K mg base 2 "done_all" s_done_all ["state", "deeds"] F_done_all) (h_deeds_between : Has P w K mg base 1 "deeds_between" s_deeds_between ["one", "other"] F_deeds_between) (h__law_take : Has P w K mg base 1 "_law_take" s__law_take ["box", "many"] F__law_take) (h__law_deeds : Has P w K mg base 6 "_law_deeds" s__law_deeds ["box", "world", "many"] F__law_deeds) (h__law_after : Has P w K mg base 1 "_law_after" s__law_after ["state", "deeds"] F__law_after) (h__law_shown : Has P w K mg base 1 "_law_shown" s__law_shown ["state"] F__law_shown) (len : ∀ ds M Q E, F__law_between_right ds M Q E → ds.length = 2)
    (body : ∀ ds M Q R, F__law_between_right ds M Q R → W__law_between_right { nx := fun _ M' => Q .non M', rt := Q, xr := lx R } (startE 9 ds) M) : FnG P w K mg base 7 f fd ["box", "world"] (lift K F__law_between_right) :=
  ok_fn Fn sc__law_between_right len fun cdv A outer s H E gd hr => (dv__law_between_right T h_done_all h_deeds_between h__law_take h__law_deeds h__law_after h__law_shown cdv A outer s H E gd hr).elim fun t ht => ⟨t, _, ht, body⟩
theorem sc_law : FnScope ["script", "k", "deeds", "state", "box", "world"] ["script"] (defScope s_law) := ⟨rfl, rfl, rfl, by decide +kernel, rfl, by decide +kernel, by decide +kernel⟩
abbrev W_law : WS := (wSeq (wFor (wiRange1 (wCons (wOp addD (wC (.int 1)) (wCB fInt (wCons (wOp fGt (wCB fLen (wCons (wVar 0) wNil)) (wC (.int 1))) wNil))) wNil)) (wgName 1) (wSeq (wAsg (wCall F__law_box (wCons (wVar 0) (wCons (wVar 1) wNil))) (wgName 4)) (wSeq (wAsg (wCall F__law_world (wCons (wVar 4) wNil)) (wgName 5)) (wIfS (wOr (wNot (wB (wCall F__law_run_right (wCons (wVar 4) (wCons (wVar 5) wNil))))) (wOr (wNot (wB (wCall F__law_effects_right (wCons (wVar 4) (wCons (wVar 5) wNil))))) (wNot (wB (wCall F__law_between_right (wCons (wVar 4) (wCons (wVar 5) wNil))))))) (wRet (wC (.bl false))) wNext)))) (wSeq (wAsg (wTup (wCons (wTup (wCons (wC (.str "put")) (wCons (wTup (wCons (wC (.int 4)) (wCons (wTup (wCons (wC (.int 1)) (wCons (wC (.int 1)) wNil))) (wCons (wTup wNil) wNil)))) wNil))) (wCons (wTup (wCons (wC (.str "put")) (wCons (wTup (wCons (wC (.int 2)) (wCons (wTup (wCons (wC (.int 0)) (wCons (wC (.int 5)) wNil))) (wCons (wTup (wCons (wTup (wCons (wC (.str "old")) (wCons (wC (.int 3)) wNil))) wNil)) wNil)))) wNil))) (wCons (wTup (wCons (wC (.str "take")) (wCons (wC (.int 4)) wNil))) (wCons (wTup (wCons (wC (.str "put")) (wCons (wTup (wCons (wC (.int 7)) (wCons (wTup (wCons (wC (.int 3)) (wCons (wC (.int 1)) wNil))) (wCons (wTup wNil) wNil)))) wNil))) wNil))))) (wgName 2)) (wSeq (wAsg (wCall F_done_all (wCons wDNew (wCons (wVar 2) wNil))) (wgName 3)) (wSeq (wIfS (wOr (wB (wOp (eqV true) (wCB fSortDI (wCons (wVar 3) wNil)) (wLst (wCons (wC (.int 2)) (wCons (wC (.int 7)) wNil))))) (wOr (wB (wOp (eqV true) (wOp ixD (wCall F_last_deeds (wCons (wVar 2) wNil)) (wC (.int 1))) (wTup (wCons (wC (.str "take")) (wCons (wC (.int 4)) wNil))))) (wB (wOp (eqV true) (wCall F_deeds_between (wCons (wVar 3) (wCons (wDisp [((wC (.int 7)), (wDGet (wVar 3) (wC (.int 7))))]) wNil))) (wTup (wCons (wTup (wCons (wC (.str "take")) (wCons (wC (.int 2)) wNil))) wNil)))))) (wRet (wC (.bl false))) wNext) (wRet (wAndV (wOp (fEqDc false) (wCall F_done (wCons wDNew (wCons (wTup (wCons (wC (.str "take")) (wCons (wC (.int 4)) wNil))) wNil))) wDct0) (wAndV (wOp (eqV false) (wCall F_last_deeds (wCons (wTup wNil) wNil)) (wTup wNil)) (wOp (eqV false) (wCall F_last_deeds (wCons (wTup (wCons (wTup (wCons (wC (.str "take")) (wCons (wC (.int 1)) wNil))) (wCons (wTup (wCons (wC (.str "put")) (wCons (wTup (wCons (wC (.int 1)) (wCons (wTup (wCons (wC (.int 0)) wNil)) (wCons (wTup wNil) wNil)))) wNil))) wNil))) wNil)) (wTup (wCons (wTup (wCons (wC (.str "put")) (wCons (wTup (wCons (wC (.int 1)) (wCons (wTup (wCons (wC (.int 0)) wNil)) (wCons (wTup wNil) wNil)))) wNil))) wNil))))))))))
theorem dv_law {f : Addr} (T : Txt K mg aKINDS) (h_done_all : Has P w K mg base 2 "done_all" s_done_all ["state", "deeds"] F_done_all) (h_done : Has P w K mg base 3 "done" s_done ["state", "deed"] F_done) (h_last_deeds : Has P w K mg base 2 "last_deeds" s_last_deeds ["deeds"] F_last_deeds) (h_deeds_between : Has P w K mg base 1 "deeds_between" s_deeds_between ["one", "other"] F_deeds_between) (h__law_box : Has P w K mg base 1 "_law_box" s__law_box ["script", "k"] F__law_box) (h__law_world : Has P w K mg base 3 "_law_world" s__law_world ["box"] F__law_world) (h__law_run_right : Has P w K mg base 7 "_law_run_right" s__law_run_right ["box", "world"] F__law_run_right) (h__law_effects_right : Has P w K mg base 8 "_law_effects_right" s__law_effects_right ["box", "world"] F__law_effects_right) (h__law_between_right : Has P w K mg base 7 "_law_between_right" s__law_between_right ["box", "world"] F__law_between_right) (cdv : Value) (A : Around) (outer : List Env) (s : Shared) (H : Hp) (E : XK) (gd : A.guards = some []) (hr : Room 8 (A.deeper (envOfC "law" (defScope s_law) s.heap.objs.size f cdv))) :
    ∃ t, DSs (cxOf (L2.CX P w) P w K mg base ["script", "k", "deeds", "state", "box", "world"] "law" (defScope s_law) f cdv A outer s H E) (lw E) (defBody s_law) t W_law := by
  exact ⟨_, (dss_cons (ds_for (passes_of rfl) rfl (di_range1 T.z_range (da_cons (de_add de_int (de_callTy call_int1 sim_int T.z_int (show bootBuiltins "int" = some (.type "int") from rfl) (da_cons (de_cmp op_gt sim_gt (de_callB call_lenA sim_len T.z_len (show bootBuiltins "len" = some (.builtin "len") from rfl) (da_cons (de_var 0) da_nil)) de_int) da_nil))) da_nil)) (dg_name 1 sc_law.nd) (dss_cons (ds_set 4 sc_law.nd (de_h h__law_box (hr.mono (by decide)) gd (da_cons (de_var 0) (da_cons (de_var 1) da_nil)))) (dss_cons (ds_set 5 sc_law.nd (de_h h__law_world (hr.mono (by decide)) gd (da_cons (de_var 4) da_nil))) (dss_one (ds_if (DW.dt (dw_or (dt_not (dt_val (de_h h__law_run_right (hr.mono (by decide)) gd (da_cons (de_var 4) (da_cons (de_var 5) da_nil))))) (dw_or (dt_not (dt_val (de_h h__law_effects_right (hr.mono (by decide)) gd (da_cons (de_var 4) (da_cons (de_var 5) da_nil))))) (dw_or1 (dt_not (dt_val (de_h h__law_between_right (hr.mono (by decide)) gd (da_cons (de_var 4) (da_cons (de_var 5) da_nil))))))))) (dss_one (ds_ret de_bl)) dss_nil))))) (dss_cons (ds_set 2 sc_law.nd (de_tup (da_cons (de_tup (da_cons de_str (da_cons (de_tup (da_cons de_int (da_cons (de_tup (da_cons de_int (da_cons de_int da_nil))) (da_cons (de_tup da_nil) da_nil)))) da_nil))) (da_cons (de_tup (da_cons de_str (da_cons (de_tup (da_cons de_int (da_cons (de_tup (da_cons de_int (da_cons de_int da_nil))) (da_cons (de_tup (da_cons (de_tup (da_cons de_str (da_cons de_int da_nil))) da_nil)) da_nil)))) da_nil))) (da_cons (de_tup (da_cons de_str (da_cons de_int da_nil))) (da_cons (de_tup (da_cons de_str (da_cons (de_tup (da_cons de_int (da_cons (de_tup (da_cons de_int (da_cons de_int da_nil))) (da_cons (de_tup da_nil) da_nil)))) da_nil))) da_nil)))))) (dss_cons (ds_set 3 sc_law.nd (de_h h_done_all (hr.mono (by decide)) gd (da_cons de_dnew (da_cons (de_var 2) da_nil)))) (dss_cons (ds_if (DW.dt (dw_or (dt_cmp (op_neV hr) sim_neV (de_callB (call_sortedDI rfl) sim_sortDI T.z_sorted (show bootBuiltins "sorted" = some (.builtin "sorted") from rfl) (da_cons (de_var 3) da_nil)) (de_lst (da_cons de_int (da_cons de_int da_nil)))) (dw_or (dt_cmp (op_neV hr) sim_neV (de_ix (de_h h_last_deeds (hr.mono (by decide)) gd (da_cons (de_var 2) da_nil)) de_int) (de_tup (da_cons de_str (da_cons de_int da_nil)))) (dw_or1 (dt_cmp (op_neV hr) sim_neV (de_h h_deeds_between (hr.mono (by decide)) gd (da_cons (de_var 3) (da_cons (de_disp (dps_cons de_int (de_dget hr (de_var 3) de_int) dps_nil)) da_nil))) (de_tup (da_cons (de_tup (da_cons de_str (da_cons de_int da_nil))) da_nil))))))) (dss_one (ds_ret de_bl)) dss_nil) (dss_one (ds_ret (de_and (de_cmp (op_eqDc hr) sim_eqDc (de_h h_done (hr.mono (by decide)) gd (da_cons de_dnew (da_cons (de_tup (da_cons de_str (da_cons de_int da_nil))) da_nil))) de_dct0) (de_and (de_cmp (op_eqV hr) sim_eqV (de_h h_last_deeds (hr.mono (by decide)) gd (da_cons (de_tup da_nil) da_nil)) (de_tup da_nil)) (de_one (de_cmp (op_eqV hr) sim_eqV (de_h h_last_deeds (hr.mono (by decide)) gd (da_cons (de_tup (da_cons (de_tup (da_cons de_str (da_cons de_int da_nil))) (da_cons (de_tup (da_cons de_str (da_cons (de_tup (da_cons de_int (da_cons (de_tup (da_cons de_int da_nil)) (da_cons (de_tup da_nil) da_nil)))) da_nil))) da_nil))) da_nil)) (de_tup (da_cons (de_tup (da_cons de_str (da_cons (de_tup (da_cons de_int (da_cons (de_tup (da_cons de_int da_nil)) (da_cons (de_tup da_nil) da_nil)))) da_nil))) da_nil))))))))))))⟩
theorem ok_law {f : Addr} {fd : FuncData} (Fn : Fun K "law" "law" s_law f fd) (T : Txt K mg aKINDS) (h_done_all : Has P w K mg base 2 "done_all" s_done_all ["state", "deeds"] F_done_all) (h_done : Has P w K mg base 3 "done" s_done ["state", "deed"] F_done) (h_last_deeds : Has P w K mg base 2 "last_deeds" s_last_deeds ["deeds"] F_last_deeds) (h_deeds_between : Has P w K mg base 1 "deeds_between" s_deeds_between ["one", "other"] F_deeds_between) (h__law_box : Has P w K mg base 1 "_law_box" s__law_box ["script", "k"] F__law_box) (h__law_world : Has P w K mg base 3 "_law_world" s__law_world ["box"] F__law_world) (h__law_run_right : Has P w K mg base 7 "_law_run_right" s__law_run_right ["box", "world"] F__law_run_right) (h__law_effects_right : Has P w K mg base 8 "_law_effects_right" s__law_effects_right ["box", "world"] F__law_effects_right) (h__law_between_right : Has P w K mg base 7 "_law_between_right" s__law_between_right ["box", "world"] F__law_between_right) (len : ∀ ds M Q E, F_law ds M Q E → ds.length = 1)
    (body : ∀ ds M Q R, F_law ds M Q R → W_law { nx := fun _ M' => Q .non M', rt := Q, xr := lx R } (startE 6 ds) M) : FnG P w K mg base 9 f fd ["script"] (lift K F_law) :=
  ok_fn Fn sc_law len fun cdv A outer s H E gd hr => (dv_law T h_done_all h_done h_last_deeds h_deeds_between h__law_box h__law_world h__law_run_right h__law_effects_right h__law_between_right cdv A outer s H E gd hr).elim fun t ht => ⟨t, _, ht, body⟩
end
end K16
namespace K16
open PySem L2 L3
theorem eqv_str2 (a b : Str) : PyData.eqv (.str a) (.str b) = decide (a = b) := eqD_strs a b
theorem eqv_int2 (a b : Int) : PyData.eqv (.int a) (.int b) = decide (a = b) := by
  simp only [PyData.eqv]
  rfl
theorem eqv_ints : ∀ v u : List Int, PyData.eqvAll (pyL (v.map D.int)) (pyL (u.map D.int)) = decide (v = u)
  | [], [] => rfl
  | [], _ :: _ => rfl
  | _ :: _, [] => rfl
  | x :: v, y :: u => by
    show PyData.eqvAll ((D.int x).py :: pyL (v.map D.int)) ((D.int y).py :: pyL (u.map D.int)) = _
    rw [PyData.eqvAll, eqv_ints v u]
    show (PyData.eqv (.int x) (.int y) && _) = _
    rw [eqv_int2, Bool.eq_iff_iff]
    simp [Bool.and_eq_true]
theorem eqv_labs : ∀ v u : List (Str × Int), PyData.eqvAll (pyL (v.map labD)) (pyL (u.map labD)) = decide (v = u)
  | [], [] => rfl
  | [], _ :: _ => rfl
  | _ :: _, [] => rfl
  | x :: v, y :: u => by
    show PyData.eqvAll ((labD x).py :: pyL (v.map labD)) ((labD y).py :: pyL (u.map labD)) = _
    rw [PyData.eqvAll, eqv_labs v u]
    show (PyData.eqv (.tuple [.str x.1, .int x.2]) (.tuple [.str y.1, .int y.2]) && _) = _
    rw [PyData.eqv, PyData.eqvAll, PyData.eqvAll, PyData.eqvAll, eqv_str2, eqv_int2, Bool.eq_iff_iff]
    simp [Bool.and_eq_true, Prod.ext_iff]
theorem eqD_itm (i j : Itm) : eqD i.d j.d = decide (i = j) := by
  obtain ⟨k, v, l⟩ := i
  obtain ⟨k', v', l'⟩ := j
  show PyData.eqv (.tuple [.int k, .tuple (pyL (v.map .int)), .tuple (pyL (l.map labD))]) (.tuple [.int k', .tuple (pyL (v'.map .int)), .tuple (pyL (l'.map labD))]) = _
  rw [PyData.eqv, PyData.eqvAll, PyData.eqvAll, PyData.eqvAll, PyData.eqvAll, eqv_int2, PyData.eqv, PyData.eqv, eqv_ints, eqv_labs, Bool.eq_iff_iff]
  simp [Bool.and_eq_true]
theorem eqD_dd (d e : Dd) : eqD d.d e.d = decide (d = e) := by
  cases d with
  | take k =>
    cases e with
    | take k' =>
      show PyData.eqv (.tuple [.str "take", .int k]) (.tuple [.str "take", .int k']) = _
      rw [PyData.eqv, PyData.eqvAll, PyData.eqvAll, PyData.eqvAll, eqv_str2, eqv_int2, Bool.eq_iff_iff]
      simp [Bool.and_eq_true]
    | put i =>
      show PyData.eqv (.tuple [.str "take", .int k]) (.tuple [.str "put", i.d.py]) = _
      rw [PyData.eqv, PyData.eqvAll, eqv_str2, show decide (("take" : Str) = "put") = false from by decide +kernel, Bool.false_and]
      simp
  | put i =>
    cases e with
    | take k' =>
      show PyData.eqv (.tuple [.str "put", i.d.py]) (.tuple [.str "take", .int k']) = _
      rw [PyData.eqv, PyData.eqvAll, eqv_str2, show decide (("put" : Str) = "take") = false from by decide +kernel, Bool.false_and]
      simp
    | put j =>
      show PyData.eqv (.tuple [.str "put", i.d.py]) (.tuple [.str "put", j.d.py]) = _
      have h : PyData.eqv i.d.py j.d.py = decide (i = j) := eqD_itm i j
      rw [PyData.eqv, PyData.eqvAll, PyData.eqvAll, PyData.eqvAll, eqv_str2, h, Bool.eq_iff_iff]
      simp [Bool.and_eq_true]
theorem eqD_dds : ∀ a b : List Dd, eqD (.tup (a.map Dd.d)) (.tup (b.map Dd.d)) = decide (a = b) := by
  have main : ∀ a b : List Dd, PyData.eqvAll (pyL (a.map Dd.d)) (pyL (b.map Dd.d)) = decide (a = b) := by
    intro a
    induction a with
    | nil =>
      intro b
      cases b <;> rfl
    | cons d a ih =>
      intro b
      cases b with
      | nil => rfl
      | cons e b =>
        have h : PyData.eqv d.d.py e.d.py = decide (d = e) := eqD_dd d e
        show PyData.eqvAll (d.d.py :: pyL (a.map Dd.d)) (e.d.py :: pyL (b.map Dd.d)) = _
        rw [PyData.eqvAll, ih b, h, Bool.eq_iff_iff]
        simp [Bool.and_eq_true]
  intro a b
  show PyData.eqv (.tuple (pyL (a.map Dd.d))) (.tuple (pyL (b.map Dd.d))) = _
  rw [PyData.eqv]
  exact main a b
/-! states behind deeds -/
def sameS (a b : List Itm) : Prop := ∀ j, j ∈ a ↔ j ∈ b
def Stp (f : List Itm → Dd → List Itm) : Prop := ∀ st d j, j ∈ f st d ↔ d = .put j ∨ (j ∈ st ∧ j.key ≠ d.key)
theorem mem_less {st : List Itm} {k : Int} {j : Itm} : j ∈ lessS st k ↔ j ∈ st ∧ j.key ≠ k := by
  unfold lessS
  rw [List.mem_filter, decide_eq_true_eq]
theorem stp_S : Stp doneS := by
  intro st d j
  cases d with
  | take k =>
    show j ∈ lessS st k ↔ _
    rw [mem_less]
    constructor
    · exact fun h => .inr h
    · rintro (h | h)
      · cases h
      · exact h
  | put i =>
    show j ∈ lessS st i.key ++ [i] ↔ _
    rw [List.mem_append, mem_less, List.mem_singleton]
    constructor
    · rintro (h | rfl)
      · exact .inr h
      · exact .inl rfl
    · rintro (h | h)
      · cases h
        exact .inr rfl
      · exact .inl h
theorem stp_P : Stp doneP := by
  intro st d j
  cases d with
  | take k =>
    show j ∈ lessS st k ↔ _
    rw [mem_less]
    constructor
    · exact fun h => .inr h
    · rintro (h | h)
      · cases h
      · exact h
  | put i =>
    show j ∈ putS st i ↔ _ ∨ (j ∈ st ∧ j.key ≠ i.key)
    unfold putS
    by_cases hk : i.key ∈ keysS st
    · rw [if_pos hk, List.mem_map]
      constructor
      · rintro ⟨x, hx, e⟩
        by_cases h : x.key = i.key
        · rw [if_pos h] at e
          subst e
          exact .inl rfl
        · rw [if_neg h] at e
          subst e
          exact .inr ⟨hx, h⟩
      · rintro (h | ⟨h1, h2⟩)
        · cases h
          obtain ⟨x, hx, e⟩ := List.mem_map.mp hk
          exact ⟨x, hx, if_pos e⟩
        · exact ⟨j, h1, if_neg h2⟩
    · rw [if_neg hk, List.mem_append, List.mem_singleton]
      constructor
      · rintro (h | rfl)
        · exact .inr ⟨h, fun e => hk (e ▸ List.mem_map_of_mem h)⟩
        · exact .inl rfl
      · rintro (h | h)
        · cases h
          exact .inr rfl
        · exact .inl h.1
theorem fold_mem {f : List Itm → Dd → List Itm} (F : Stp f) (j : Itm) : ∀ (dd : List Dd) (st : List Itm), j ∈ dd.foldl f st ↔ .put j ∈ lastOf dd ∨ (j ∈ st ∧ j.key ∉ dd.map Dd.key)
  | [], st => by
    show j ∈ st ↔ _
    unfold lastOf
    simp
  | d :: r, st => by
    rw [List.foldl_cons, fold_mem F j r (f st d), F st d j]
    have hdk : ∀ {i : Itm}, d = .put i → i.key = d.key := fun e => by rw [e]; rfl
    rw [List.map_cons, List.mem_cons, lastOf]
    by_cases h : d.key ∈ r.map Dd.key
    · rw [if_pos h]
      constructor
      · rintro (h1 | ⟨h1 | ⟨h1, h2⟩, h3⟩)
        · exact .inl h1
        · exact absurd (hdk h1 ▸ h) h3
        · exact .inr ⟨h1, fun z => z.elim h2 h3⟩
      · rintro (h1 | ⟨h1, h2⟩)
        · exact .inl h1
        · exact .inr ⟨.inr ⟨h1, fun z => h2 (.inl z)⟩, fun z => h2 (.inr z)⟩
    · rw [if_neg h, List.mem_cons]
      constructor
      · rintro (h1 | ⟨h1 | ⟨h1, h2⟩, h3⟩)
        · exact .inl (.inr h1)
        · exact .inl (.inl h1.symm)
        · exact .inr ⟨h1, fun z => z.elim h2 h3⟩
      · rintro ((h1 | h1) | ⟨h1, h2⟩)
        · exact .inr ⟨.inl h1.symm, by rw [hdk h1.symm]; exact h⟩
        · exact .inl h1
        · exact .inr ⟨.inr ⟨h1, fun z => h2 (.inl z)⟩, fun z => h2 (.inr z)⟩
theorem fold_same {f g : List Itm → Dd → List Itm} (F : Stp f) (G : Stp g) {dd : List Dd} {a b : List Itm} (h : sameS a b) : sameS (dd.foldl f a) (dd.foldl g b) := fun j => by
  rw [fold_mem F, fold_mem G, h j]
theorem last_keys : ∀ (dd : List Dd) (k : Int), k ∈ (lastOf dd).map Dd.key ↔ k ∈ dd.map Dd.key
  | [], k => by
    unfold lastOf
    exact Iff.rfl
  | d :: r, k => by
    rw [lastOf, List.map_cons, List.mem_cons]
    split
    · rename_i h
      rw [last_keys r k]
      exact ⟨.inr, fun z => z.elim (fun e => e ▸ h) id⟩
    · rw [List.map_cons, List.mem_cons, last_keys r k]
theorem last_sub : ∀ (dd : List Dd), ∀ d ∈ lastOf dd, d ∈ dd
  | [], d, h => by
    unfold lastOf at h
    exact h
  | e :: r, d, h => by
    rw [lastOf] at h
    split at h
    · exact List.mem_cons_of_mem _ (last_sub r d h)
    · rcases List.mem_cons.mp h with rfl | h
      · exact List.mem_cons_self
      · exact List.mem_cons_of_mem _ (last_sub r d h)
theorem last_nodup : ∀ dd : List Dd, ((lastOf dd).map Dd.key).Nodup
  | [] => by
    unfold lastOf
    exact List.nodup_nil
  | d :: r => by
    rw [lastOf]
    split
    · exact last_nodup r
    · rename_i h
      exact List.nodup_cons.mpr ⟨fun z => h ((last_keys r _).mp z), last_nodup r⟩
theorem last_self : ∀ {dd : List Dd}, (dd.map Dd.key).Nodup → lastOf dd = dd
  | [], _ => by
    unfold lastOf
    rfl
  | d :: r, h => by
    have h := List.nodup_cons.mp h
    rw [lastOf, if_neg h.1, last_self h.2]
theorem key_one {l : List Dd} (nd : (l.map Dd.key).Nodup) {d e : Dd} (hd : d ∈ l) (he : e ∈ l) (h : d.key = e.key) : d = e := by
  induction l with
  | nil => cases hd
  | cons a l ih =>
    obtain ⟨n1, n2⟩ := List.nodup_cons.mp nd
    rcases List.mem_cons.mp hd with rfl | h1
    · rcases List.mem_cons.mp he with rfl | h2
      · rfl
      · exact absurd (h ▸ List.mem_map_of_mem h2) n1
    · rcases List.mem_cons.mp he with rfl | h2
      · exact absurd (h ▸ List.mem_map_of_mem h1) n1
      · exact ih n2 h1 h2
theorem item_one {st : List Itm} (nd : (keysS st).Nodup) {i j : Itm} (hi : i ∈ st) (hj : j ∈ st) (e : i.key = j.key) : i = j := by
  induction st with
  | nil => cases hi
  | cons a st ih =>
    obtain ⟨n1, n2⟩ := List.nodup_cons.mp (show (a.key :: keysS st).Nodup from nd)
    rcases List.mem_cons.mp hi with rfl | h1
    · rcases List.mem_cons.mp hj with rfl | h2
      · rfl
      · exact absurd (show i.key ∈ st.map Itm.key by rw [e]; exact List.mem_map_of_mem h2) n1
    · rcases List.mem_cons.mp hj with rfl | h2
      · exact absurd (show j.key ∈ st.map Itm.key by rw [← e]; exact List.mem_map_of_mem h1) n1
      · exact ih n2 h1 h2
/-! sorted by keys -/
theorem ks_tr {α : Type} (f : α → Int) (a b c : α) (h1 : decide (f a ≤ f b) = true) (h2 : decide (f b ≤ f c) = true) : decide (f a ≤ f c) = true := by
  have h1 := of_decide_eq_true h1
  have h2 := of_decide_eq_true h2
  exact decide_eq_true (by omega)
theorem ks_tot {α : Type} (f : α → Int) (a b : α) : (decide (f a ≤ f b) || decide (f b ≤ f a)) = true := by
  rw [Bool.or_eq_true, decide_eq_true_eq, decide_eq_true_eq]
  omega
theorem ks_perm {α : Type} (f : α → Int) (l : List α) : (l.mergeSort fun a b => decide (f a ≤ f b)).Perm l := List.mergeSort_perm _ _
theorem ks_sorted {α : Type} (f : α → Int) (l : List α) : (l.mergeSort fun a b => decide (f a ≤ f b)).Pairwise fun a b => f a ≤ f b :=
  (List.pairwise_mergeSort (le := fun a b => decide (f a ≤ f b)) (ks_tr f) (ks_tot f) l).imp fun h => of_decide_eq_true h
/-- two ascending lists of the same things, whose keys are unlike -/
theorem ks_one {α : Type} (f : α → Int) {l m : List α} (hl : l.Pairwise fun a b => f a ≤ f b) (hm : m.Pairwise fun a b => f a ≤ f b) (nl : (l.map f).Nodup) (nm : (m.map f).Nodup) (h : ∀ x, x ∈ l ↔ x ∈ m) : l = m := by
  have dl : l.Nodup := (List.pairwise_map.mp nl).imp fun hne e => hne (congrArg f e)
  have dm : m.Nodup := (List.pairwise_map.mp nm).imp fun hne e => hne (congrArg f e)
  have one : ∀ {l : List α}, (l.map f).Nodup → ∀ a ∈ l, ∀ b ∈ l, f a = f b → a = b := by
    intro l nd a ha b hb e
    induction l with
    | nil => cases ha
    | cons x l ih =>
      obtain ⟨n1, n2⟩ := List.nodup_cons.mp nd
      rcases List.mem_cons.mp ha with rfl | h1
      · rcases List.mem_cons.mp hb with rfl | h2
        · rfl
        · exact absurd (e ▸ List.mem_map_of_mem h2) n1
      · rcases List.mem_cons.mp hb with rfl | h2
        · exact absurd (e ▸ List.mem_map_of_mem h1) n1
        · exact ih n2 h1 h2
  exact ((List.perm_ext_iff_of_nodup dl dm).mpr h).eq_of_pairwise (fun a b ha hb x y => one nl a ha b ((h b).mpr hb) (by omega)) hl hm
theorem mem_lastL {dd : List Dd} {d : Dd} : d ∈ lastL dd ↔ d ∈ lastOf dd := (ks_perm Dd.key _).mem_iff
theorem lastL_nodup (dd : List Dd) : ((lastL dd).map Dd.key).Nodup := ((ks_perm Dd.key _).map _).nodup_iff.mpr (last_nodup dd)
theorem lastL_keys (dd : List Dd) (k : Int) : k ∈ (lastL dd).map Dd.key ↔ k ∈ dd.map Dd.key := ((ks_perm Dd.key _).map _).mem_iff.trans (last_keys dd k)
theorem lastL_len (dd : List Dd) : (lastL dd).length ≤ dd.length := by
  have h : ∀ dd : List Dd, (lastOf dd).length ≤ dd.length := by
    intro dd
    induction dd with
    | nil => unfold lastOf; exact Nat.le_refl _
    | cons d r ih =>
      rw [lastOf]
      split
      · rw [List.length_cons]; omega
      · rw [List.length_cons, List.length_cons]; omega
  have e := (ks_perm Dd.key (lastOf dd)).length_eq
  unfold lastL srtDd
  rw [e]
  exact h dd
theorem lastL_is {l : List Dd} {dd : List Dd} (hl : l.Pairwise fun a b => a.key ≤ b.key) (nl : (l.map Dd.key).Nodup) (h : ∀ d, d ∈ l ↔ d ∈ lastOf dd) : l = lastL dd :=
  ks_one Dd.key hl (ks_sorted Dd.key _) nl (lastL_nodup dd) fun x => (h x).trans (ks_perm Dd.key _).mem_iff.symm
theorem lastL_idem (dd : List Dd) : lastL (lastL dd) = lastL dd := by
  refine (lastL_is (ks_sorted Dd.key _) (lastL_nodup dd) fun d => ?_).symm
  rw [last_self (lastL_nodup dd)]
  exact Iff.rfl
theorem fold_last {f g : List Itm → Dd → List Itm} (F : Stp f) (G : Stp g) (dd : List Dd) (st : List Itm) : sameS (dd.foldl f st) ((lastL dd).foldl g st) := fun j => by
  rw [fold_mem F, fold_mem G, last_self (lastL_nodup dd), mem_lastL, lastL_keys]
theorem srtS_same {a b : List Itm} (ha : (keysS a).Nodup) (hb : (keysS b).Nodup) (h : sameS a b) : srtS a = srtS b := by
  refine ks_one Itm.key (ks_sorted Itm.key a) (ks_sorted Itm.key b) (((ks_perm Itm.key a).map _).nodup_iff.mpr ha) (((ks_perm Itm.key b).map _).nodup_iff.mpr hb) fun x => ?_
  exact (ks_perm Itm.key a).mem_iff.trans ((h x).trans (ks_perm Itm.key b).mem_iff.symm)
theorem shown_same {a b : List Itm} (ha : (keysS a).Nodup) (hb : (keysS b).Nodup) (h : sameS a b) : shownS a = shownS b := by
  unfold shownS
  rw [srtS_same ha hb h]
theorem sub_back : ∀ {a b : List Itm}, a.Nodup → (∀ j ∈ a, j ∈ b) → b.length ≤ a.length → ∀ j ∈ b, j ∈ a
  | [], b, _, _, hl, j, hj => by
    have : b = [] := List.eq_nil_of_length_eq_zero (Nat.le_zero.mp hl)
    rw [this] at hj
    cases hj
  | x :: a, b, nd, hs, hl, j, hj => by
    obtain ⟨n1, n2⟩ := List.nodup_cons.mp nd
    have hx := hs x List.mem_cons_self
    by_cases e : j = x
    · rw [e]
      exact List.mem_cons_self
    · refine List.mem_cons_of_mem _ (sub_back (b := b.erase x) n2 (fun i hi => ?_) ?_ j ((List.mem_erase_of_ne e).mpr hj))
      · exact (List.mem_erase_of_ne (fun z => n1 (by rw [← z]; exact hi))).mpr (hs i (List.mem_cons_of_mem _ hi))
      · rw [List.length_erase_of_mem hx]
        rw [List.length_cons] at hl
        omega
theorem itm_nodup {st : List Itm} (h : (keysS st).Nodup) : st.Nodup := (List.pairwise_map.mp (show (st.map Itm.key).Pairwise (· ≠ ·) from h)).imp fun hne e => hne (congrArg Itm.key e)
theorem eqDc_st {a b : List Itm} (ha : (keysS a).Nodup) (hb : (keysS b).Nodup) : eqDc (stD a) (stD b) = true ↔ sameS a b := by
  have hv : ∀ i : Itm, (match valD (stD b) (.inl i.key) with | some e => eqD i.d e | none => false) = true ↔ i ∈ b := fun i => by
    by_cases hk : i.key ∈ keysS b
    · obtain ⟨j, hj, e⟩ := List.mem_map.mp hk
      rw [st_val hb hj e]
      show eqD i.d j.d = true ↔ _
      rw [eqD_itm, decide_eq_true_eq]
      constructor
      · exact fun z => z ▸ hj
      · exact fun z => item_one hb z hj e.symm
    · rw [st_none hk]
      constructor
      · intro z
        cases z
      · exact fun z => absurd (List.mem_map_of_mem z) hk
  have main : eqDc (stD a) (stD b) = (a.length == b.length && a.all fun i => match valD (stD b) (.inl i.key) with | some e => eqD i.d e | none => false) := by
    unfold eqDc stD
    rw [List.length_map, List.length_map, List.all_map]
    rfl
  rw [main, Bool.and_eq_true, beq_iff_eq, List.all_eq_true]
  constructor
  · rintro ⟨hl, h⟩ j
    have sub : ∀ i ∈ a, i ∈ b := fun i hi => (hv i).mp (h i hi)
    exact ⟨sub j, sub_back (itm_nodup ha) sub (by omega) j⟩
  · intro h
    exact ⟨((List.perm_ext_iff_of_nodup (itm_nodup ha) (itm_nodup hb)).mpr h).length_eq, fun i hi => (hv i).mpr ((h i).mp hi)⟩
theorem eqDc_true {a b : List Itm} (ha : (keysS a).Nodup) (hb : (keysS b).Nodup) (h : sameS a b) : eqDc (stD a) (stD b) = true := (eqDc_st ha hb).mpr h
theorem nodup_P {st : List Itm} {d : Dd} (h : (keysS st).Nodup) : (keysS (doneP st d)).Nodup := by
  cases d with
  | take k => exact less_nodup h
  | put i => exact put_nodup h
theorem len_P {st : List Itm} {d : Dd} : (doneP st d).length ≤ st.length + 1 := by
  cases d with
  | take k => exact Nat.le_succ_of_le (List.length_filter_le _ _)
  | put i => exact put_len
theorem fold_P : ∀ (dd : List Dd) (st : List Itm), (keysS st).Nodup → (keysS (dd.foldl doneP st)).Nodup ∧ (dd.foldl doneP st).length ≤ st.length + dd.length
  | [], st, h => ⟨h, Nat.le_refl _⟩
  | d :: r, st, h => by
    have z := fold_P r (doneP st d) (nodup_P h)
    have l := len_P (st := st) (d := d)
    rw [List.foldl_cons, List.length_cons]
    exact ⟨z.1, by omega⟩
theorem fold_S : ∀ (dd : List Dd) (st : List Itm), (keysS st).Nodup → (keysS (dd.foldl doneS st)).Nodup ∧ (dd.foldl doneS st).length ≤ st.length + dd.length
  | [], st, h => ⟨h, Nat.le_refl _⟩
  | d :: r, st, h => by
    have z := fold_S r (doneS st d) (done_nodup h)
    have l := done_len (st := st) (d := d)
    rw [List.foldl_cons, List.length_cons]
    exact ⟨z.1, by omega⟩
theorem fold_ok {f : List Itm → Dd → List Itm} (F : Stp f) {p : Nat} {ks : List Int} {dd : List Dd} {st : List Itm} (hd : ∀ d ∈ dd, ddB p ks d) (hs : ∀ i ∈ st, itB p i) : ∀ i ∈ dd.foldl f st, itB p i := fun i hi => by
  rcases (fold_mem F i dd st).mp hi with h | h
  · exact (hd _ (last_sub dd _ h)).1
  · exact hs i h.1
end K16
namespace K16
open PySem L2 L3
theorem mem_betw {a b : List Itm} {d : Dd} : d ∈ betw a b ↔ (∃ i ∈ a, i.key ∉ keysS b ∧ d = .take i.key) ∨ ∃ i ∈ b, i ∉ a ∧ d = .put i := by
  refine (ks_perm Dd.key _).mem_iff.trans ?_
  rw [List.mem_append, List.mem_map, List.mem_map]
  constructor
  · rintro (⟨i, hi, rfl⟩ | ⟨i, hi, rfl⟩)
    · obtain ⟨h1, h2⟩ := List.mem_filter.mp hi
      exact .inl ⟨i, h1, of_decide_eq_true h2, rfl⟩
    · obtain ⟨h1, h2⟩ := List.mem_filter.mp hi
      exact .inr ⟨i, h1, of_decide_eq_true h2, rfl⟩
  · rintro (⟨i, h1, h2, rfl⟩ | ⟨i, h1, h2, rfl⟩)
    · exact .inl ⟨i, List.mem_filter.mpr ⟨h1, decide_eq_true h2⟩, rfl⟩
    · exact .inr ⟨i, List.mem_filter.mpr ⟨h1, decide_eq_true h2⟩, rfl⟩
theorem pre_nodup {a b : List Itm} (ha : (keysS a).Nodup) (hb : (keysS b).Nodup) : (((a.filter fun i => decide (i.key ∉ keysS b)).map (fun i => Dd.take i.key) ++ (b.filter fun i => decide (i ∉ a)).map Dd.put).map Dd.key).Nodup := by
  rw [List.map_append, List.map_map, List.map_map]
  refine List.nodup_append.mpr ⟨?_, ?_, fun x hx y hy e => ?_⟩
  · exact ha.sublist (List.Sublist.map _ List.filter_sublist)
  · exact hb.sublist (List.Sublist.map _ List.filter_sublist)
  · obtain ⟨i, hi, rfl⟩ := List.mem_map.mp hx
    obtain ⟨j, hj, rfl⟩ := List.mem_map.mp hy
    have h1 := of_decide_eq_true (List.mem_filter.mp hi).2
    have e : i.key = j.key := e
    exact h1 (e ▸ List.mem_map_of_mem (List.mem_filter.mp hj).1)
theorem betw_nodup {a b : List Itm} (ha : (keysS a).Nodup) (hb : (keysS b).Nodup) : ((betw a b).map Dd.key).Nodup := ((ks_perm Dd.key _).map _).nodup_iff.mpr (pre_nodup ha hb)
theorem betw_len {a b : List Itm} : (betw a b).length ≤ a.length + b.length := by
  have e := (ks_perm Dd.key ((a.filter fun i => decide (i.key ∉ keysS b)).map (fun i => Dd.take i.key) ++ (b.filter fun i => decide (i ∉ a)).map Dd.put)).length_eq
  unfold betw srtDd
  rw [e, List.length_append, List.length_map, List.length_map]
  have h1 := List.length_filter_le (fun i : Itm => decide (i.key ∉ keysS b)) a
  have h2 := List.length_filter_le (fun i : Itm => decide (i ∉ a)) b
  omega
theorem betw_is {a b : List Itm} {l : List Dd} (ha : (keysS a).Nodup) (hb : (keysS b).Nodup) (hl : l.Pairwise fun x y => x.key ≤ y.key) (nl : (l.map Dd.key).Nodup) (h : ∀ d, d ∈ l ↔ (∃ i ∈ a, i.key ∉ keysS b ∧ d = .take i.key) ∨ ∃ i ∈ b, i ∉ a ∧ d = .put i) : l = betw a b :=
  ks_one Dd.key hl (ks_sorted Dd.key _) nl (betw_nodup ha hb) fun x => (h x).trans (mem_betw (a := a) (b := b)).symm
theorem betw_self (a : List Itm) : betw a a = [] := by
  cases h : betw a a with
  | nil => rfl
  | cons d l =>
    have hd : d ∈ betw a a := by rw [h]; exact List.mem_cons_self
    rcases mem_betw.mp hd with ⟨i, h1, h2, _⟩ | ⟨i, h1, h2, _⟩
    · exact absurd (List.mem_map_of_mem h1) h2
    · exact absurd h1 h2
theorem betw_done {f : List Itm → Dd → List Itm} (F : Stp f) {a b : List Itm} (ha : (keysS a).Nodup) (hb : (keysS b).Nodup) : sameS ((betw a b).foldl f a) b := fun j => by
  rw [fold_mem F, last_self (betw_nodup ha hb)]
  constructor
  · rintro (h | ⟨h1, h2⟩)
    · rcases mem_betw.mp h with ⟨i, _, _, e⟩ | ⟨i, h1, _, e⟩
      · cases e
      · cases e
        exact h1
    · by_cases hk : j.key ∈ keysS b
      · obtain ⟨i, hi, e⟩ := List.mem_map.mp hk
        by_cases hia : i ∈ a
        · rw [item_one ha h1 hia e.symm]
          exact hi
        · exact absurd (e ▸ List.mem_map_of_mem (f := Dd.key) (mem_betw.mpr (.inr ⟨i, hi, hia, rfl⟩))) h2
      · exact absurd (List.mem_map_of_mem (f := Dd.key) (mem_betw.mpr (.inl ⟨j, h1, hk, rfl⟩))) h2
  · intro h
    by_cases hja : j ∈ a
    · refine .inr ⟨hja, fun z => ?_⟩
      obtain ⟨d, hd, e⟩ := List.mem_map.mp z
      rcases mem_betw.mp hd with ⟨i, h1, h2, rfl⟩ | ⟨i, h1, h2, rfl⟩
      · have e : i.key = j.key := e
        exact h2 (e ▸ List.mem_map_of_mem h)
      · have e : i.key = j.key := e
        exact h2 (item_one hb h1 h e ▸ hja)
    · exact .inl (mem_betw.mpr (.inr ⟨j, h, hja, rfl⟩))
theorem betw_less {f : List Itm → Dd → List Itm} (F : Stp f) {a b : List Itm} (ha : (keysS a).Nodup) (hb : (keysS b).Nodup) {at' : Nat} (h : at' < (betw a b).length) : ¬ sameS (((betw a b).eraseIdx at').foldl f a) b := by
  intro hs
  have nd := betw_nodup ha hb
  obtain ⟨d, hd⟩ : ∃ d, (betw a b)[at']? = some d := ⟨_, List.getElem?_eq_getElem h⟩
  have dm := List.mem_of_getElem? hd
  have sub : ((betw a b).eraseIdx at').Sublist (betw a b) := List.eraseIdx_sublist _ _
  have nd2 : (((betw a b).eraseIdx at').map Dd.key).Nodup := nd.sublist (sub.map _)
  have nk : d.key ∉ ((betw a b).eraseIdx at').map Dd.key := fun z => by
    obtain ⟨e, he, ek⟩ := List.mem_map.mp z
    have := key_one nd (sub.subset he) dm ek
    subst this
    obtain ⟨j, hj⟩ := List.mem_iff_getElem?.mp he
    rw [List.getElem?_eraseIdx] at hj
    have un : ∀ i : Nat, (betw a b)[i]? = some e → i = at' := fun i hi => by
      have l1 := (List.getElem?_eq_some_iff.mp hi).1
      have ndl : (betw a b).Nodup := (List.pairwise_map.mp nd).imp fun hne z => hne (congrArg Dd.key z)
      exact (List.getElem?_inj l1 ndl).mp (hi.trans hd.symm)
    split at hj
    · have := un _ hj
      omega
    · have := un _ hj
      omega
  rcases mem_betw.mp dm with ⟨i, h1, h2, rfl⟩ | ⟨i, h1, h2, rfl⟩
  · have z := (hs i).mp ((fold_mem F i _ a).mpr (.inr ⟨h1, nk⟩))
    exact h2 (List.mem_map_of_mem z)
  · rcases (fold_mem F i _ a).mp ((hs i).mpr h1) with z | ⟨z, _⟩
    · exact nk (List.mem_map_of_mem (f := Dd.key) (last_sub _ _ z))
    · exact h2 z
/-- the same effect on these states: the same last deeds -/
theorem effects {f : List Itm → Dd → List Itm} (F : Stp f) {one other : List Dd} {full st : List Itm} (hf : ∀ d ∈ one ++ other, ∃ i ∈ full, i.key = d.key) :
    (sameS (one.foldl f []) (other.foldl f []) ∧ sameS (one.foldl f full) (other.foldl f full) ∧ sameS (one.foldl f st) (other.foldl f st)) ↔ lastL one = lastL other := by
  constructor
  · rintro ⟨h1, h2, _⟩
    have half : ∀ {x y : List Dd}, (∀ d ∈ x, ∃ i ∈ full, i.key = d.key) → sameS (x.foldl f []) (y.foldl f []) → sameS (x.foldl f full) (y.foldl f full) → ∀ d ∈ lastOf x, d ∈ lastOf y := by
      intro x y hx s0 sf d hd
      have put : ∀ {u v : List Dd} {j : Itm}, sameS (u.foldl f []) (v.foldl f []) → Dd.put j ∈ lastOf u → Dd.put j ∈ lastOf v := fun {u v j} s hj => by
        rcases (fold_mem F j v []).mp ((s j).mp ((fold_mem F j u []).mpr (.inl hj))) with z | ⟨z, _⟩
        · exact z
        · cases z
      cases d with
      | put j => exact put s0 hd
      | take k =>
        obtain ⟨i, hi, ei⟩ := hx _ (last_sub x _ hd)
        have ei : i.key = k := ei
        have ki : i.key ∈ x.map Dd.key := by
          rw [ei]
          exact List.mem_map_of_mem (f := Dd.key) (last_sub x _ hd)
        have n1 : i ∉ x.foldl f full := fun z => by
          rcases (fold_mem F i x full).mp z with z | ⟨_, z⟩
          · have := key_one (last_nodup x) z hd ei
            cases this
          · exact z ki
        have n2 : i ∉ y.foldl f full := fun z => n1 ((sf i).mpr z)
        have ky : i.key ∈ y.map Dd.key := Classical.byContradiction fun z => n2 ((fold_mem F i y full).mpr (.inr ⟨hi, z⟩))
        obtain ⟨e, he, ek⟩ := List.mem_map.mp ((last_keys y _).mpr ky)
        cases e with
        | take k' =>
          have ek : k' = i.key := ek
          rw [← ei, ← ek]
          exact he
        | put j =>
          have := key_one (last_nodup x) (put (fun q => (s0 q).symm) he) hd (by rw [ek, ei]; rfl)
          cases this
    refine lastL_is (ks_sorted Dd.key _) (lastL_nodup one) fun d => mem_lastL.trans ⟨half (fun d hd => hf d (List.mem_append_left _ hd)) h1 h2 d, half (fun d hd => hf d (List.mem_append_right _ hd)) (fun q => (h1 q).symm) (fun q => (h2 q).symm) d⟩
  · intro h
    have all : ∀ st, sameS (one.foldl f st) (other.foldl f st) := fun st j => by
      rw [fold_last F F one st j, fold_last F F other st j, h]
    exact ⟨all _, all _, all _⟩
end K16
namespace K16
open PySem L2 L3
theorem take_i {M : Mp} {b : Addr} {n : Int} {Q : KD} {R} (hm : M b = some .box) (h0 : 0 < n) (h1 : n < 2 ^ 60) : takeF [.tok b, .int n] M Q R ↔ ∀ k, 0 ≤ k → k < n → Q (.int k) M := by
  constructor
  · rintro ⟨_, _, h, _, _, _, q⟩
    cases h
    exact q
  · exact fun q => ⟨b, n, rfl, hm, h0, h1, q⟩
theorem pickb {M : Mp} {b : Addr} {d : D} {es : List D} {Q : KD} {R} (hm : M b = some .box) (hs : seqD M d = some es) (h0 : 0 < es.length) (h1 : es.length ≤ 1000000) (q : ∀ x ∈ es, Q x M) : pickB [.tok b, d] M Q R := ⟨b, _, es, rfl, hm, hs, h0, h1, q⟩
theorem wp__law_pick : ∀ ds M Q R, pickB ds M Q R → W__law_pick { nx := fun _ M' => Q .non M', rt := Q, xr := lx R } (startE 2 ds) M := by
  rintro ds M Q R ⟨b, d, es, rfl, hm, hs, h0, h1, q⟩
  unfold W__law_pick
  simp (disch := first | assumption | decide) only [wSeq, wNext, wAsg, wgName, wIfS, wB, wOp, wVar, wC, wCall, wCallK, wCons, wNil, wRet, wRetN, wDrop, wTup, wLst, wIf, wAnd, wOr, wNot, wAndV, wOrV, wNotV, wNeg, wChain, fI, fI0, addD, fLt, fLe, fGt, fGe, fIsB, wCB, fAbs, f2I, fInt, fIsq, wPar, wPar3, permD, startE, List.map_cons, List.map_nil, List.cons_append, List.nil_append, List.append_nil, List.length_cons, List.length_nil, List.replicate, List.getElem?_cons_zero, List.getElem?_cons_succ, List.set_cons_zero, List.set_cons_succ, List.getD_cons_zero, List.getD_cons_succ, Nat.reduceAdd, Nat.reduceSub, Nat.zero_add, true_and, and_true, Bool.not_true, Bool.not_false, if_true, if_false, Bool.false_eq_true, reduceIte, decide_eq_true_eq, Bool.not_eq_true', decide_eq_false_iff_not, eqV_int, eqV_str, eqV_bl, decide_true, reduceCtorEq, not_true_eq_false, not_false_eq_true, Bool.not_eq_true, List.not_mem_nil, false_implies, implies_true, Int.reduceNeg, Int.reduceToNat, Int.reducePow, Int.reduceMul, Int.reduceAdd, draw_i, ix_t0, ix_t1, ix_t2, ix_t3, ix_m3, ix_m4, sn_ball_box, sn_cell_box, sn_cell_ball, sn_ball_cell, sn_box_ball, sn_box_cell, decide_false]
  have fl : ∀ Q' : KD, Q' (.int (es.length : Int)) M → fLen [d] M Q' := fun Q' h => by
    cases d <;> first | exact ⟨es, hs, h⟩ | cases hs
  refine fl _ ((take_i hm (by omega) (by omega)).mpr fun k k0 k1 => ?_)
  obtain ⟨i, rfl⟩ := Int.eq_ofNat_of_zero_le k0
  have hi : i < es.length := by omega
  have e : atI es (i : Int) = some es[i] := by
    unfold atI ixN
    simp [hi]
  have fx : ∀ Q' : KD, Q' es[i] M → ixD d (.int (i : Int)) M Q' := fun Q' h => by
    cases d <;> first | exact ⟨es, _, hs, e, h⟩ | cases hs
  exact fx _ (q _ (List.getElem_mem hi))
def bx (c s t : Int) : Cell := .lst [.int c, .int s, .int t]
theorem seq_bx {M : Mp} {a : Addr} {c s t : Int} (hm : M a = some (bx c s t)) : seqD M (.tok a) = some [.int c, .int s, .int t] := by
  show (match M a with | some (.lst ds) => some ds | _ => none) = _
  rw [hm]
  rfl
theorem ixb {M : Mp} {a : Addr} {c s t i x : Int} {Q : KD} (hm : M a = some (bx c s t)) (h : atI [D.int c, .int s, .int t] i = some (.int x)) (q : Q (.int x) M) : ixD (.tok a) (.int i) M Q := ⟨_, _, seq_bx hm, h, q⟩
theorem wp__law_take : ∀ ds M Q R, takeL ds M Q R → W__law_take { nx := fun _ M' => Q .non M', rt := Q, xr := lx R } (startE 4 ds) M := by
  rintro ds M Q R ⟨a, n, c, s, t, rfl, hm, hb, n0, n1, q⟩
  have hm : M a = some (bx c s t) := hm
  have hd : CDivW c n := ⟨n0, log_of (by omega) n1⟩
  unfold W__law_take
  refine seq_gen fun K hK => ?_
  simp (disch := first | assumption | decide) only [wSeq, wNext, wAsg, wgName, wIfS, wB, wOp, wVar, wC, wCall, wCallK, wCons, wNil, wRet, wRetN, wDrop, wTup, wLst, wIf, wAnd, wOr, wNot, wAndV, wOrV, wNotV, wNeg, wChain, fI, fI0, addD, fLt, fLe, fGt, fGe, fIsB, wCB, fAbs, f2I, fInt, fIsq, wPar, wPar3, permD, startE, List.map_cons, List.map_nil, List.cons_append, List.nil_append, List.append_nil, List.length_cons, List.length_nil, List.replicate, List.getElem?_cons_zero, List.getElem?_cons_succ, List.set_cons_zero, List.set_cons_succ, List.getD_cons_zero, List.getD_cons_succ, Nat.reduceAdd, Nat.reduceSub, Nat.zero_add, true_and, and_true, Bool.not_true, Bool.not_false, if_true, if_false, Bool.false_eq_true, reduceIte, decide_eq_true_eq, Bool.not_eq_true', decide_eq_false_iff_not, eqV_int, eqV_str, eqV_bl, decide_true, reduceCtorEq, not_true_eq_false, not_false_eq_true, Bool.not_eq_true, List.not_mem_nil, false_implies, implies_true, Int.reduceNeg, Int.reduceToNat, Int.reducePow, Int.reduceMul, Int.reduceAdd, draw_i, ix_t0, ix_t1, ix_t2, ix_t3, ix_m3, ix_m4, sn_ball_box, sn_cell_box, sn_cell_ball, sn_ball_cell, sn_box_ball, sn_box_cell, decide_false]
  refine ixb hm rfl ?_
  dsimp only
  split
  · rename_i hc
    refine ixb hm rfl ?_
    dsimp only
    refine ⟨n0, ixb hm rfl ?_⟩
    dsimp only
    refine ⟨hd, ?_⟩
    refine ⟨_, 0, hm, rfl, ?_⟩
    exact q _ _ _ _ (Int.emod_nonneg _ (by omega)) (Int.emod_lt_of_pos _ n0) ⟨Int.ediv_nonneg hb.1 (by omega), hb.2.1, hb.2.2⟩
  · subst hK
    refine seq_gen fun K hK => ?_
    simp (disch := first | assumption | decide) only [wSeq, wNext, wAsg, wgName, wIfS, wB, wOp, wVar, wC, wCall, wCallK, wCons, wNil, wRet, wRetN, wDrop, wTup, wLst, wIf, wAnd, wOr, wNot, wAndV, wOrV, wNotV, wNeg, wChain, fI, fI0, addD, fLt, fLe, fGt, fGe, fIsB, wCB, fAbs, f2I, fInt, fIsq, wPar, wPar3, permD, startE, List.map_cons, List.map_nil, List.cons_append, List.nil_append, List.append_nil, List.length_cons, List.length_nil, List.replicate, List.getElem?_cons_zero, List.getElem?_cons_succ, List.set_cons_zero, List.set_cons_succ, List.getD_cons_zero, List.getD_cons_succ, Nat.reduceAdd, Nat.reduceSub, Nat.zero_add, true_and, and_true, Bool.not_true, Bool.not_false, if_true, if_false, Bool.false_eq_true, reduceIte, decide_eq_true_eq, Bool.not_eq_true', decide_eq_false_iff_not, eqV_int, eqV_str, eqV_bl, decide_true, reduceCtorEq, not_true_eq_false, not_false_eq_true, Bool.not_eq_true, List.not_mem_nil, false_implies, implies_true, Int.reduceNeg, Int.reduceToNat, Int.reducePow, Int.reduceMul, Int.reduceAdd, draw_i, ix_t0, ix_t1, ix_t2, ix_t3, ix_m3, ix_m4, sn_ball_box, sn_cell_box, sn_cell_ball, sn_ball_cell, sn_box_ball, sn_box_cell, decide_false]
    refine ixb hm rfl ?_
    dsimp only
    refine ⟨_, 2, hm, rfl, ?_⟩
    have hm1 : setM M a (bx c s (t + 1)) a = some (bx c s (t + 1)) := setM_same
    subst hK
    refine seq_gen fun K hK => ?_
    simp (disch := first | assumption | decide) only [wSeq, wNext, wAsg, wgName, wIfS, wB, wOp, wVar, wC, wCall, wCallK, wCons, wNil, wRet, wRetN, wDrop, wTup, wLst, wIf, wAnd, wOr, wNot, wAndV, wOrV, wNotV, wNeg, wChain, fI, fI0, addD, fLt, fLe, fGt, fGe, fIsB, wCB, fAbs, f2I, fInt, fIsq, wPar, wPar3, permD, startE, List.map_cons, List.map_nil, List.cons_append, List.nil_append, List.append_nil, List.length_cons, List.length_nil, List.replicate, List.getElem?_cons_zero, List.getElem?_cons_succ, List.set_cons_zero, List.set_cons_succ, List.getD_cons_zero, List.getD_cons_succ, Nat.reduceAdd, Nat.reduceSub, Nat.zero_add, true_and, and_true, Bool.not_true, Bool.not_false, if_true, if_false, Bool.false_eq_true, reduceIte, decide_eq_true_eq, Bool.not_eq_true', decide_eq_false_iff_not, eqV_int, eqV_str, eqV_bl, decide_true, reduceCtorEq, not_true_eq_false, not_false_eq_true, Bool.not_eq_true, List.not_mem_nil, false_implies, implies_true, Int.reduceNeg, Int.reduceToNat, Int.reducePow, Int.reduceMul, Int.reduceAdd, draw_i, ix_t0, ix_t1, ix_t2, ix_t3, ix_m3, ix_m4, sn_ball_box, sn_cell_box, sn_cell_ball, sn_ball_cell, sn_box_ball, sn_box_cell, decide_false]
    refine ixb hm1 rfl (ixb hm1 rfl ?_)
    dsimp only
    refine ⟨cm_of (by decide) (by decide), cm_of' (by decide) (by decide), by decide, ?_⟩
    have r0 := Int.emod_nonneg ((s + 99991 * (t + 1)) * 69621 + 53) (show (2147483563 : Int) ≠ 0 by decide)
    have r1 := Int.emod_lt_of_pos ((s + 99991 * (t + 1)) * 69621 + 53) (show (0 : Int) < 2147483563 by decide)
    generalize ((s + 99991 * (t + 1)) * 69621 + 53) % 2147483563 = raw at r0 r1
    subst hK
    refine seq_gen fun K hK => ?_
    simp (disch := first | assumption | decide) only [wSeq, wNext, wAsg, wgName, wIfS, wB, wOp, wVar, wC, wCall, wCallK, wCons, wNil, wRet, wRetN, wDrop, wTup, wLst, wIf, wAnd, wOr, wNot, wAndV, wOrV, wNotV, wNeg, wChain, fI, fI0, addD, fLt, fLe, fGt, fGe, fIsB, wCB, fAbs, f2I, fInt, fIsq, wPar, wPar3, permD, startE, List.map_cons, List.map_nil, List.cons_append, List.nil_append, List.append_nil, List.length_cons, List.length_nil, List.replicate, List.getElem?_cons_zero, List.getElem?_cons_succ, List.set_cons_zero, List.set_cons_succ, List.getD_cons_zero, List.getD_cons_succ, Nat.reduceAdd, Nat.reduceSub, Nat.zero_add, true_and, and_true, Bool.not_true, Bool.not_false, if_true, if_false, Bool.false_eq_true, reduceIte, decide_eq_true_eq, Bool.not_eq_true', decide_eq_false_iff_not, eqV_int, eqV_str, eqV_bl, decide_true, reduceCtorEq, not_true_eq_false, not_false_eq_true, Bool.not_eq_true, List.not_mem_nil, false_implies, implies_true, Int.reduceNeg, Int.reduceToNat, Int.reducePow, Int.reduceMul, Int.reduceAdd, draw_i, ix_t0, ix_t1, ix_t2, ix_t3, ix_m3, ix_m4, sn_ball_box, sn_cell_box, sn_cell_ball, sn_ball_cell, sn_box_ball, sn_box_cell, decide_false]
    refine ⟨cm_of (by omega) (by omega), by decide, ?_⟩
    refine ⟨_, 1, hm1, rfl, ?_⟩
    have s0 := Int.emod_nonneg (raw * 40692 + 27011) (show (2147483629 : Int) ≠ 0 by decide)
    generalize (raw * 40692 + 27011) % 2147483629 = sn at s0
    have em : setM (setM M a (.lst [.int c, .int s, .int (t + 1)])) a (.lst ([D.int c, .int s, .int (t + 1)].set 1 (.int (sn + 1)))) = setM M a (bx c (sn + 1) (t + 1)) := setM_twc
    rw [em]
    have hm2 : setM M a (bx c (sn + 1) (t + 1)) a = some (bx c (sn + 1) (t + 1)) := setM_same
    subst hK
    simp (disch := first | assumption | decide) only [wSeq, wNext, wAsg, wgName, wIfS, wB, wOp, wVar, wC, wCall, wCallK, wCons, wNil, wRet, wRetN, wDrop, wTup, wLst, wIf, wAnd, wOr, wNot, wAndV, wOrV, wNotV, wNeg, wChain, fI, fI0, addD, fLt, fLe, fGt, fGe, fIsB, wCB, fAbs, f2I, fInt, fIsq, wPar, wPar3, permD, startE, List.map_cons, List.map_nil, List.cons_append, List.nil_append, List.append_nil, List.length_cons, List.length_nil, List.replicate, List.getElem?_cons_zero, List.getElem?_cons_succ, List.set_cons_zero, List.set_cons_succ, List.getD_cons_zero, List.getD_cons_succ, Nat.reduceAdd, Nat.reduceSub, Nat.zero_add, true_and, and_true, Bool.not_true, Bool.not_false, if_true, if_false, Bool.false_eq_true, reduceIte, decide_eq_true_eq, Bool.not_eq_true', decide_eq_false_iff_not, eqV_int, eqV_str, eqV_bl, decide_true, reduceCtorEq, not_true_eq_false, not_false_eq_true, Bool.not_eq_true, List.not_mem_nil, false_implies, implies_true, Int.reduceNeg, Int.reduceToNat, Int.reducePow, Int.reduceMul, Int.reduceAdd, draw_i, ix_t0, ix_t1, ix_t2, ix_t3, ix_m3, ix_m4, sn_ball_box, sn_cell_box, sn_cell_ball, sn_ball_cell, sn_box_ball, sn_box_cell, decide_false]
    refine ⟨cm_of (by omega) (by omega), ixb hm2 rfl ?_⟩
    dsimp only
    refine ⟨⟨by decide, log_of (by decide) (by decide)⟩, n0, ?_⟩
    exact q _ _ _ _ (Int.emod_nonneg _ (by omega)) (Int.emod_lt_of_pos _ n0) ⟨hb.1, by omega, by omega⟩
theorem wp__law_box : ∀ ds M Q R, boxL ds M Q R → W__law_box { nx := fun _ M' => Q .non M', rt := Q, xr := lx R } (startE 4 ds) M := by
  rintro ds M Q R ⟨ns, k, rfl, hn, k0, k1, q⟩
  unfold W__law_box
  refine seq_gen fun K hK => ?_
  simp (disch := first | assumption | decide) only [wSeq, wNext, wAsg, wgName, wIfS, wB, wOp, wVar, wC, wCall, wCallK, wCons, wNil, wRet, wRetN, wDrop, wTup, wLst, wIf, wAnd, wOr, wNot, wAndV, wOrV, wNotV, wNeg, wChain, fI, fI0, addD, fLt, fLe, fGt, fGe, fIsB, wCB, fAbs, f2I, fInt, fIsq, wPar, wPar3, permD, startE, List.map_cons, List.map_nil, List.cons_append, List.nil_append, List.append_nil, List.length_cons, List.length_nil, List.replicate, List.getElem?_cons_zero, List.getElem?_cons_succ, List.set_cons_zero, List.set_cons_succ, List.getD_cons_zero, List.getD_cons_succ, Nat.reduceAdd, Nat.reduceSub, Nat.zero_add, true_and, and_true, Bool.not_true, Bool.not_false, if_true, if_false, Bool.false_eq_true, reduceIte, decide_eq_true_eq, Bool.not_eq_true', decide_eq_false_iff_not, eqV_int, eqV_str, eqV_bl, decide_true, reduceCtorEq, not_true_eq_false, not_false_eq_true, Bool.not_eq_true, List.not_mem_nil, false_implies, implies_true, Int.reduceNeg, Int.reduceToNat, Int.reducePow, Int.reduceMul, Int.reduceAdd, draw_i, ix_t0, ix_t1, ix_t2, ix_t3, ix_m3, ix_m4, sn_ball_box, sn_cell_box, sn_cell_ball, sn_ball_cell, sn_box_ball, sn_box_cell, decide_false]
  refine ⟨cm_of (by omega) (by omega), ?_⟩
  have c0 : 0 ≤ 7411 * k + 1304 := by omega
  generalize 7411 * k + 1304 = c at c0
  subst hK
  refine seq_gen fun K hK => ?_
  have key : ∀ c : Int, 0 ≤ c → K [some (.lst (ns.map .int)), some (.int k), some (.int c), none] M := fun c c0 => by
    subst hK
    refine seq_gen fun K hK => ?_
    simp (disch := first | assumption | decide) only [wSeq, wNext, wAsg, wgName, wIfS, wB, wOp, wVar, wC, wCall, wCallK, wCons, wNil, wRet, wRetN, wDrop, wTup, wLst, wIf, wAnd, wOr, wNot, wAndV, wOrV, wNotV, wNeg, wChain, fI, fI0, addD, fLt, fLe, fGt, fGe, fIsB, wCB, fAbs, f2I, fInt, fIsq, wPar, wPar3, permD, startE, List.map_cons, List.map_nil, List.cons_append, List.nil_append, List.append_nil, List.length_cons, List.length_nil, List.replicate, List.getElem?_cons_zero, List.getElem?_cons_succ, List.set_cons_zero, List.set_cons_succ, List.getD_cons_zero, List.getD_cons_succ, Nat.reduceAdd, Nat.reduceSub, Nat.zero_add, true_and, and_true, Bool.not_true, Bool.not_false, if_true, if_false, Bool.false_eq_true, reduceIte, decide_eq_true_eq, Bool.not_eq_true', decide_eq_false_iff_not, eqV_int, eqV_str, eqV_bl, decide_true, reduceCtorEq, not_true_eq_false, not_false_eq_true, Bool.not_eq_true, List.not_mem_nil, false_implies, implies_true, Int.reduceNeg, Int.reduceToNat, Int.reducePow, Int.reduceMul, Int.reduceAdd, draw_i, ix_t0, ix_t1, ix_t2, ix_t3, ix_m3, ix_m4, sn_ball_box, sn_cell_box, sn_cell_ball, sn_ball_cell, sn_box_ball, sn_box_cell, decide_false]
    refine ⟨⟨by decide, by decide⟩, ?_⟩
    subst hK
    have fin : ∀ g : Int, (g = 0 ∨ g = 1) → wRet (wLstM (wCons (wOp ixD (wLst (wCons (wC (.int 0)) (wCons (wVar 2) wNil))) (wVar 3)) (wCons (wOp addD (wOp (fI (fun _ j => 0 < j) fun i j => .int (i % j)) (wCB fInt (wCons (wOp addD (wOp addD (wOp (fI CM fun i j => .int (i * j)) (wOp (fI (fun _ j => 0 < j) fun i j => .int (i % j)) (wCB fInt (wCons (wVar 2) wNil)) (wC (.int 2147483629))) (wC (.int 48271))) (wOp (fI CM fun i j => .int (i * j)) (wC (.int 30011)) (wVar 1))) (wC (.int 977))) wNil)) (wC (.int 2147483629))) (wC (.int 1))) (wCons (wC (.int 0)) wNil))))
        { nx := fun _ M' => Q .non M', rt := Q, xr := lx R } [some (.lst (ns.map .int)), some (.int k), some (.int c), some (.int g)] M := fun g hg => by
      simp (disch := first | assumption | decide) only [wSeq, wNext, wAsg, wgName, wIfS, wB, wOp, wVar, wC, wCall, wCallK, wCons, wNil, wRet, wRetN, wDrop, wTup, wLst, wIf, wAnd, wOr, wNot, wAndV, wOrV, wNotV, wNeg, wChain, fI, fI0, addD, fLt, fLe, fGt, fGe, fIsB, wCB, fAbs, f2I, fInt, fIsq, wPar, wPar3, permD, startE, List.map_cons, List.map_nil, List.cons_append, List.nil_append, List.append_nil, List.length_cons, List.length_nil, List.replicate, List.getElem?_cons_zero, List.getElem?_cons_succ, List.set_cons_zero, List.set_cons_succ, List.getD_cons_zero, List.getD_cons_succ, Nat.reduceAdd, Nat.reduceSub, Nat.zero_add, true_and, and_true, Bool.not_true, Bool.not_false, if_true, if_false, Bool.false_eq_true, reduceIte, decide_eq_true_eq, Bool.not_eq_true', decide_eq_false_iff_not, eqV_int, eqV_str, eqV_bl, decide_true, reduceCtorEq, not_true_eq_false, not_false_eq_true, Bool.not_eq_true, List.not_mem_nil, false_implies, implies_true, Int.reduceNeg, Int.reduceToNat, Int.reducePow, Int.reduceMul, Int.reduceAdd, draw_i, ix_t0, ix_t1, ix_t2, ix_t3, ix_m3, ix_m4, sn_ball_box, sn_cell_box, sn_cell_ball, sn_ball_cell, sn_box_ball, sn_box_cell, decide_false, wLstM]
      refine ⟨by decide, ?_⟩
      have m0 := Int.emod_nonneg c (show (2147483629 : Int) ≠ 0 by decide)
      have m1 := Int.emod_lt_of_pos c (show (0 : Int) < 2147483629 by decide)
      have m2 := Int.emod_nonneg (c % 2147483629 * 48271 + 30011 * k + 977) (show (2147483629 : Int) ≠ 0 by decide)
      rcases hg with rfl | rfl
      · exact ix_at (i := 0) rfl ⟨by decide, cm_of (by omega) (by omega), cm_of (by omega) (by omega), by decide, by decide, fun p hp => q p 0 _ 0 hp ⟨by decide, by omega, by decide⟩⟩
      · exact ix_at (i := 1) rfl ⟨by decide, cm_of (by omega) (by omega), cm_of (by omega) (by omega), by decide, by decide, fun p hp => q p c _ 0 hp ⟨c0, by omega, by decide⟩⟩
    refine fin _ ?_
    split <;> simp
  simp (disch := first | assumption | decide) only [wSeq, wNext, wAsg, wgName, wIfS, wB, wOp, wVar, wC, wCall, wCallK, wCons, wNil, wRet, wRetN, wDrop, wTup, wLst, wIf, wAnd, wOr, wNot, wAndV, wOrV, wNotV, wNeg, wChain, fI, fI0, addD, fLt, fLe, fGt, fGe, fIsB, wCB, fAbs, f2I, fInt, fIsq, wPar, wPar3, permD, startE, List.map_cons, List.map_nil, List.cons_append, List.nil_append, List.append_nil, List.length_cons, List.length_nil, List.replicate, List.getElem?_cons_zero, List.getElem?_cons_succ, List.set_cons_zero, List.set_cons_succ, List.getD_cons_zero, List.getD_cons_succ, Nat.reduceAdd, Nat.reduceSub, Nat.zero_add, true_and, and_true, Bool.not_true, Bool.not_false, if_true, if_false, Bool.false_eq_true, reduceIte, decide_eq_true_eq, Bool.not_eq_true', decide_eq_false_iff_not, eqV_int, eqV_str, eqV_bl, decide_true, reduceCtorEq, not_true_eq_false, not_false_eq_true, Bool.not_eq_true, List.not_mem_nil, false_implies, implies_true, Int.reduceNeg, Int.reduceToNat, Int.reducePow, Int.reduceMul, Int.reduceAdd, draw_i, ix_t0, ix_t1, ix_t2, ix_t3, ix_m3, ix_m4, sn_ball_box, sn_cell_box, sn_cell_ball, sn_ball_cell, sn_box_ball, sn_box_cell, decide_false]
  obtain ⟨kn, rfl⟩ := Int.eq_ofNat_of_zero_le k0
  have aq : ∀ x : Int, 0 ≤ (if x < 0 then -x else x) := fun x => by split <;> omega
  refine ⟨_, rfl, ?_⟩
  rw [List.length_map]
  dsimp only
  split
  · rename_i h
    refine ix_seqd rfl (by omega) ?_
    exact key _ (aq _)
  · refine ⟨_, rfl, ?_⟩
    rw [List.length_map]
    dsimp only
    split
    · rename_i h
      refine ⟨_, rfl, ?_⟩
      rw [List.length_map]
      dsimp only
      refine ⟨by omega, ?_⟩
      have e : ((kn : Int) % (ns.length : Int)) = ((kn % ns.length : Nat) : Int) := by omega
      rw [e]
      refine ix_seqd rfl (Nat.mod_lt _ (by omega)) ?_
      dsimp only
      have m0 := Int.emod_nonneg (if ns.getD (kn % ns.length) 0 < 0 then -ns.getD (kn % ns.length) 0 else ns.getD (kn % ns.length) 0) (show (2147483629 : Int) ≠ 0 by decide)
      have m1 := Int.emod_lt_of_pos (if ns.getD (kn % ns.length) 0 < 0 then -ns.getD (kn % ns.length) 0 else ns.getD (kn % ns.length) 0) (show (0 : Int) < 2147483629 by decide)
      exact ⟨by decide, cm_of (by omega) (by omega), key _ (by omega)⟩
    · exact key _ c0
end K16
namespace K16
open PySem L2 L3
/-- a text of these signs -/
def ofC (cs : List Nat) : Str := ⟨cs.toArray⟩
theorem join_one (cs : List Nat) : Txt.join (Str.ofString "") (cs.map fun c => (⟨#[c]⟩ : Str)) = ofC cs := by
  have e := SX.join_S [] (cs.map fun c => [c])
  rw [List.map_map] at e
  have e2 : (cs.map fun c => (⟨#[c]⟩ : Str)) = cs.map (SX.S ∘ fun c => [c]) := rfl
  rw [e2]
  refine (show Txt.join (Str.ofString "") _ = Txt.join (SX.S []) _ from rfl).trans (e.trans ?_)
  have e3 : ∀ cs : List Nat, TL.joinL [] (cs.map fun c => [c]) = cs := by
    intro cs
    induction cs with
    | nil => rfl
    | cons c cs ih =>
      cases cs with
      | nil => rfl
      | cons d cs =>
        show [c] ++ [] ++ TL.joinL [] ((d :: cs).map fun c => [c]) = _
        rw [ih]
        rfl
  rw [e3]
  rfl
theorem word_of {cs : List Nat} (h : ∀ c ∈ cs, c < 200) (h1 : 1 ≤ cs.length) (h8 : cs.length ≤ 8) : wordOk (ofC cs) := by
  refine ⟨?_, by show 1 ≤ (cs.toArray).size; simpa using h1, by show (cs.toArray).size ≤ 8; simpa using h8⟩
  show (cs.toArray).all (· < 0x110000) = true
  simp
  intro c hc
  have := h c hc
  omega
theorem wp__law_word : ∀ ds M Q R, F__law_word ds M Q R → W__law_word { nx := fun _ M' => Q .non M', rt := Q, xr := lx R } (startE 4 ds) M := by
  rintro ds M Q R ⟨b, m, rfl, hm, m0, m1, q⟩
  unfold W__law_word
  refine seq_gen fun K hK => ?_
  simp (disch := first | assumption | decide) only [wSeq, wNext, wAsg, wgName, wIfS, wB, wOp, wVar, wC, wCall, wCallK, wCons, wNil, wRet, wRetN, wDrop, wTup, wLst, wIf, wAnd, wOr, wNot, wAndV, wOrV, wNotV, wNeg, wChain, fI, fI0, addD, fLt, fLe, fGt, fGe, fIsB, wCB, fAbs, f2I, fInt, fIsq, wPar, wPar3, permD, startE, List.map_cons, List.map_nil, List.cons_append, List.nil_append, List.append_nil, List.length_cons, List.length_nil, List.replicate, List.getElem?_cons_zero, List.getElem?_cons_succ, List.set_cons_zero, List.set_cons_succ, List.getD_cons_zero, List.getD_cons_succ, Nat.reduceAdd, Nat.reduceSub, Nat.zero_add, true_and, and_true, Bool.not_true, Bool.not_false, if_true, if_false, Bool.false_eq_true, reduceIte, decide_eq_true_eq, Bool.not_eq_true', decide_eq_false_iff_not, eqV_int, eqV_str, eqV_bl, decide_true, reduceCtorEq, not_true_eq_false, not_false_eq_true, Bool.not_eq_true, List.not_mem_nil, false_implies, implies_true, Int.reduceNeg, Int.reduceToNat, Int.reducePow, Int.reduceMul, Int.reduceAdd, draw_i, ix_t0, ix_t1, ix_t2, ix_t3, ix_m3, ix_m4, sn_ball_box, sn_cell_box, sn_cell_ball, sn_ball_cell, sn_box_ball, sn_box_cell, decide_false]
  subst hK
  simp (disch := first | assumption | decide) only [wSeq, wNext, wAsg, wgName, wIfS, wB, wOp, wVar, wC, wCall, wCallK, wCons, wNil, wRet, wRetN, wDrop, wTup, wLst, wIf, wAnd, wOr, wNot, wAndV, wOrV, wNotV, wNeg, wChain, fI, fI0, addD, fLt, fLe, fGt, fGe, fIsB, wCB, fAbs, f2I, fInt, fIsq, wPar, wPar3, permD, startE, List.map_cons, List.map_nil, List.cons_append, List.nil_append, List.append_nil, List.length_cons, List.length_nil, List.replicate, List.getElem?_cons_zero, List.getElem?_cons_succ, List.set_cons_zero, List.set_cons_succ, List.getD_cons_zero, List.getD_cons_succ, Nat.reduceAdd, Nat.reduceSub, Nat.zero_add, true_and, and_true, Bool.not_true, Bool.not_false, if_true, if_false, Bool.false_eq_true, reduceIte, decide_eq_true_eq, Bool.not_eq_true', decide_eq_false_iff_not, eqV_int, eqV_str, eqV_bl, decide_true, reduceCtorEq, not_true_eq_false, not_false_eq_true, Bool.not_eq_true, List.not_mem_nil, false_implies, implies_true, Int.reduceNeg, Int.reduceToNat, Int.reducePow, Int.reduceMul, Int.reduceAdd, draw_i, ix_t0, ix_t1, ix_t2, ix_t3, ix_m3, ix_m4, sn_ball_box, sn_cell_box, sn_cell_ball, sn_ball_cell, sn_box_ball, sn_box_cell, decide_false, wJoin, wLc, wiRange1, wipeE]
  refine (take_i hm (by omega) (by omega)).mpr fun j j0 j1 => ?_
  simp (disch := first | assumption | decide) only [wSeq, wNext, wAsg, wgName, wIfS, wB, wOp, wVar, wC, wCall, wCallK, wCons, wNil, wRet, wRetN, wDrop, wTup, wLst, wIf, wAnd, wOr, wNot, wAndV, wOrV, wNotV, wNeg, wChain, fI, fI0, addD, fLt, fLe, fGt, fGe, fIsB, wCB, fAbs, f2I, fInt, fIsq, wPar, wPar3, permD, startE, List.map_cons, List.map_nil, List.cons_append, List.nil_append, List.append_nil, List.length_cons, List.length_nil, List.replicate, List.getElem?_cons_zero, List.getElem?_cons_succ, List.set_cons_zero, List.set_cons_succ, List.getD_cons_zero, List.getD_cons_succ, Nat.reduceAdd, Nat.reduceSub, Nat.zero_add, true_and, and_true, Bool.not_true, Bool.not_false, if_true, if_false, Bool.false_eq_true, reduceIte, decide_eq_true_eq, Bool.not_eq_true', decide_eq_false_iff_not, eqV_int, eqV_str, eqV_bl, decide_true, reduceCtorEq, not_true_eq_false, not_false_eq_true, Bool.not_eq_true, List.not_mem_nil, false_implies, implies_true, Int.reduceNeg, Int.reduceToNat, Int.reducePow, Int.reduceMul, Int.reduceAdd, draw_i, ix_t0, ix_t1, ix_t2, ix_t3, ix_m3, ix_m4, sn_ball_box, sn_cell_box, sn_cell_ball, sn_ball_cell, sn_box_ball, sn_box_cell, decide_false]
  refine ⟨by omega, by omega, ?_⟩
  obtain ⟨n, hn, n8⟩ : ∃ n : Nat, (1 + j).toNat = n ∧ (1 ≤ n ∧ n ≤ 8) := ⟨_, rfl, by omega, by omega⟩
  rw [hn]
  refine lc_any (fun _ y => ∃ c : Nat, y = .str ⟨#[c]⟩ ∧ c < 200) True.intro _ [] (by rw [intsD_len]; simp only [List.length_nil]; omega) (fun d hd K2 hK2 => ?_) fun ys hy1 hy2 => ?_
  · simp (disch := first | assumption | decide) only [wSeq, wNext, wAsg, wgName, wIfS, wB, wOp, wVar, wC, wCall, wCallK, wCons, wNil, wRet, wRetN, wDrop, wTup, wLst, wIf, wAnd, wOr, wNot, wAndV, wOrV, wNotV, wNeg, wChain, fI, fI0, addD, fLt, fLe, fGt, fGe, fIsB, wCB, fAbs, f2I, fInt, fIsq, wPar, wPar3, permD, startE, List.map_cons, List.map_nil, List.cons_append, List.nil_append, List.append_nil, List.length_cons, List.length_nil, List.replicate, List.getElem?_cons_zero, List.getElem?_cons_succ, List.set_cons_zero, List.set_cons_succ, List.getD_cons_zero, List.getD_cons_succ, Nat.reduceAdd, Nat.reduceSub, Nat.zero_add, true_and, and_true, Bool.not_true, Bool.not_false, if_true, if_false, Bool.false_eq_true, reduceIte, decide_eq_true_eq, Bool.not_eq_true', decide_eq_false_iff_not, eqV_int, eqV_str, eqV_bl, decide_true, reduceCtorEq, not_true_eq_false, not_false_eq_true, Bool.not_eq_true, List.not_mem_nil, false_implies, implies_true, Int.reduceNeg, Int.reduceToNat, Int.reducePow, Int.reduceMul, Int.reduceAdd, draw_i, ix_t0, ix_t1, ix_t2, ix_t3, ix_m3, ix_m4, sn_ball_box, sn_cell_box, sn_cell_ball, sn_ball_cell, sn_box_ball, sn_box_cell, decide_false]
    refine (take_i hm (by decide) (by decide)).mpr fun i i0 i1 => ?_
    obtain ⟨i, rfl⟩ := Int.eq_ofNat_of_zero_le i0
    refine ⟨by decide, ?_⟩
    have hi : i < 26 := by omega
    have e : ∃ c, atI (Str.ofString "abcdefghijklmnopqrstuvwxyz").cps.toList (i : Int) = some c ∧ c < 200 := by
      have all : ∀ i : Nat, i < 26 → ∃ c, atI (Str.ofString "abcdefghijklmnopqrstuvwxyz").cps.toList (i : Int) = some c ∧ c < 200 := by
        intro i hi
        have : (Str.ofString "abcdefghijklmnopqrstuvwxyz").cps.toList = (List.range 26).map (97 + ·) := by decide +kernel
        rw [this]
        refine ⟨97 + i, ?_, by omega⟩
        unfold atI ixN
        rw [if_pos (by omega), if_pos (by rw [List.length_map, List.length_range]; omega)]
        show ((List.range 26).map (97 + ·))[(i : Int).toNat]? = _
        rw [Int.toNat_natCast, List.getElem?_map, List.getElem?_range hi]
        rfl
      exact all i hi
    obtain ⟨c, e, hc⟩ := e
    exact ⟨c, e, hK2 _ ⟨c, rfl, hc⟩⟩
  · rw [List.nil_append]
    have hl : ys.length = n := by rw [hy1, intsD_len]
    obtain ⟨cs, rfl, hcs⟩ : ∃ cs : List Nat, ys = (cs.map fun c => (⟨#[c]⟩ : Str)).map D.str ∧ ∀ c ∈ cs, c < 200 := by
      have all : ∀ y ∈ ys, ∃ c : Nat, y = .str ⟨#[c]⟩ ∧ c < 200 := fun y hy => by
        obtain ⟨i, hi⟩ := List.mem_iff_getElem?.mp hy
        obtain ⟨_, _, h⟩ := hy2 i y hi
        exact h
      clear hy1 hy2 hl
      induction ys with
      | nil => exact ⟨[], rfl, fun c h => by cases h⟩
      | cons y ys ih =>
        obtain ⟨c, rfl, hc⟩ := all y List.mem_cons_self
        obtain ⟨cs, rfl, h⟩ := ih fun z hz => all z (List.mem_cons_of_mem _ hz)
        exact ⟨c :: cs, rfl, fun x hx => (List.mem_cons.mp hx).elim (fun e => e ▸ hc) (h x)⟩
    have lc : cs.length = n := by simpa using hl
    refine ⟨cs.map fun c => (⟨#[c]⟩ : Str), rfl, ?_, ?_⟩
    · rw [List.map_map]
      have : (cs.map (Str.length ∘ fun c => (⟨#[c]⟩ : Str))).sum = cs.length := by
        clear hcs lc hl hy1 hy2
        induction cs with
        | nil => rfl
        | cons c cs ih =>
          rw [List.map_cons, List.sum_cons, ih, List.length_cons]
          show 1 + _ = _
          omega
      rw [this, List.length_map]
      show _ + _ * 0 ≤ _
      omega
    · rw [join_one]
      exact q _ (word_of hcs (by omega) (by omega))
theorem wp__law_vector : ∀ ds M Q R, F__law_vector ds M Q R → W__law_vector { nx := fun _ M' => Q .non M', rt := Q, xr := lx R } (startE 4 ds) M := by
  rintro ds M Q R ⟨b, p, rfl, hm, p8, q⟩
  unfold W__law_vector
  refine seq_gen fun K hK => ?_
  simp (disch := first | assumption | decide) only [wSeq, wNext, wAsg, wgName, wIfS, wB, wOp, wVar, wC, wCall, wCallK, wCons, wNil, wRet, wRetN, wDrop, wTup, wLst, wIf, wAnd, wOr, wNot, wAndV, wOrV, wNotV, wNeg, wChain, fI, fI0, addD, fLt, fLe, fGt, fGe, fIsB, wCB, fAbs, f2I, fInt, fIsq, wPar, wPar3, permD, startE, List.map_cons, List.map_nil, List.cons_append, List.nil_append, List.append_nil, List.length_cons, List.length_nil, List.replicate, List.getElem?_cons_zero, List.getElem?_cons_succ, List.set_cons_zero, List.set_cons_succ, List.getD_cons_zero, List.getD_cons_succ, Nat.reduceAdd, Nat.reduceSub, Nat.zero_add, true_and, and_true, Bool.not_true, Bool.not_false, if_true, if_false, Bool.false_eq_true, reduceIte, decide_eq_true_eq, Bool.not_eq_true', decide_eq_false_iff_not, eqV_int, eqV_str, eqV_bl, decide_true, reduceCtorEq, not_true_eq_false, not_false_eq_true, Bool.not_eq_true, List.not_mem_nil, false_implies, implies_true, Int.reduceNeg, Int.reduceToNat, Int.reducePow, Int.reduceMul, Int.reduceAdd, draw_i, ix_t0, ix_t1, ix_t2, ix_t3, ix_m3, ix_m4, sn_ball_box, sn_cell_box, sn_cell_ball, sn_ball_cell, sn_box_ball, sn_box_cell, decide_false]
  refine ⟨by decide, pickb hm rfl (by decide) (by decide) fun x hx => ?_⟩
  obtain ⟨w, rfl, w0, w1⟩ : ∃ w : Int, x = .int w ∧ 1 ≤ w ∧ w ≤ 10000 := by
    simp only [List.mem_cons, List.not_mem_nil, or_false] at hx
    rcases hx with rfl | rfl | rfl | rfl | rfl
    · exact ⟨_, rfl, by decide, by decide⟩
    · exact ⟨_, rfl, by decide, by decide⟩
    · exact ⟨_, rfl, by decide, by decide⟩
    · exact ⟨_, rfl, by decide, by decide⟩
    · exact ⟨_, rfl, by decide, by decide⟩
  subst hK
  simp (disch := first | assumption | decide) only [wSeq, wNext, wAsg, wgName, wIfS, wB, wOp, wVar, wC, wCall, wCallK, wCons, wNil, wRet, wRetN, wDrop, wTup, wLst, wIf, wAnd, wOr, wNot, wAndV, wOrV, wNotV, wNeg, wChain, fI, fI0, addD, fLt, fLe, fGt, fGe, fIsB, wCB, fAbs, f2I, fInt, fIsq, wPar, wPar3, permD, startE, List.map_cons, List.map_nil, List.cons_append, List.nil_append, List.append_nil, List.length_cons, List.length_nil, List.replicate, List.getElem?_cons_zero, List.getElem?_cons_succ, List.set_cons_zero, List.set_cons_succ, List.getD_cons_zero, List.getD_cons_succ, Nat.reduceAdd, Nat.reduceSub, Nat.zero_add, true_and, and_true, Bool.not_true, Bool.not_false, if_true, if_false, Bool.false_eq_true, reduceIte, decide_eq_true_eq, Bool.not_eq_true', decide_eq_false_iff_not, eqV_int, eqV_str, eqV_bl, decide_true, reduceCtorEq, not_true_eq_false, not_false_eq_true, Bool.not_eq_true, List.not_mem_nil, false_implies, implies_true, Int.reduceNeg, Int.reduceToNat, Int.reducePow, Int.reduceMul, Int.reduceAdd, draw_i, ix_t0, ix_t1, ix_t2, ix_t3, ix_m3, ix_m4, sn_ball_box, sn_cell_box, sn_cell_ball, sn_ball_cell, sn_box_ball, sn_box_cell, decide_false, wLc, wiRange1, wipeE, fTuple]
  refine ⟨by omega, by omega, ?_⟩
  rw [Int.toNat_natCast]
  refine lc_any (fun _ y => ∃ a : Int, y = .int a ∧ -10000 ≤ a ∧ a ≤ 10000) True.intro _ [] (by rw [intsD_len]; simp only [List.length_nil]; omega) (fun d hd K2 hK2 => ?_) fun ys hy1 hy2 => ?_
  · simp (disch := first | assumption | decide) only [wSeq, wNext, wAsg, wgName, wIfS, wB, wOp, wVar, wC, wCall, wCallK, wCons, wNil, wRet, wRetN, wDrop, wTup, wLst, wIf, wAnd, wOr, wNot, wAndV, wOrV, wNotV, wNeg, wChain, fI, fI0, addD, fLt, fLe, fGt, fGe, fIsB, wCB, fAbs, f2I, fInt, fIsq, wPar, wPar3, permD, startE, List.map_cons, List.map_nil, List.cons_append, List.nil_append, List.append_nil, List.length_cons, List.length_nil, List.replicate, List.getElem?_cons_zero, List.getElem?_cons_succ, List.set_cons_zero, List.set_cons_succ, List.getD_cons_zero, List.getD_cons_succ, Nat.reduceAdd, Nat.reduceSub, Nat.zero_add, true_and, and_true, Bool.not_true, Bool.not_false, if_true, if_false, Bool.false_eq_true, reduceIte, decide_eq_true_eq, Bool.not_eq_true', decide_eq_false_iff_not, eqV_int, eqV_str, eqV_bl, decide_true, reduceCtorEq, not_true_eq_false, not_false_eq_true, Bool.not_eq_true, List.not_mem_nil, false_implies, implies_true, Int.reduceNeg, Int.reduceToNat, Int.reducePow, Int.reduceMul, Int.reduceAdd, draw_i, ix_t0, ix_t1, ix_t2, ix_t3, ix_m3, ix_m4, sn_ball_box, sn_cell_box, sn_cell_ball, sn_ball_cell, sn_box_ball, sn_box_cell, decide_false]
    refine ⟨cm_of (by decide) (by decide), (take_i hm (by omega) (by omega)).mpr fun j j0 j1 => ?_⟩
    simp (disch := first | assumption | decide) only [wSeq, wNext, wAsg, wgName, wIfS, wB, wOp, wVar, wC, wCall, wCallK, wCons, wNil, wRet, wRetN, wDrop, wTup, wLst, wIf, wAnd, wOr, wNot, wAndV, wOrV, wNotV, wNeg, wChain, fI, fI0, addD, fLt, fLe, fGt, fGe, fIsB, wCB, fAbs, f2I, fInt, fIsq, wPar, wPar3, permD, startE, List.map_cons, List.map_nil, List.cons_append, List.nil_append, List.append_nil, List.length_cons, List.length_nil, List.replicate, List.getElem?_cons_zero, List.getElem?_cons_succ, List.set_cons_zero, List.set_cons_succ, List.getD_cons_zero, List.getD_cons_succ, Nat.reduceAdd, Nat.reduceSub, Nat.zero_add, true_and, and_true, Bool.not_true, Bool.not_false, if_true, if_false, Bool.false_eq_true, reduceIte, decide_eq_true_eq, Bool.not_eq_true', decide_eq_false_iff_not, eqV_int, eqV_str, eqV_bl, decide_true, reduceCtorEq, not_true_eq_false, not_false_eq_true, Bool.not_eq_true, List.not_mem_nil, false_implies, implies_true, Int.reduceNeg, Int.reduceToNat, Int.reducePow, Int.reduceMul, Int.reduceAdd, draw_i, ix_t0, ix_t1, ix_t2, ix_t3, ix_m3, ix_m4, sn_ball_box, sn_cell_box, sn_cell_ball, sn_ball_cell, sn_box_ball, sn_box_cell, decide_false]
    exact hK2 _ ⟨_, rfl, by omega, by omega⟩
  · rw [List.nil_append]
    obtain ⟨ns, rfl, hns⟩ := ints_of (R := fun a => -10000 ≤ a ∧ a ≤ 10000) (fun y hy => by
      obtain ⟨i, hi⟩ := List.mem_iff_getElem?.mp hy
      obtain ⟨_, _, h⟩ := hy2 i y hi
      exact h)
    refine ⟨_, rfl, q ns ⟨?_, hns⟩⟩
    rw [List.length_map, intsD_len] at hy1
    exact hy1
end K16
namespace K16
open PySem L2 L3
theorem seqD_up {M M' : Mp} {d : D} {es : List D} (u : Up M M') (h : seqD M d = some es) : seqD M' d = some es := by
  cases d with
  | tok a =>
    have h' : (match M a with | some (.lst ds) => some ds | _ => none) = some es := h
    show (match M' a with | some (.lst ds) => some ds | _ => none) = some es
    cases q : M a with
    | none =>
      rw [q] at h'
      cases h'
    | some c =>
      rw [u a c q]
      rw [q] at h'
      exact h'
  | _ => exact h
theorem up_new {M : Mp} {l : Addr} {c : Cell} (h : M l = none) : Up M (setM M l c) := fun b d hb => by
  rw [setM_ne (fun z => by rw [z, h] at hb; cases hb)]
  exact hb
theorem wp__law_item : ∀ ds M Q R, F__law_item ds M Q R → W__law_item { nx := fun _ M' => Q .non M', rt := Q, xr := lx R } (startE 7 ds) M := by
  rintro ds M Q R ⟨b, p, dk, ks, ns, rfl, hm, p8, hk, k0, k20, kb, n4, nd, nw, q⟩
  unfold W__law_item
  refine seq_gen fun K hK => ?_
  simp (disch := first | assumption | decide) only [wSeq, wNext, wAsg, wgName, wIfS, wB, wOp, wVar, wC, wCall, wCallK, wCons, wNil, wRet, wRetN, wDrop, wTup, wLst, wIf, wAnd, wOr, wNot, wAndV, wOrV, wNotV, wNeg, wChain, fI, fI0, addD, fLt, fLe, fGt, fGe, fIsB, wCB, fAbs, f2I, fInt, fIsq, wPar, wPar3, permD, startE, List.map_cons, List.map_nil, List.cons_append, List.nil_append, List.append_nil, List.length_cons, List.length_nil, List.replicate, List.getElem?_cons_zero, List.getElem?_cons_succ, List.set_cons_zero, List.set_cons_succ, List.getD_cons_zero, List.getD_cons_succ, Nat.reduceAdd, Nat.reduceSub, Nat.zero_add, true_and, and_true, Bool.not_true, Bool.not_false, if_true, if_false, Bool.false_eq_true, reduceIte, decide_eq_true_eq, Bool.not_eq_true', decide_eq_false_iff_not, eqV_int, eqV_str, eqV_bl, decide_true, reduceCtorEq, not_true_eq_false, not_false_eq_true, Bool.not_eq_true, List.not_mem_nil, false_implies, implies_true, Int.reduceNeg, Int.reduceToNat, Int.reducePow, Int.reduceMul, Int.reduceAdd, draw_i, ix_t0, ix_t1, ix_t2, ix_t3, ix_m3, ix_m4, sn_ball_box, sn_cell_box, sn_cell_ball, sn_ball_cell, sn_box_ball, sn_box_cell, decide_false, wPar, wLstM]
  refine ⟨by decide, fun l hl => ⟨⟨by decide, by decide, by decide⟩, by decide, ?_⟩⟩
  have ne : b ≠ l := fun e => by
    rw [← e, hm] at hl
    cases hl
  have hz : ∀ c, setM M l c b = some .box := fun c => by
    rw [setM_ne ne]
    exact hm
  refine pickb (hz _) rfl (by decide) (by decide) fun x hx => ?_
  obtain ⟨w, rfl, w0, w1⟩ : ∃ w : Int, x = .int w ∧ 1 ≤ w ∧ w ≤ 1000000000 := by
    simp only [List.mem_cons, List.not_mem_nil, or_false] at hx
    rcases hx with rfl | rfl | rfl | rfl
    · exact ⟨_, rfl, by decide, by decide⟩
    · exact ⟨_, rfl, by decide, by decide⟩
    · exact ⟨_, rfl, by decide, by decide⟩
    · exact ⟨_, rfl, by decide, by decide⟩
  subst hK
  refine seq_gen fun K hK => ?_
  refine for_gen fun B hB => ?_
  simp (disch := first | assumption | decide) only [wSeq, wNext, wAsg, wgName, wIfS, wB, wOp, wVar, wC, wCall, wCallK, wCons, wNil, wRet, wRetN, wDrop, wTup, wLst, wIf, wAnd, wOr, wNot, wAndV, wOrV, wNotV, wNeg, wChain, fI, fI0, addD, fLt, fLe, fGt, fGe, fIsB, wCB, fAbs, f2I, fInt, fIsq, wPar, wPar3, permD, startE, List.map_cons, List.map_nil, List.cons_append, List.nil_append, List.append_nil, List.length_cons, List.length_nil, List.replicate, List.getElem?_cons_zero, List.getElem?_cons_succ, List.set_cons_zero, List.set_cons_succ, List.getD_cons_zero, List.getD_cons_succ, Nat.reduceAdd, Nat.reduceSub, Nat.zero_add, true_and, and_true, Bool.not_true, Bool.not_false, if_true, if_false, Bool.false_eq_true, reduceIte, decide_eq_true_eq, Bool.not_eq_true', decide_eq_false_iff_not, eqV_int, eqV_str, eqV_bl, decide_true, reduceCtorEq, not_true_eq_false, not_false_eq_true, Bool.not_eq_true, List.not_mem_nil, false_implies, implies_true, Int.reduceNeg, Int.reduceToNat, Int.reducePow, Int.reduceMul, Int.reduceAdd, draw_i, ix_t0, ix_t1, ix_t2, ix_t3, ix_m3, ix_m4, sn_ball_box, sn_cell_box, sn_cell_ball, sn_ball_cell, sn_box_ball, sn_box_cell, decide_false, wFor, wiSeq]
  refine loop_map D.str ns (fun i ρ' M' => ∃ (ls : List (Str × Int)) (v4 : Option D), M' = setM M l (.lst (ls.map labD)) ∧ ρ' = [some (.tok b), some (.int (p : Int)), some dk, some (.lst (ns.map .str)), v4, some (.tok l), some (.int w)] ∧ (ls.map (·.1)).Sublist (ns.take i) ∧ ∀ x ∈ ls, -1000000000 ≤ x.2 ∧ x.2 ≤ 1000000001) (fun i a ρ' M' ha hi hP => ?_) (fun ρ' M' hP => ?_) ⟨[], none, rfl, rfl, List.nil_sublist _, fun x hx => by cases hx⟩
  · obtain ⟨ls, v4, rfl, rfl, sub, lb⟩ := hP
    refine ⟨True.intro, fun K3 hK3 => ?_⟩
    have hll : ls.length ≤ 4 := by
      have := sub.length_le
      rw [List.length_map, List.length_take] at this
      omega
    have et : ns.take (i + 1) = ns.take i ++ [a] := by rw [List.take_add_one, ha]; rfl
    have skip : ∀ v4, K3 [some (.tok b), some (.int (p : Int)), some dk, some (.lst (ns.map .str)), v4, some (.tok l), some (.int w)] (setM M l (.lst (ls.map labD))) := fun v4 => hK3 _ _ ⟨ls, v4, rfl, rfl, by rw [et]; exact sub.trans (List.sublist_append_left _ _), lb⟩
    subst hB
    simp (disch := first | assumption | decide) only [wSeq, wNext, wAsg, wgName, wIfS, wB, wOp, wVar, wC, wCall, wCallK, wCons, wNil, wRet, wRetN, wDrop, wTup, wLst, wIf, wAnd, wOr, wNot, wAndV, wOrV, wNotV, wNeg, wChain, fI, fI0, addD, fLt, fLe, fGt, fGe, fIsB, wCB, fAbs, f2I, fInt, fIsq, wPar, wPar3, permD, startE, List.map_cons, List.map_nil, List.cons_append, List.nil_append, List.append_nil, List.length_cons, List.length_nil, List.replicate, List.getElem?_cons_zero, List.getElem?_cons_succ, List.set_cons_zero, List.set_cons_succ, List.getD_cons_zero, List.getD_cons_succ, Nat.reduceAdd, Nat.reduceSub, Nat.zero_add, true_and, and_true, Bool.not_true, Bool.not_false, if_true, if_false, Bool.false_eq_true, reduceIte, decide_eq_true_eq, Bool.not_eq_true', decide_eq_false_iff_not, eqV_int, eqV_str, eqV_bl, decide_true, reduceCtorEq, not_true_eq_false, not_false_eq_true, Bool.not_eq_true, List.not_mem_nil, false_implies, implies_true, Int.reduceNeg, Int.reduceToNat, Int.reducePow, Int.reduceMul, Int.reduceAdd, draw_i, ix_t0, ix_t1, ix_t2, ix_t3, ix_m3, ix_m4, sn_ball_box, sn_cell_box, sn_cell_ball, sn_ball_cell, sn_box_ball, sn_box_cell, decide_false, wApp]
    refine (take_i (hz _) (by decide) (by decide)).mpr fun j j0 j1 => ?_
    simp (disch := first | assumption | decide) only [wSeq, wNext, wAsg, wgName, wIfS, wB, wOp, wVar, wC, wCall, wCallK, wCons, wNil, wRet, wRetN, wDrop, wTup, wLst, wIf, wAnd, wOr, wNot, wAndV, wOrV, wNotV, wNeg, wChain, fI, fI0, addD, fLt, fLe, fGt, fGe, fIsB, wCB, fAbs, f2I, fInt, fIsq, wPar, wPar3, permD, startE, List.map_cons, List.map_nil, List.cons_append, List.nil_append, List.append_nil, List.length_cons, List.length_nil, List.replicate, List.getElem?_cons_zero, List.getElem?_cons_succ, List.set_cons_zero, List.set_cons_succ, List.getD_cons_zero, List.getD_cons_succ, Nat.reduceAdd, Nat.reduceSub, Nat.zero_add, true_and, and_true, Bool.not_true, Bool.not_false, if_true, if_false, Bool.false_eq_true, reduceIte, decide_eq_true_eq, Bool.not_eq_true', decide_eq_false_iff_not, eqV_int, eqV_str, eqV_bl, decide_true, reduceCtorEq, not_true_eq_false, not_false_eq_true, Bool.not_eq_true, List.not_mem_nil, false_implies, implies_true, Int.reduceNeg, Int.reduceToNat, Int.reducePow, Int.reduceMul, Int.reduceAdd, draw_i, ix_t0, ix_t1, ix_t2, ix_t3, ix_m3, ix_m4, sn_ball_box, sn_cell_box, sn_cell_ball, sn_ball_cell, sn_box_ball, sn_box_cell, decide_false]
    split
    · refine ⟨⟨_, setM_same⟩, cm_of (by decide) (by decide), (take_i (hz _) (by omega) (by omega)).mpr fun v v0 v1 => ?_⟩
      dsimp only
      refine ⟨by decide, _, setM_same, ?_, ?_⟩
      · rw [List.length_map]
        exact Nat.lt_of_le_of_lt hll (by decide)
      · rw [setM_twc]
        have em : ls.map labD ++ [D.tup [.str a, .int (v - w)]] = (ls ++ [(a, v - w)]).map labD := by
          rw [List.map_append]
          rfl
        rw [em]
        refine hK3 _ _ ⟨ls ++ [(a, v - w)], _, rfl, rfl, ?_, fun x hx => ?_⟩
        · rw [et, List.map_append]
          exact sub.append (List.Sublist.refl _)
        · rcases List.mem_append.mp hx with hx | hx
          · exact lb x hx
          · rw [List.mem_singleton.mp hx]
            dsimp only
            omega
    · exact skip _
  · obtain ⟨ls, v4, rfl, rfl, sub, lb⟩ := hP
    refine ⟨True.intro, ?_⟩
    show K _ _
    subst hK
    have up : Up M (setM M l (.lst (ls.map labD))) := up_new hl
    simp (disch := first | assumption | decide) only [wSeq, wNext, wAsg, wgName, wIfS, wB, wOp, wVar, wC, wCall, wCallK, wCons, wNil, wRet, wRetN, wDrop, wTup, wLst, wIf, wAnd, wOr, wNot, wAndV, wOrV, wNotV, wNeg, wChain, fI, fI0, addD, fLt, fLe, fGt, fGe, fIsB, wCB, fAbs, f2I, fInt, fIsq, wPar, wPar3, permD, startE, List.map_cons, List.map_nil, List.cons_append, List.nil_append, List.append_nil, List.length_cons, List.length_nil, List.replicate, List.getElem?_cons_zero, List.getElem?_cons_succ, List.set_cons_zero, List.set_cons_succ, List.getD_cons_zero, List.getD_cons_succ, Nat.reduceAdd, Nat.reduceSub, Nat.zero_add, true_and, and_true, Bool.not_true, Bool.not_false, if_true, if_false, Bool.false_eq_true, reduceIte, decide_eq_true_eq, Bool.not_eq_true', decide_eq_false_iff_not, eqV_int, eqV_str, eqV_bl, decide_true, reduceCtorEq, not_true_eq_false, not_false_eq_true, Bool.not_eq_true, List.not_mem_nil, false_implies, implies_true, Int.reduceNeg, Int.reduceToNat, Int.reducePow, Int.reduceMul, Int.reduceAdd, draw_i, ix_t0, ix_t1, ix_t2, ix_t3, ix_m3, ix_m4, sn_ball_box, sn_cell_box, sn_cell_ball, sn_ball_cell, sn_box_ball, sn_box_cell, decide_false, fTuple]
    refine pickb (hz _) (seqD_up up hk) (by rw [List.length_map]; exact k0) (by rw [List.length_map]; omega) fun x hx => ?_
    obtain ⟨kk, hkm, rfl⟩ := List.mem_map.mp hx
    refine ⟨b, p, rfl, hz _, p8, fun v hv => ⟨ls.map labD, by show (match setM M l _ l with | some (.lst ds) => some ds | _ => none) = _; rw [setM_same], by decide, ?_⟩⟩
    rw [List.take_length] at sub
    have hin : ∀ x ∈ ls, x.1 ∈ ns := fun x hx => sub.subset (List.mem_map.mpr ⟨x, hx, rfl⟩)
    refine q ⟨kk, v, ls⟩ _ up ⟨hv, nd.sublist sub, ?_, fun x hx => ⟨nw _ (hin x hx), lb x hx⟩, kb kk hkm⟩ hkm hin
    have := sub.length_le
    rw [List.length_map] at this
    show ls.length ≤ 4
    omega
theorem keys_str : ∀ l : List Key, (∀ k ∈ l, ∃ x, k = .inr x) → ∃ ns : List Str, l = ns.map Sum.inr
  | [], _ => ⟨[], rfl⟩
  | k :: l, h => by
    obtain ⟨x, rfl⟩ := h k List.mem_cons_self
    obtain ⟨ns, rfl⟩ := keys_str l fun y hy => h y (List.mem_cons_of_mem _ hy)
    exact ⟨x :: ns, rfl⟩
theorem strs_of {R : Str → Prop} : ∀ {ys : List D}, (∀ y ∈ ys, ∃ x : Str, y = .str x ∧ R x) → ∃ xs : List Str, ys = xs.map .str ∧ ∀ x ∈ xs, R x
  | [], _ => ⟨[], rfl, fun b h => by cases h⟩
  | y :: ys, h => by
    obtain ⟨b, rfl, hb⟩ := h y List.mem_cons_self
    obtain ⟨ns, rfl, hn⟩ := strs_of fun z hz => h z (List.mem_cons_of_mem _ hz)
    exact ⟨b :: ns, rfl, fun c hc => (List.mem_cons.mp hc).elim (fun e => e ▸ hb) (hn c)⟩
theorem wp__law_world : ∀ ds M Q R, F__law_world ds M Q R → W__law_world { nx := fun _ M' => Q .non M', rt := Q, xr := lx R } (startE 4 ds) M := by
  rintro ds M Q R ⟨b, rfl, hm, q⟩
  unfold W__law_world
  refine seq_gen fun K hK => ?_
  simp (disch := first | assumption | decide) only [wSeq, wNext, wAsg, wgName, wIfS, wB, wOp, wVar, wC, wCall, wCallK, wCons, wNil, wRet, wRetN, wDrop, wTup, wLst, wIf, wAnd, wOr, wNot, wAndV, wOrV, wNotV, wNeg, wChain, fI, fI0, addD, fLt, fLe, fGt, fGe, fIsB, wCB, fAbs, f2I, fInt, fIsq, wPar, wPar3, permD, startE, List.map_cons, List.map_nil, List.cons_append, List.nil_append, List.append_nil, List.length_cons, List.length_nil, List.replicate, List.getElem?_cons_zero, List.getElem?_cons_succ, List.set_cons_zero, List.set_cons_succ, List.getD_cons_zero, List.getD_cons_succ, Nat.reduceAdd, Nat.reduceSub, Nat.zero_add, true_and, and_true, Bool.not_true, Bool.not_false, if_true, if_false, Bool.false_eq_true, reduceIte, decide_eq_true_eq, Bool.not_eq_true', decide_eq_false_iff_not, eqV_int, eqV_str, eqV_bl, decide_true, reduceCtorEq, not_true_eq_false, not_false_eq_true, Bool.not_eq_true, List.not_mem_nil, false_implies, implies_true, Int.reduceNeg, Int.reduceToNat, Int.reducePow, Int.reduceMul, Int.reduceAdd, draw_i, ix_t0, ix_t1, ix_t2, ix_t3, ix_m3, ix_m4, sn_ball_box, sn_cell_box, sn_cell_ball, sn_ball_cell, sn_box_ball, sn_box_cell, decide_false, wLstM]
  refine (take_i hm (by decide) (by decide)).mpr fun j j0 j1 => ⟨by decide, fun t ht => ?_⟩
  have ne : b ≠ t := fun e => by
    rw [← e, hm] at ht
    cases ht
  have hz : ∀ c, setM M t c b = some .box := fun c => by
    rw [setM_ne ne]
    exact hm
  subst hK
  refine seq_gen fun K hK => ?_
  refine for_gen fun B hB => ?_
  simp (disch := first | assumption | decide) only [wSeq, wNext, wAsg, wgName, wIfS, wB, wOp, wVar, wC, wCall, wCallK, wCons, wNil, wRet, wRetN, wDrop, wTup, wLst, wIf, wAnd, wOr, wNot, wAndV, wOrV, wNotV, wNeg, wChain, fI, fI0, addD, fLt, fLe, fGt, fGe, fIsB, wCB, fAbs, f2I, fInt, fIsq, wPar, wPar3, permD, startE, List.map_cons, List.map_nil, List.cons_append, List.nil_append, List.append_nil, List.length_cons, List.length_nil, List.replicate, List.getElem?_cons_zero, List.getElem?_cons_succ, List.set_cons_zero, List.set_cons_succ, List.getD_cons_zero, List.getD_cons_succ, Nat.reduceAdd, Nat.reduceSub, Nat.zero_add, true_and, and_true, Bool.not_true, Bool.not_false, if_true, if_false, Bool.false_eq_true, reduceIte, decide_eq_true_eq, Bool.not_eq_true', decide_eq_false_iff_not, eqV_int, eqV_str, eqV_bl, decide_true, reduceCtorEq, not_true_eq_false, not_false_eq_true, Bool.not_eq_true, List.not_mem_nil, false_implies, implies_true, Int.reduceNeg, Int.reduceToNat, Int.reducePow, Int.reduceMul, Int.reduceAdd, draw_i, ix_t0, ix_t1, ix_t2, ix_t3, ix_m3, ix_m4, sn_ball_box, sn_cell_box, sn_cell_ball, sn_ball_cell, sn_box_ball, sn_box_cell, decide_false, wFor, wiRange1]
  refine (take_i (hz _) (by decide) (by decide)).mpr fun m m0 m1 => ?_
  simp (disch := first | assumption | decide) only [wSeq, wNext, wAsg, wgName, wIfS, wB, wOp, wVar, wC, wCall, wCallK, wCons, wNil, wRet, wRetN, wDrop, wTup, wLst, wIf, wAnd, wOr, wNot, wAndV, wOrV, wNotV, wNeg, wChain, fI, fI0, addD, fLt, fLe, fGt, fGe, fIsB, wCB, fAbs, f2I, fInt, fIsq, wPar, wPar3, permD, startE, List.map_cons, List.map_nil, List.cons_append, List.nil_append, List.append_nil, List.length_cons, List.length_nil, List.replicate, List.getElem?_cons_zero, List.getElem?_cons_succ, List.set_cons_zero, List.set_cons_succ, List.getD_cons_zero, List.getD_cons_succ, Nat.reduceAdd, Nat.reduceSub, Nat.zero_add, true_and, and_true, Bool.not_true, Bool.not_false, if_true, if_false, Bool.false_eq_true, reduceIte, decide_eq_true_eq, Bool.not_eq_true', decide_eq_false_iff_not, eqV_int, eqV_str, eqV_bl, decide_true, reduceCtorEq, not_true_eq_false, not_false_eq_true, Bool.not_eq_true, List.not_mem_nil, false_implies, implies_true, Int.reduceNeg, Int.reduceToNat, Int.reducePow, Int.reduceMul, Int.reduceAdd, draw_i, ix_t0, ix_t1, ix_t2, ix_t3, ix_m3, ix_m4, sn_ball_box, sn_cell_box, sn_cell_ball, sn_ball_cell, sn_box_ball, sn_box_cell, decide_false]
  refine ⟨by omega, by omega, ?_⟩
  obtain ⟨n, hn, n7⟩ : ∃ n : Nat, (2 + m).toNat = n ∧ n ≤ 6 := ⟨_, rfl, by omega⟩
  rw [hn]
  refine loop_ix (fun i ρ' M' => ∃ (ks : List Int) (z : Int) (v2 : Option D), M' = setM M t (.lst ((ks ++ [z]).map .int)) ∧ ρ' = [some (.tok b), some (.tok t), v2, none] ∧ ks.length = i ∧ (ks ++ [z]).Pairwise (· < ·) ∧ (∀ k ∈ ks ++ [z], 0 ≤ k ∧ k ≤ z) ∧ z ≤ 8 + 1000 * (i : Int)) ?_ ?_ ⟨[], j, none, rfl, rfl, rfl, List.pairwise_singleton _ _, fun k hk => by rw [List.mem_singleton.mp hk]; omega, by omega⟩
  · rintro i d ρ' M' hi ⟨ks, z, v2, rfl, rfl, hl, pw, hb, hz2⟩
    obtain ⟨li, rfl⟩ := intsD_get hi
    have li6 : i < 6 := by omega
    refine ⟨True.intro, fun K3 hK3 => ?_⟩
    subst hB
    simp (disch := first | assumption | decide) only [wSeq, wNext, wAsg, wgName, wIfS, wB, wOp, wVar, wC, wCall, wCallK, wCons, wNil, wRet, wRetN, wDrop, wTup, wLst, wIf, wAnd, wOr, wNot, wAndV, wOrV, wNotV, wNeg, wChain, fI, fI0, addD, fLt, fLe, fGt, fGe, fIsB, wCB, fAbs, f2I, fInt, fIsq, wPar, wPar3, permD, startE, List.map_cons, List.map_nil, List.cons_append, List.nil_append, List.append_nil, List.length_cons, List.length_nil, List.replicate, List.getElem?_cons_zero, List.getElem?_cons_succ, List.set_cons_zero, List.set_cons_succ, List.getD_cons_zero, List.getD_cons_succ, Nat.reduceAdd, Nat.reduceSub, Nat.zero_add, true_and, and_true, Bool.not_true, Bool.not_false, if_true, if_false, Bool.false_eq_true, reduceIte, decide_eq_true_eq, Bool.not_eq_true', decide_eq_false_iff_not, eqV_int, eqV_str, eqV_bl, decide_true, reduceCtorEq, not_true_eq_false, not_false_eq_true, Bool.not_eq_true, List.not_mem_nil, false_implies, implies_true, Int.reduceNeg, Int.reduceToNat, Int.reducePow, Int.reduceMul, Int.reduceAdd, draw_i, ix_t0, ix_t1, ix_t2, ix_t3, ix_m3, ix_m4, sn_ball_box, sn_cell_box, sn_cell_ball, sn_ball_cell, sn_box_ball, sn_box_cell, decide_false, wApp]
    refine ⟨⟨_, setM_same⟩, ?_⟩
    have last : ∀ Q' : KD, Q' (.int z) (setM M t (.lst ((ks ++ [z]).map .int))) → ixD (.tok t) (.int (-1)) (setM M t (.lst ((ks ++ [z]).map .int))) Q' := fun Q' h => by
      refine ⟨(ks ++ [z]).map .int, .int z, ?_, ?_, h⟩
      · show (match setM M t _ t with | some (.lst ds) => some ds | _ => none) = _
        rw [setM_same]
      · rw [List.map_append]
        exact at_lastG
    refine last _ ⟨by decide, pickb (hz _) rfl (by decide) (by decide) fun x hx => ?_⟩
    obtain ⟨g, rfl, g0, g1⟩ : ∃ g : Int, x = .int g ∧ 1 ≤ g ∧ g ≤ 1000 := by
      simp only [List.mem_cons, List.not_mem_nil, or_false] at hx
      rcases hx with rfl | rfl | rfl | rfl
      · exact ⟨_, rfl, by decide, by decide⟩
      · exact ⟨_, rfl, by decide, by decide⟩
      · exact ⟨_, rfl, by decide, by decide⟩
      · exact ⟨_, rfl, by decide, by decide⟩
    dsimp only
    refine ⟨_, setM_same, ?_, ?_⟩
    · rw [List.length_map, List.length_append, hl, List.length_singleton]
      exact Nat.lt_of_lt_of_le (by omega : i + 1 < 8) (by decide)
    rw [setM_twc]
    have em : (ks ++ [z]).map D.int ++ [D.int (z + g)] = ((ks ++ [z]) ++ [z + g]).map D.int := by
      rw [List.map_append (l₂ := [z + g])]
      rfl
    rw [em]
    refine hK3 _ _ ⟨ks ++ [z], z + g, _, rfl, rfl, by rw [List.length_append, hl]; rfl, List.pairwise_append.mpr ⟨pw, List.pairwise_singleton _ _, fun x hx y hy => ?_⟩, fun x hx => ?_, by omega⟩
    · rw [List.mem_singleton.mp hy]
      have := hb x hx
      omega
    · rcases List.mem_append.mp hx with hx | hx
      · have := hb x hx
        omega
      · rw [List.mem_singleton.mp hx]
        have := hb z (List.mem_append_right _ List.mem_cons_self)
        omega
  · rintro ρ' M' ⟨ks, z, v2, rfl, rfl, hl, pw, hb, hz2⟩
    rw [intsD_len] at hl hz2
    refine ⟨True.intro, ?_⟩
    show K _ _
    subst hK
    refine seq_gen fun K hK => ?_
    have fin : ∀ (ls : List Int), ls.Pairwise (· < ·) → (∀ k ∈ ls, 0 ≤ k ∧ k ≤ 1000000000) → 0 < ls.length → ls.length ≤ 20 → K [some (.tok b), some (.tok t), v2, none] (setM M t (.lst (ls.map .int))) := fun ls pw hb h0 h20 => by
      subst hK
      refine seq_gen fun K hK => ?_
      simp (disch := first | assumption | decide) only [wSeq, wNext, wAsg, wgName, wIfS, wB, wOp, wVar, wC, wCall, wCallK, wCons, wNil, wRet, wRetN, wDrop, wTup, wLst, wIf, wAnd, wOr, wNot, wAndV, wOrV, wNotV, wNeg, wChain, fI, fI0, addD, fLt, fLe, fGt, fGe, fIsB, wCB, fAbs, f2I, fInt, fIsq, wPar, wPar3, permD, startE, List.map_cons, List.map_nil, List.cons_append, List.nil_append, List.append_nil, List.length_cons, List.length_nil, List.replicate, List.getElem?_cons_zero, List.getElem?_cons_succ, List.set_cons_zero, List.set_cons_succ, List.getD_cons_zero, List.getD_cons_succ, Nat.reduceAdd, Nat.reduceSub, Nat.zero_add, true_and, and_true, Bool.not_true, Bool.not_false, if_true, if_false, Bool.false_eq_true, reduceIte, decide_eq_true_eq, Bool.not_eq_true', decide_eq_false_iff_not, eqV_int, eqV_str, eqV_bl, decide_true, reduceCtorEq, not_true_eq_false, not_false_eq_true, Bool.not_eq_true, List.not_mem_nil, false_implies, implies_true, Int.reduceNeg, Int.reduceToNat, Int.reducePow, Int.reduceMul, Int.reduceAdd, draw_i, ix_t0, ix_t1, ix_t2, ix_t3, ix_m3, ix_m4, sn_ball_box, sn_cell_box, sn_cell_ball, sn_ball_cell, sn_box_ball, sn_box_cell, decide_false, wSortSet, wLc, wiRange1, wipeE]
      refine ⟨by decide, by decide, ?_⟩
      refine lc_any (fun _ y => ∃ x : Str, y = .str x ∧ wordOk x) True.intro _ [] (by rw [intsD_len]; decide) (fun d hd K2 hK2 => ?_) fun ys hy1 hy2 => ?_
      · simp (disch := first | assumption | decide) only [wSeq, wNext, wAsg, wgName, wIfS, wB, wOp, wVar, wC, wCall, wCallK, wCons, wNil, wRet, wRetN, wDrop, wTup, wLst, wIf, wAnd, wOr, wNot, wAndV, wOrV, wNotV, wNeg, wChain, fI, fI0, addD, fLt, fLe, fGt, fGe, fIsB, wCB, fAbs, f2I, fInt, fIsq, wPar, wPar3, permD, startE, List.map_cons, List.map_nil, List.cons_append, List.nil_append, List.append_nil, List.length_cons, List.length_nil, List.replicate, List.getElem?_cons_zero, List.getElem?_cons_succ, List.set_cons_zero, List.set_cons_succ, List.getD_cons_zero, List.getD_cons_succ, Nat.reduceAdd, Nat.reduceSub, Nat.zero_add, true_and, and_true, Bool.not_true, Bool.not_false, if_true, if_false, Bool.false_eq_true, reduceIte, decide_eq_true_eq, Bool.not_eq_true', decide_eq_false_iff_not, eqV_int, eqV_str, eqV_bl, decide_true, reduceCtorEq, not_true_eq_false, not_false_eq_true, Bool.not_eq_true, List.not_mem_nil, false_implies, implies_true, Int.reduceNeg, Int.reduceToNat, Int.reducePow, Int.reduceMul, Int.reduceAdd, draw_i, ix_t0, ix_t1, ix_t2, ix_t3, ix_m3, ix_m4, sn_ball_box, sn_cell_box, sn_cell_ball, sn_ball_cell, sn_box_ball, sn_box_cell, decide_false]
        refine ⟨by decide, pickb (hz _) rfl (by decide) (by decide) fun x hx => ?_⟩
        obtain ⟨w, rfl, w0, w1⟩ : ∃ w : Nat, x = .int (w : Int) ∧ 1 ≤ w ∧ w ≤ 8 := by
          simp only [List.mem_cons, List.not_mem_nil, or_false] at hx
          rcases hx with rfl | rfl | rfl
          · exact ⟨1, rfl, by decide, by decide⟩
          · exact ⟨3, rfl, by decide, by decide⟩
          · exact ⟨8, rfl, by decide, by decide⟩
        exact ⟨b, w, rfl, hz _, w0, w1, fun x hx => hK2 _ ⟨x, rfl, hx⟩⟩
      rw [List.nil_append]
      obtain ⟨xs, rfl, hxs⟩ := strs_of (R := wordOk) (fun y hy => by
        obtain ⟨i, hi⟩ := List.mem_iff_getElem?.mp hy
        obtain ⟨_, _, h⟩ := hy2 i y hi
        exact h)
      rw [List.length_map, intsD_len] at hy1
      refine ⟨xs.map Sum.inr, ?_, by rw [List.length_map]; omega, .inr fun k hk => ?_, fun us nd hm hl => ?_⟩
      · show some _ = some _
        rw [List.map_map]
        rfl
      · obtain ⟨x, _, rfl⟩ := List.mem_map.mp hk
        exact ⟨x, rfl⟩
      have pm : (srtK us).Perm us := List.mergeSort_perm _ _
      obtain ⟨ns, en⟩ := keys_str (srtK us) fun k hk => by
        obtain ⟨x, _, rfl⟩ := List.mem_map.mp ((hm k).1 (pm.mem_iff.mp hk))
        exact ⟨x, rfl⟩
      have nn : ns.Nodup := by
        have := pm.nodup_iff.mpr nd
        rw [en] at this
        exact (List.pairwise_map.mp this).imp fun {_ _} h e => h (congrArg Sum.inr e)
      have nl : ns.length = us.length := by
        have := pm.length_eq
        rwa [en, List.length_map] at this
      have hmem : ∀ x, x ∈ ns ↔ x ∈ xs := fun x => by
        have h1 : Sum.inr x ∈ srtK us ↔ (Sum.inr x : Key) ∈ xs.map Sum.inr := pm.mem_iff.trans (hm _)
        rw [en] at h1
        simpa using h1
      have n0 : 0 < ns.length := by
        obtain ⟨x, hx⟩ := List.exists_mem_of_ne_nil xs (fun z => by rw [z] at hy1; cases hy1)
        exact List.length_pos_of_mem ((hmem x).mpr hx)
      have ed : (srtK us).map keyDD = ns.map D.str := by
        rw [en, List.map_map]
        rfl
      rw [ed]
      subst hK
      simp (disch := first | assumption | decide) only [wSeq, wNext, wAsg, wgName, wIfS, wB, wOp, wVar, wC, wCall, wCallK, wCons, wNil, wRet, wRetN, wDrop, wTup, wLst, wIf, wAnd, wOr, wNot, wAndV, wOrV, wNotV, wNeg, wChain, fI, fI0, addD, fLt, fLe, fGt, fGe, fIsB, wCB, fAbs, f2I, fInt, fIsq, wPar, wPar3, permD, startE, List.map_cons, List.map_nil, List.cons_append, List.nil_append, List.append_nil, List.length_cons, List.length_nil, List.replicate, List.getElem?_cons_zero, List.getElem?_cons_succ, List.set_cons_zero, List.set_cons_succ, List.getD_cons_zero, List.getD_cons_succ, Nat.reduceAdd, Nat.reduceSub, Nat.zero_add, true_and, and_true, Bool.not_true, Bool.not_false, if_true, if_false, Bool.false_eq_true, reduceIte, decide_eq_true_eq, Bool.not_eq_true', decide_eq_false_iff_not, eqV_int, eqV_str, eqV_bl, decide_true, reduceCtorEq, not_true_eq_false, not_false_eq_true, Bool.not_eq_true, List.not_mem_nil, false_implies, implies_true, Int.reduceNeg, Int.reduceToNat, Int.reducePow, Int.reduceMul, Int.reduceAdd, draw_i, ix_t0, ix_t1, ix_t2, ix_t3, ix_m3, ix_m4, sn_ball_box, sn_cell_box, sn_cell_ball, sn_ball_cell, sn_box_ball, sn_box_cell, decide_false]
      refine (take_i (hz _) (by decide) (by decide)).mpr fun j3 h3 h4 => ?_
      obtain ⟨jn, rfl⟩ := Int.eq_ofNat_of_zero_le h3
      have ej : 1 + (jn : Int) = ((jn + 1 : Nat) : Int) := by omega
      simp (disch := first | assumption | decide) only [wSeq, wNext, wAsg, wgName, wIfS, wB, wOp, wVar, wC, wCall, wCallK, wCons, wNil, wRet, wRetN, wDrop, wTup, wLst, wIf, wAnd, wOr, wNot, wAndV, wOrV, wNotV, wNeg, wChain, fI, fI0, addD, fLt, fLe, fGt, fGe, fIsB, wCB, fAbs, f2I, fInt, fIsq, wPar, wPar3, permD, startE, List.map_cons, List.map_nil, List.cons_append, List.nil_append, List.append_nil, List.length_cons, List.length_nil, List.replicate, List.getElem?_cons_zero, List.getElem?_cons_succ, List.set_cons_zero, List.set_cons_succ, List.getD_cons_zero, List.getD_cons_succ, Nat.reduceAdd, Nat.reduceSub, Nat.zero_add, true_and, and_true, Bool.not_true, Bool.not_false, if_true, if_false, Bool.false_eq_true, reduceIte, decide_eq_true_eq, Bool.not_eq_true', decide_eq_false_iff_not, eqV_int, eqV_str, eqV_bl, decide_true, reduceCtorEq, not_true_eq_false, not_false_eq_true, Bool.not_eq_true, List.not_mem_nil, false_implies, implies_true, Int.reduceNeg, Int.reduceToNat, Int.reducePow, Int.reduceMul, Int.reduceAdd, draw_i, ix_t0, ix_t1, ix_t2, ix_t3, ix_m3, ix_m4, sn_ball_box, sn_cell_box, sn_cell_ball, sn_ball_cell, sn_box_ball, sn_box_cell, decide_false]
      rw [ej]
      refine ⟨by decide, q (jn + 1) t ls ns _ (up_new ht) ht setM_same (by omega) (by omega) h0 h20 pw hb n0 ?_ nn fun x hx => hxs x ((hmem x).mp hx)⟩
      rw [List.length_map] at hl
      omega
    simp (disch := first | assumption | decide) only [wSeq, wNext, wAsg, wgName, wIfS, wB, wOp, wVar, wC, wCall, wCallK, wCons, wNil, wRet, wRetN, wDrop, wTup, wLst, wIf, wAnd, wOr, wNot, wAndV, wOrV, wNotV, wNeg, wChain, fI, fI0, addD, fLt, fLe, fGt, fGe, fIsB, wCB, fAbs, f2I, fInt, fIsq, wPar, wPar3, permD, startE, List.map_cons, List.map_nil, List.cons_append, List.nil_append, List.append_nil, List.length_cons, List.length_nil, List.replicate, List.getElem?_cons_zero, List.getElem?_cons_succ, List.set_cons_zero, List.set_cons_succ, List.getD_cons_zero, List.getD_cons_succ, Nat.reduceAdd, Nat.reduceSub, Nat.zero_add, true_and, and_true, Bool.not_true, Bool.not_false, if_true, if_false, Bool.false_eq_true, reduceIte, decide_eq_true_eq, Bool.not_eq_true', decide_eq_false_iff_not, eqV_int, eqV_str, eqV_bl, decide_true, reduceCtorEq, not_true_eq_false, not_false_eq_true, Bool.not_eq_true, List.not_mem_nil, false_implies, implies_true, Int.reduceNeg, Int.reduceToNat, Int.reducePow, Int.reduceMul, Int.reduceAdd, draw_i, ix_t0, ix_t1, ix_t2, ix_t3, ix_m3, ix_m4, sn_ball_box, sn_cell_box, sn_cell_ball, sn_ball_cell, sn_box_ball, sn_box_cell, decide_false, wApp]
    refine (take_i (hz _) (by decide) (by decide)).mpr fun j2 _ _ => ?_
    refine eqV_int.mpr ?_
    simp (disch := first | assumption | decide) only [wSeq, wNext, wAsg, wgName, wIfS, wB, wOp, wVar, wC, wCall, wCallK, wCons, wNil, wRet, wRetN, wDrop, wTup, wLst, wIf, wAnd, wOr, wNot, wAndV, wOrV, wNotV, wNeg, wChain, fI, fI0, addD, fLt, fLe, fGt, fGe, fIsB, wCB, fAbs, f2I, fInt, fIsq, wPar, wPar3, permD, startE, List.map_cons, List.map_nil, List.cons_append, List.nil_append, List.append_nil, List.length_cons, List.length_nil, List.replicate, List.getElem?_cons_zero, List.getElem?_cons_succ, List.set_cons_zero, List.set_cons_succ, List.getD_cons_zero, List.getD_cons_succ, Nat.reduceAdd, Nat.reduceSub, Nat.zero_add, true_and, and_true, Bool.not_true, Bool.not_false, if_true, if_false, Bool.false_eq_true, reduceIte, decide_eq_true_eq, Bool.not_eq_true', decide_eq_false_iff_not, eqV_int, eqV_str, eqV_bl, decide_true, reduceCtorEq, not_true_eq_false, not_false_eq_true, Bool.not_eq_true, List.not_mem_nil, false_implies, implies_true, Int.reduceNeg, Int.reduceToNat, Int.reducePow, Int.reduceMul, Int.reduceAdd, draw_i, ix_t0, ix_t1, ix_t2, ix_t3, ix_m3, ix_m4, sn_ball_box, sn_cell_box, sn_cell_ball, sn_ball_cell, sn_box_ball, sn_box_cell, decide_false]
    have hl8 : (ks ++ [z]).length ≤ 8 := by
      rw [List.length_append, hl, List.length_singleton]
      omega
    have hz9 : z ≤ 7000 := by omega
    have hb9 : ∀ k ∈ ks ++ [z], 0 ≤ k ∧ k ≤ 1000000000 := fun k hk => by
      have := hb k hk
      omega
    split
    · refine ⟨⟨_, setM_same⟩, ⟨by decide, by decide, by decide⟩, _, setM_same, ?_, ?_⟩
      · rw [List.length_map]
        exact Nat.lt_of_le_of_lt hl8 (by decide)
      rw [setM_twc]
      have em : (ks ++ [z]).map D.int ++ [D.int (1000000000 - 1)] = ((ks ++ [z]) ++ [999999999]).map D.int := by
        rw [List.map_append (l₂ := [999999999])]
        rfl
      rw [em]
      refine fin _ (List.pairwise_append.mpr ⟨pw, List.pairwise_singleton _ _, fun x hx y hy => ?_⟩) (fun x hx => ?_) (by rw [List.length_append]; exact Nat.succ_pos _) (by rw [List.length_append, List.length_singleton]; omega)
      · rw [List.mem_singleton.mp hy]
        have := hb x hx
        omega
      · rcases List.mem_append.mp hx with hx | hx
        · exact hb9 x hx
        · rw [List.mem_singleton.mp hx]
          decide
    · exact fin _ pw hb9 (by rw [List.length_append]; exact Nat.succ_pos _) (by omega)
end K16
namespace K16
open PySem L2 L3
theorem fit_word {x : Str} {n : Nat} (h : wordOk x) : fit n (.str x) := by
  simp only [fit]
  exact h.1
theorem fit_labs {n : Nat} {ls : List (Str × Int)} (h : ∀ x ∈ ls, wordOk x.1) : fit (n + 2) (.tup (ls.map labD)) := by
  rw [fit]
  intro d hd
  obtain ⟨x, hx, rfl⟩ := List.mem_map.mp hd
  unfold labD
  rw [fit]
  intro e he
  simp only [List.mem_cons, List.not_mem_nil, or_false] at he
  rcases he with rfl | rfl
  · exact fit_word (h x hx)
  · simp only [fit]
theorem fit_itm {n p : Nat} {i : Itm} (h : itB p i) : fit (n + 3) i.d := by
  unfold Itm.d
  rw [fit]
  intro e he
  simp only [List.mem_cons, List.not_mem_nil, or_false] at he
  rcases he with rfl | rfl | rfl
  · simp only [fit]
  · exact vec_fit _ _
  · exact fit_labs fun x hx => (h.2.2.2.1 x hx).1
theorem ne_nilT {M : Mp} {a : Addr} {xs : List D} {n : Nat} {Q : KD} (h : M a = some (.lst xs)) (hn : n ≤ 59) (hf : ∀ d ∈ xs, fit n d) (q : Q (.bl (decide (0 < xs.length))) M) : eqV true (.tok a) (.lst []) M Q := by
  have main : eqD2 true (.tok a) (.lst []) M Q := by
    have er : res M (.tok a) = .lst xs := by
      unfold res
      dsimp only
      rw [h]
    have er2 : res M (.lst []) = .lst [] := rfl
    unfold eqD2
    rw [er, er2]
    refine ⟨⟨n + 1, by omega, by rw [fit]; exact hf, by rw [fit]; exact fun d hd => nomatch hd⟩, ?_⟩
    have e : eqD (.lst xs) (.lst []) = !decide (0 < xs.length) := by
      cases xs with
      | nil => rfl
      | cons x xs =>
        show PyData.eqvAll (x.py :: pyL xs) [] = _
        simp [PyData.eqvAll]
    rw [e, Bool.not_not]
    exact q
  exact main
theorem ix_it {M : Mp} {i : Itm} {Q : KD} : (ixD i.d (.int 0) M Q ↔ Q (.int i.key) M) ∧ (ixD i.d (.int 1) M Q ↔ Q (vec i.vec) M) ∧ (ixD i.d (.int 2) M Q ↔ Q (.tup (i.labs.map labD)) M) := by
  unfold Itm.d
  exact ⟨ix_t0, ix_t1, ix_t2⟩
theorem wp__law_items : ∀ ds M Q R, F__law_items ds M Q R → W__law_items { nx := fun _ M' => Q .non M', rt := Q, xr := lx R } (startE 9 ds) M := by
  rintro ds M Q R ⟨b, t, p, m, ks, ns, rfl, hb, ht, p8, m30, k0, k20, kb, n4, nd, hw, q⟩
  unfold W__law_items
  refine seq_gen fun K hK => ?_
  simp (disch := first | assumption | decide) only [wSeq, wNext, wAsg, wgName, wIfS, wB, wOp, wVar, wC, wCall, wCallK, wCons, wNil, wRet, wRetN, wDrop, wTup, wLst, wIf, wAnd, wOr, wNot, wAndV, wOrV, wNotV, wNeg, wChain, fI, fI0, addD, fLt, fLe, fGt, fGe, fIsB, wCB, fAbs, f2I, fInt, fIsq, wPar, wPar3, permD, startE, List.map_cons, List.map_nil, List.cons_append, List.nil_append, List.append_nil, List.length_cons, List.length_nil, List.replicate, List.getElem?_cons_zero, List.getElem?_cons_succ, List.set_cons_zero, List.set_cons_succ, List.getD_cons_zero, List.getD_cons_succ, Nat.reduceAdd, Nat.reduceSub, Nat.zero_add, true_and, and_true, Bool.not_true, Bool.not_false, if_true, if_false, Bool.false_eq_true, reduceIte, decide_eq_true_eq, Bool.not_eq_true', decide_eq_false_iff_not, eqV_int, eqV_str, eqV_bl, decide_true, reduceCtorEq, not_true_eq_false, not_false_eq_true, Bool.not_eq_true, List.not_mem_nil, false_implies, implies_true, Int.reduceNeg, Int.reduceToNat, Int.reducePow, Int.reduceMul, Int.reduceAdd, draw_i, ix_t0, ix_t1, ix_t2, ix_t3, ix_m3, ix_m4, sn_ball_box, sn_cell_box, sn_cell_ball, sn_ball_cell, sn_box_ball, sn_box_cell, decide_false, wgTup, wgCons, wgNil]
  subst hK
  refine seq_gen fun K hK => ?_
  simp (disch := first | assumption | decide) only [wSeq, wNext, wAsg, wgName, wIfS, wB, wOp, wVar, wC, wCall, wCallK, wCons, wNil, wRet, wRetN, wDrop, wTup, wLst, wIf, wAnd, wOr, wNot, wAndV, wOrV, wNotV, wNeg, wChain, fI, fI0, addD, fLt, fLe, fGt, fGe, fIsB, wCB, fAbs, f2I, fInt, fIsq, wPar, wPar3, permD, startE, List.map_cons, List.map_nil, List.cons_append, List.nil_append, List.append_nil, List.length_cons, List.length_nil, List.replicate, List.getElem?_cons_zero, List.getElem?_cons_succ, List.set_cons_zero, List.set_cons_succ, List.getD_cons_zero, List.getD_cons_succ, Nat.reduceAdd, Nat.reduceSub, Nat.zero_add, true_and, and_true, Bool.not_true, Bool.not_false, if_true, if_false, Bool.false_eq_true, reduceIte, decide_eq_true_eq, Bool.not_eq_true', decide_eq_false_iff_not, eqV_int, eqV_str, eqV_bl, decide_true, reduceCtorEq, not_true_eq_false, not_false_eq_true, Bool.not_eq_true, List.not_mem_nil, false_implies, implies_true, Int.reduceNeg, Int.reduceToNat, Int.reducePow, Int.reduceMul, Int.reduceAdd, draw_i, ix_t0, ix_t1, ix_t2, ix_t3, ix_m3, ix_m4, sn_ball_box, sn_cell_box, sn_cell_ball, sn_ball_cell, sn_box_ball, sn_box_cell, decide_false, wLstM]
  refine ⟨by decide, fun a ha => ?_⟩
  have nb : b ≠ a := fun e => by
    rw [← e, hb] at ha
    cases ha
  have nt : t ≠ a := fun e => by
    rw [← e, ht] at ha
    cases ha
  subst hK
  refine seq_gen fun K hK => ?_
  refine for_gen fun B hB => ?_
  simp (disch := first | assumption | decide) only [wSeq, wNext, wAsg, wgName, wIfS, wB, wOp, wVar, wC, wCall, wCallK, wCons, wNil, wRet, wRetN, wDrop, wTup, wLst, wIf, wAnd, wOr, wNot, wAndV, wOrV, wNotV, wNeg, wChain, fI, fI0, addD, fLt, fLe, fGt, fGe, fIsB, wCB, fAbs, f2I, fInt, fIsq, wPar, wPar3, permD, startE, List.map_cons, List.map_nil, List.cons_append, List.nil_append, List.append_nil, List.length_cons, List.length_nil, List.replicate, List.getElem?_cons_zero, List.getElem?_cons_succ, List.set_cons_zero, List.set_cons_succ, List.getD_cons_zero, List.getD_cons_succ, Nat.reduceAdd, Nat.reduceSub, Nat.zero_add, true_and, and_true, Bool.not_true, Bool.not_false, if_true, if_false, Bool.false_eq_true, reduceIte, decide_eq_true_eq, Bool.not_eq_true', decide_eq_false_iff_not, eqV_int, eqV_str, eqV_bl, decide_true, reduceCtorEq, not_true_eq_false, not_false_eq_true, Bool.not_eq_true, List.not_mem_nil, false_implies, implies_true, Int.reduceNeg, Int.reduceToNat, Int.reducePow, Int.reduceMul, Int.reduceAdd, draw_i, ix_t0, ix_t1, ix_t2, ix_t3, ix_m3, ix_m4, sn_ball_box, sn_cell_box, sn_cell_ball, sn_ball_cell, sn_box_ball, sn_box_cell, decide_false, wFor, wiRange1]
  refine ⟨by omega, by omega, ?_⟩
  rw [Int.toNat_natCast]
  refine loop_ix (fun i ρ' M' => Up M M' ∧ ∃ (is : List Itm) (v4 v8 : Option D), M' a = some (.lst (is.map Itm.d)) ∧ is.length = i ∧ (∀ j ∈ is, itB p j ∧ j.key ∈ ks) ∧ ρ' = [some (.tok b), some (.tup [.int (p : Int), .tok t, .lst (ns.map .str)]), some (.int (m : Int)), some (.tok a), v4, some (.int (p : Int)), some (.tok t), some (.lst (ns.map .str)), v8]) ?_ ?_ ⟨up_new ha, [], none, none, setM_same, rfl, (by intro j hj; cases hj), rfl⟩
  · rintro i d ρ' M' hi ⟨up, is, v4, v8, hm, hl, hit, rfl⟩
    obtain ⟨li, rfl⟩ := intsD_get hi
    refine ⟨True.intro, fun K3 hK3 => ?_⟩
    simp only [wgName, List.set_cons_succ, List.set_cons_zero]
    subst hB
    refine seq_gen fun K4 hK4 => ?_
    simp (disch := first | assumption | decide) only [wSeq, wNext, wAsg, wgName, wIfS, wB, wOp, wVar, wC, wCall, wCallK, wCons, wNil, wRet, wRetN, wDrop, wTup, wLst, wIf, wAnd, wOr, wNot, wAndV, wOrV, wNotV, wNeg, wChain, fI, fI0, addD, fLt, fLe, fGt, fGe, fIsB, wCB, fAbs, f2I, fInt, fIsq, wPar, wPar3, permD, startE, List.map_cons, List.map_nil, List.cons_append, List.nil_append, List.append_nil, List.length_cons, List.length_nil, List.replicate, List.getElem?_cons_zero, List.getElem?_cons_succ, List.set_cons_zero, List.set_cons_succ, List.getD_cons_zero, List.getD_cons_succ, Nat.reduceAdd, Nat.reduceSub, Nat.zero_add, true_and, and_true, Bool.not_true, Bool.not_false, if_true, if_false, Bool.false_eq_true, reduceIte, decide_eq_true_eq, Bool.not_eq_true', decide_eq_false_iff_not, eqV_int, eqV_str, eqV_bl, decide_true, reduceCtorEq, not_true_eq_false, not_false_eq_true, Bool.not_eq_true, List.not_mem_nil, false_implies, implies_true, Int.reduceNeg, Int.reduceToNat, Int.reducePow, Int.reduceMul, Int.reduceAdd, draw_i, ix_t0, ix_t1, ix_t2, ix_t3, ix_m3, ix_m4, sn_ball_box, sn_cell_box, sn_cell_ball, sn_ball_cell, sn_box_ball, sn_box_cell, decide_false]
    refine ⟨b, p, .tok t, ks, ns, rfl, up _ _ hb, p8, seqD_up up (by show (match M t with | some (.lst ds) => some ds | _ => none) = _; rw [ht]), k0, k20, kb, n4, nd, hw, fun it M2 up2 ib ik il => ?_⟩
    have upA := up.trans up2
    have hm2 := up2 _ _ hm
    subst hK4
    refine seq_gen fun K4 hK4 => ?_
    have step : ∀ (it2 : Itm), itB p it2 ∧ it2.key ∈ ks → K4 [some (.tok b), some (.tup [.int (p : Int), .tok t, .lst (ns.map .str)]), some (.int (m : Int)), some (.tok a), some (.int (0 + (i : Int))), some (.int (p : Int)), some (.tok t), some (.lst (ns.map .str)), some it2.d] M2 := fun it2 ib2 => by
      subst hK4
      simp (disch := first | assumption | decide) only [wSeq, wNext, wAsg, wgName, wIfS, wB, wOp, wVar, wC, wCall, wCallK, wCons, wNil, wRet, wRetN, wDrop, wTup, wLst, wIf, wAnd, wOr, wNot, wAndV, wOrV, wNotV, wNeg, wChain, fI, fI0, addD, fLt, fLe, fGt, fGe, fIsB, wCB, fAbs, f2I, fInt, fIsq, wPar, wPar3, permD, startE, List.map_cons, List.map_nil, List.cons_append, List.nil_append, List.append_nil, List.length_cons, List.length_nil, List.replicate, List.getElem?_cons_zero, List.getElem?_cons_succ, List.set_cons_zero, List.set_cons_succ, List.getD_cons_zero, List.getD_cons_succ, Nat.reduceAdd, Nat.reduceSub, Nat.zero_add, true_and, and_true, Bool.not_true, Bool.not_false, if_true, if_false, Bool.false_eq_true, reduceIte, decide_eq_true_eq, Bool.not_eq_true', decide_eq_false_iff_not, eqV_int, eqV_str, eqV_bl, decide_true, reduceCtorEq, not_true_eq_false, not_false_eq_true, Bool.not_eq_true, List.not_mem_nil, false_implies, implies_true, Int.reduceNeg, Int.reduceToNat, Int.reducePow, Int.reduceMul, Int.reduceAdd, draw_i, ix_t0, ix_t1, ix_t2, ix_t3, ix_m3, ix_m4, sn_ball_box, sn_cell_box, sn_cell_ball, sn_ball_cell, sn_box_ball, sn_box_cell, decide_false, wApp]
      refine ⟨⟨_, hm2⟩, _, hm2, ?_, ?_⟩
      · rw [List.length_map]
        exact Nat.lt_of_le_of_lt (by omega : _ ≤ 30) (by decide)
      · refine hK3 _ _ ⟨fun c e hc => ?_, is ++ [it2], _, _, ?_, by rw [List.length_append, hl]; rfl, fun j hj => ?_, rfl⟩
        · rw [setM_ne (fun z => by rw [z, ha] at hc; cases hc)]
          exact upA _ _ hc
        · rw [setM_same, List.map_append]
          rfl
        · rcases List.mem_append.mp hj with hj | hj
          · exact hit j hj
          · rw [List.mem_singleton.mp hj]
            exact ib2
    simp (disch := first | assumption | decide) only [wSeq, wNext, wAsg, wgName, wIfS, wB, wOp, wVar, wC, wCall, wCallK, wCons, wNil, wRet, wRetN, wDrop, wTup, wLst, wIf, wAnd, wOr, wNot, wAndV, wOrV, wNotV, wNeg, wChain, fI, fI0, addD, fLt, fLe, fGt, fGe, fIsB, wCB, fAbs, f2I, fInt, fIsq, wPar, wPar3, permD, startE, List.map_cons, List.map_nil, List.cons_append, List.nil_append, List.append_nil, List.length_cons, List.length_nil, List.replicate, List.getElem?_cons_zero, List.getElem?_cons_succ, List.set_cons_zero, List.set_cons_succ, List.getD_cons_zero, List.getD_cons_succ, Nat.reduceAdd, Nat.reduceSub, Nat.zero_add, true_and, and_true, Bool.not_true, Bool.not_false, if_true, if_false, Bool.false_eq_true, reduceIte, decide_eq_true_eq, Bool.not_eq_true', decide_eq_false_iff_not, eqV_int, eqV_str, eqV_bl, decide_true, reduceCtorEq, not_true_eq_false, not_false_eq_true, Bool.not_eq_true, List.not_mem_nil, false_implies, implies_true, Int.reduceNeg, Int.reduceToNat, Int.reducePow, Int.reduceMul, Int.reduceAdd, draw_i, ix_t0, ix_t1, ix_t2, ix_t3, ix_m3, ix_m4, sn_ball_box, sn_cell_box, sn_cell_ball, sn_ball_cell, sn_box_ball, sn_box_cell, decide_false]
    refine ⟨by decide, ne_nilT (n := 3) hm2 (by decide) (fun d hd => ?_) ?_⟩
    · obtain ⟨j, hj, rfl⟩ := List.mem_map.mp hd
      exact fit_itm (hit j hj).1
    · rw [List.length_map]
      by_cases h0 : 0 < is.length
      · rw [decide_eq_true h0]
        simp (disch := first | assumption | decide) only [wSeq, wNext, wAsg, wgName, wIfS, wB, wOp, wVar, wC, wCall, wCallK, wCons, wNil, wRet, wRetN, wDrop, wTup, wLst, wIf, wAnd, wOr, wNot, wAndV, wOrV, wNotV, wNeg, wChain, fI, fI0, addD, fLt, fLe, fGt, fGe, fIsB, wCB, fAbs, f2I, fInt, fIsq, wPar, wPar3, permD, startE, List.map_cons, List.map_nil, List.cons_append, List.nil_append, List.append_nil, List.length_cons, List.length_nil, List.replicate, List.getElem?_cons_zero, List.getElem?_cons_succ, List.set_cons_zero, List.set_cons_succ, List.getD_cons_zero, List.getD_cons_succ, Nat.reduceAdd, Nat.reduceSub, Nat.zero_add, true_and, and_true, Bool.not_true, Bool.not_false, if_true, if_false, Bool.false_eq_true, reduceIte, decide_eq_true_eq, Bool.not_eq_true', decide_eq_false_iff_not, eqV_int, eqV_str, eqV_bl, decide_true, reduceCtorEq, not_true_eq_false, not_false_eq_true, Bool.not_eq_true, List.not_mem_nil, false_implies, implies_true, Int.reduceNeg, Int.reduceToNat, Int.reducePow, Int.reduceMul, Int.reduceAdd, draw_i, ix_t0, ix_t1, ix_t2, ix_t3, ix_m3, ix_m4, sn_ball_box, sn_cell_box, sn_cell_ball, sn_ball_cell, sn_box_ball, sn_box_cell, decide_false]
        refine (take_i (upA _ _ hb) (by decide) (by decide)).mpr fun w w0 w1 => ?_
        simp (disch := first | assumption | decide) only [wSeq, wNext, wAsg, wgName, wIfS, wB, wOp, wVar, wC, wCall, wCallK, wCons, wNil, wRet, wRetN, wDrop, wTup, wLst, wIf, wAnd, wOr, wNot, wAndV, wOrV, wNotV, wNeg, wChain, fI, fI0, addD, fLt, fLe, fGt, fGe, fIsB, wCB, fAbs, f2I, fInt, fIsq, wPar, wPar3, permD, startE, List.map_cons, List.map_nil, List.cons_append, List.nil_append, List.append_nil, List.length_cons, List.length_nil, List.replicate, List.getElem?_cons_zero, List.getElem?_cons_succ, List.set_cons_zero, List.set_cons_succ, List.getD_cons_zero, List.getD_cons_succ, Nat.reduceAdd, Nat.reduceSub, Nat.zero_add, true_and, and_true, Bool.not_true, Bool.not_false, if_true, if_false, Bool.false_eq_true, reduceIte, decide_eq_true_eq, Bool.not_eq_true', decide_eq_false_iff_not, eqV_int, eqV_str, eqV_bl, decide_true, reduceCtorEq, not_true_eq_false, not_false_eq_true, Bool.not_eq_true, List.not_mem_nil, false_implies, implies_true, Int.reduceNeg, Int.reduceToNat, Int.reducePow, Int.reduceMul, Int.reduceAdd, draw_i, ix_t0, ix_t1, ix_t2, ix_t3, ix_m3, ix_m4, sn_ball_box, sn_cell_box, sn_cell_ball, sn_ball_cell, sn_box_ball, sn_box_cell, decide_false]
        split
        · refine ix_it.1.mpr ?_
          refine pickb (upA _ _ hb) (by show (match M2 a with | some (.lst ds) => some ds | _ => none) = _; rw [hm2]) (by rw [List.length_map]; exact h0) (by rw [List.length_map]; omega) fun x hx => ?_
          obtain ⟨j, hj, rfl⟩ := List.mem_map.mp hx
          refine ix_it.2.1.mpr (ix_it.2.2.mpr ⟨by decide, ?_⟩)
          exact step ⟨it.key, j.vec, it.labs⟩ ⟨⟨(hit j hj).1.1, ib.2⟩, ik⟩
        · exact step it ⟨ib, ik⟩
      · rw [decide_eq_false h0]
        exact step it ⟨ib, ik⟩
  · rintro ρ' M' ⟨up, is, v4, v8, hm, hl, hit, rfl⟩
    rw [intsD_len] at hl
    refine ⟨True.intro, ?_⟩
    show K _ _
    subst hK
    simp (disch := first | assumption | decide) only [wSeq, wNext, wAsg, wgName, wIfS, wB, wOp, wVar, wC, wCall, wCallK, wCons, wNil, wRet, wRetN, wDrop, wTup, wLst, wIf, wAnd, wOr, wNot, wAndV, wOrV, wNotV, wNeg, wChain, fI, fI0, addD, fLt, fLe, fGt, fGe, fIsB, wCB, fAbs, f2I, fInt, fIsq, wPar, wPar3, permD, startE, List.map_cons, List.map_nil, List.cons_append, List.nil_append, List.append_nil, List.length_cons, List.length_nil, List.replicate, List.getElem?_cons_zero, List.getElem?_cons_succ, List.set_cons_zero, List.set_cons_succ, List.getD_cons_zero, List.getD_cons_succ, Nat.reduceAdd, Nat.reduceSub, Nat.zero_add, true_and, and_true, Bool.not_true, Bool.not_false, if_true, if_false, Bool.false_eq_true, reduceIte, decide_eq_true_eq, Bool.not_eq_true', decide_eq_false_iff_not, eqV_int, eqV_str, eqV_bl, decide_true, reduceCtorEq, not_true_eq_false, not_false_eq_true, Bool.not_eq_true, List.not_mem_nil, false_implies, implies_true, Int.reduceNeg, Int.reduceToNat, Int.reducePow, Int.reduceMul, Int.reduceAdd, draw_i, ix_t0, ix_t1, ix_t2, ix_t3, ix_m3, ix_m4, sn_ball_box, sn_cell_box, sn_cell_ball, sn_ball_cell, sn_box_ball, sn_box_cell, decide_false]
    exact q a is M' up ha hm hl hit
end K16
namespace K16
open PySem L2 L3
theorem dd_ix0 {M : Mp} {d : Dd} {Q : KD} : ixD d.d (.int 0) M Q ↔ Q (.str (match d with | .take _ => "take" | .put _ => "put")) M := by
  cases d with
  | take k => exact ix_t0
  | put i => exact ix_t0
theorem dd_ix1 {M : Mp} {d : Dd} {Q : KD} : ixD d.d (.int 1) M Q ↔ Q (match d with | .take k => .int k | .put i => i.d) M := by
  cases d with
  | take k => exact ix_t1
  | put i => exact ix_t1
theorem put_take : ((("take" : Str) = "put") = False) := eq_false (by decide +kernel)
theorem take_put : ((("put" : Str) = "take") = False) := eq_false (by decide +kernel)
theorem wp_deed_key : ∀ ds M Q R, F_deed_key ds M Q R → W_deed_key { nx := fun _ M' => Q .non M', rt := Q, xr := lx R } (startE 1 ds) M := by
  rintro ds M Q R ⟨d, rfl, q⟩
  unfold W_deed_key
  simp (disch := first | assumption | decide) only [wSeq, wNext, wAsg, wgName, wIfS, wB, wOp, wVar, wC, wCall, wCallK, wCons, wNil, wRet, wRetN, wDrop, wTup, wLst, wIf, wAnd, wOr, wNot, wAndV, wOrV, wNotV, wNeg, wChain, fI, fI0, addD, fLt, fLe, fGt, fGe, fIsB, wCB, fAbs, f2I, fInt, fIsq, wPar, wPar3, permD, startE, List.map_cons, List.map_nil, List.cons_append, List.nil_append, List.append_nil, List.length_cons, List.length_nil, List.replicate, List.getElem?_cons_zero, List.getElem?_cons_succ, List.set_cons_zero, List.set_cons_succ, List.getD_cons_zero, List.getD_cons_succ, Nat.reduceAdd, Nat.reduceSub, Nat.zero_add, true_and, and_true, Bool.not_true, Bool.not_false, if_true, if_false, Bool.false_eq_true, reduceIte, decide_eq_true_eq, Bool.not_eq_true', decide_eq_false_iff_not, eqV_int, eqV_str, eqV_bl, decide_true, reduceCtorEq, not_true_eq_false, not_false_eq_true, Bool.not_eq_true, List.not_mem_nil, false_implies, implies_true, Int.reduceNeg, Int.reduceToNat, Int.reducePow, Int.reduceMul, Int.reduceAdd, draw_i, ix_t0, ix_t1, ix_t2, ix_t3, ix_m3, ix_m4, sn_ball_box, sn_cell_box, sn_cell_ball, sn_ball_cell, sn_box_ball, sn_box_cell, decide_false]
  refine dd_ix0.mpr ?_
  cases d with
  | take k =>
    simp (disch := first | assumption | decide) only [wSeq, wNext, wAsg, wgName, wIfS, wB, wOp, wVar, wC, wCall, wCallK, wCons, wNil, wRet, wRetN, wDrop, wTup, wLst, wIf, wAnd, wOr, wNot, wAndV, wOrV, wNotV, wNeg, wChain, fI, fI0, addD, fLt, fLe, fGt, fGe, fIsB, wCB, fAbs, f2I, fInt, fIsq, wPar, wPar3, permD, startE, List.map_cons, List.map_nil, List.cons_append, List.nil_append, List.append_nil, List.length_cons, List.length_nil, List.replicate, List.getElem?_cons_zero, List.getElem?_cons_succ, List.set_cons_zero, List.set_cons_succ, List.getD_cons_zero, List.getD_cons_succ, Nat.reduceAdd, Nat.reduceSub, Nat.zero_add, true_and, and_true, Bool.not_true, Bool.not_false, if_true, if_false, Bool.false_eq_true, reduceIte, decide_eq_true_eq, Bool.not_eq_true', decide_eq_false_iff_not, eqV_int, eqV_str, eqV_bl, decide_true, reduceCtorEq, not_true_eq_false, not_false_eq_true, Bool.not_eq_true, List.not_mem_nil, false_implies, implies_true, Int.reduceNeg, Int.reduceToNat, Int.reducePow, Int.reduceMul, Int.reduceAdd, draw_i, ix_t0, ix_t1, ix_t2, ix_t3, ix_m3, ix_m4, sn_ball_box, sn_cell_box, sn_cell_ball, sn_ball_cell, sn_box_ball, sn_box_cell, decide_false]
    exact dd_ix1.mpr q
  | put i =>
    simp (disch := first | assumption | decide) only [wSeq, wNext, wAsg, wgName, wIfS, wB, wOp, wVar, wC, wCall, wCallK, wCons, wNil, wRet, wRetN, wDrop, wTup, wLst, wIf, wAnd, wOr, wNot, wAndV, wOrV, wNotV, wNeg, wChain, fI, fI0, addD, fLt, fLe, fGt, fGe, fIsB, wCB, fAbs, f2I, fInt, fIsq, wPar, wPar3, permD, startE, List.map_cons, List.map_nil, List.cons_append, List.nil_append, List.append_nil, List.length_cons, List.length_nil, List.replicate, List.getElem?_cons_zero, List.getElem?_cons_succ, List.set_cons_zero, List.set_cons_succ, List.getD_cons_zero, List.getD_cons_succ, Nat.reduceAdd, Nat.reduceSub, Nat.zero_add, true_and, and_true, Bool.not_true, Bool.not_false, if_true, if_false, Bool.false_eq_true, reduceIte, decide_eq_true_eq, Bool.not_eq_true', decide_eq_false_iff_not, eqV_int, eqV_str, eqV_bl, decide_true, reduceCtorEq, not_true_eq_false, not_false_eq_true, Bool.not_eq_true, List.not_mem_nil, false_implies, implies_true, Int.reduceNeg, Int.reduceToNat, Int.reducePow, Int.reduceMul, Int.reduceAdd, draw_i, ix_t0, ix_t1, ix_t2, ix_t3, ix_m3, ix_m4, sn_ball_box, sn_cell_box, sn_cell_ball, sn_ball_cell, sn_box_ball, sn_box_cell, decide_false, take_put]
    exact dd_ix1.mpr (ix_it.1.mpr q)
theorem dic_put {M : Mp} {t : Addr} {k : Key} {v : D} {kd : List (Key × D)} {Q : Mp → Prop} {y : D} (h : M t = some (.dic none kd)) (hk : dKey y = some k) (hl : kd.length ≤ 1000) (q : Q (setM M t (.dic none (putD kd k v)))) : fDPut (.tok t) y v M Q := by
  unfold fDPut
  dsimp only
  rw [h, hk]
  exact ⟨Nat.lt_of_le_of_lt hl (by decide), q⟩
theorem drop_st (st : List Itm) (k : Int) : dropD (stD st) (.inl k) = stD (lessS st k) := by
  unfold dropD stD lessS
  rw [List.filter_map]
  congr 1
  refine List.filter_congr fun i _ => ?_
  show decide ((Sum.inl i.key : Key) ≠ .inl k) = decide (i.key ≠ k)
  rw [Bool.eq_iff_iff, decide_eq_true_eq, decide_eq_true_eq]
  exact ⟨fun h e => h (by rw [e]), fun h e => h (Sum.inl.inj e)⟩
theorem st_some {st : List Itm} {k : Int} : (valD (stD st) (.inl k)).isSome = decide (k ∈ keysS st) := by
  by_cases h : k ∈ keysS st
  · rw [decide_eq_true h]
    cases z : valD (stD st) (.inl k) with
    | some _ => rfl
    | none =>
      exfalso
      obtain ⟨i, hi, e⟩ := List.mem_map.mp h
      unfold valD at z
      cases w : (stD st).find? (fun p => decide (p.1 = (.inl k : Key))) with
      | some p =>
        rw [w] at z
        cases z
      | none =>
        rw [List.find?_eq_none] at w
        exact w (.inl i.key, i.d) (List.mem_map.mpr ⟨i, hi, rfl⟩) (decide_eq_true (by show (Sum.inl i.key : Key) = .inl k; rw [e]))
  · rw [decide_eq_false h, st_none h]
    rfl
theorem st_len (st : List Itm) : (stD st).length = st.length := List.length_map _
theorem wp_done_all : ∀ ds M Q R, F_done_all ds M Q R → W_done_all { nx := fun _ M' => Q .non M', rt := Q, xr := lx R } (startE 5 ds) M := by
  rintro ds M Q R ⟨e, st, dd, rfl, he, nd, hl, q⟩
  unfold W_done_all
  refine seq_gen fun K hK => ?_
  simp (disch := first | assumption | decide) only [wSeq, wNext, wAsg, wgName, wIfS, wB, wOp, wVar, wC, wCall, wCallK, wCons, wNil, wRet, wRetN, wDrop, wTup, wLst, wIf, wAnd, wOr, wNot, wAndV, wOrV, wNotV, wNeg, wChain, fI, fI0, addD, fLt, fLe, fGt, fGe, fIsB, wCB, fAbs, f2I, fInt, fIsq, wPar, wPar3, permD, startE, List.map_cons, List.map_nil, List.cons_append, List.nil_append, List.append_nil, List.length_cons, List.length_nil, List.replicate, List.getElem?_cons_zero, List.getElem?_cons_succ, List.set_cons_zero, List.set_cons_succ, List.getD_cons_zero, List.getD_cons_succ, Nat.reduceAdd, Nat.reduceSub, Nat.zero_add, true_and, and_true, Bool.not_true, Bool.not_false, if_true, if_false, Bool.false_eq_true, reduceIte, decide_eq_true_eq, Bool.not_eq_true', decide_eq_false_iff_not, eqV_int, eqV_str, eqV_bl, decide_true, reduceCtorEq, not_true_eq_false, not_false_eq_true, Bool.not_eq_true, List.not_mem_nil, false_implies, implies_true, Int.reduceNeg, Int.reduceToNat, Int.reducePow, Int.reduceMul, Int.reduceAdd, draw_i, ix_t0, ix_t1, ix_t2, ix_t3, ix_m3, ix_m4, sn_ball_box, sn_cell_box, sn_cell_ball, sn_ball_cell, sn_box_ball, sn_box_cell, decide_false, fDictA]
  rw [he]
  dsimp only
  intro t ht
  subst hK
  refine seq_gen fun K hK => ?_
  refine for_gen fun B hB => ?_
  simp (disch := first | assumption | decide) only [wSeq, wNext, wAsg, wgName, wIfS, wB, wOp, wVar, wC, wCall, wCallK, wCons, wNil, wRet, wRetN, wDrop, wTup, wLst, wIf, wAnd, wOr, wNot, wAndV, wOrV, wNotV, wNeg, wChain, fI, fI0, addD, fLt, fLe, fGt, fGe, fIsB, wCB, fAbs, f2I, fInt, fIsq, wPar, wPar3, permD, startE, List.map_cons, List.map_nil, List.cons_append, List.nil_append, List.append_nil, List.length_cons, List.length_nil, List.replicate, List.getElem?_cons_zero, List.getElem?_cons_succ, List.set_cons_zero, List.set_cons_succ, List.getD_cons_zero, List.getD_cons_succ, Nat.reduceAdd, Nat.reduceSub, Nat.zero_add, true_and, and_true, Bool.not_true, Bool.not_false, if_true, if_false, Bool.false_eq_true, reduceIte, decide_eq_true_eq, Bool.not_eq_true', decide_eq_false_iff_not, eqV_int, eqV_str, eqV_bl, decide_true, reduceCtorEq, not_true_eq_false, not_false_eq_true, Bool.not_eq_true, List.not_mem_nil, false_implies, implies_true, Int.reduceNeg, Int.reduceToNat, Int.reducePow, Int.reduceMul, Int.reduceAdd, draw_i, ix_t0, ix_t1, ix_t2, ix_t3, ix_m3, ix_m4, sn_ball_box, sn_cell_box, sn_cell_ball, sn_ball_cell, sn_box_ball, sn_box_cell, decide_false, wFor, wiSeq]
  refine loop_map Dd.d dd (fun n ρ' M' => Up M M' ∧ M' t = some (.dic none (stD ((dd.take n).foldl doneP st))) ∧ ∃ v3 v4, ρ' = [some e, some (.tup (dd.map Dd.d)), some (.tok t), v3, v4]) (fun n d ρ' M' hd hn hP => ?_) (fun ρ' M' hP => ?_) ⟨up_new ht, setM_same, none, none, rfl⟩
  · obtain ⟨up, hm, v3, v4, rfl⟩ := hP
    refine ⟨True.intro, fun K3 hK3 => ?_⟩
    simp only [wgName, List.set_cons_succ, List.set_cons_zero]
    have fl := (fold_P (dd.take n) st nd).2
    have e2 : (dd.take (n + 1)).foldl doneP st = doneP ((dd.take n).foldl doneP st) d := by
      rw [List.take_add_one, hd, List.foldl_append]
      rfl
    have up2 : ∀ c, Up M (setM M' t c) := fun c b x hb => by
      rw [setM_ne (fun z => by rw [z, ht] at hb; cases hb)]
      exact up b x hb
    rw [List.length_take] at fl
    generalize (dd.take n).foldl doneP st = s0 at hm e2 fl
    subst hB
    refine seq_gen fun K4 hK4 => ?_
    simp (disch := first | assumption | decide) only [wSeq, wNext, wAsg, wgName, wIfS, wB, wOp, wVar, wC, wCall, wCallK, wCons, wNil, wRet, wRetN, wDrop, wTup, wLst, wIf, wAnd, wOr, wNot, wAndV, wOrV, wNotV, wNeg, wChain, fI, fI0, addD, fLt, fLe, fGt, fGe, fIsB, wCB, fAbs, f2I, fInt, fIsq, wPar, wPar3, permD, startE, List.map_cons, List.map_nil, List.cons_append, List.nil_append, List.append_nil, List.length_cons, List.length_nil, List.replicate, List.getElem?_cons_zero, List.getElem?_cons_succ, List.set_cons_zero, List.set_cons_succ, List.getD_cons_zero, List.getD_cons_succ, Nat.reduceAdd, Nat.reduceSub, Nat.zero_add, true_and, and_true, Bool.not_true, Bool.not_false, if_true, if_false, Bool.false_eq_true, reduceIte, decide_eq_true_eq, Bool.not_eq_true', decide_eq_false_iff_not, eqV_int, eqV_str, eqV_bl, decide_true, reduceCtorEq, not_true_eq_false, not_false_eq_true, Bool.not_eq_true, List.not_mem_nil, false_implies, implies_true, Int.reduceNeg, Int.reduceToNat, Int.reducePow, Int.reduceMul, Int.reduceAdd, draw_i, ix_t0, ix_t1, ix_t2, ix_t3, ix_m3, ix_m4, sn_ball_box, sn_cell_box, sn_cell_ball, sn_ball_cell, sn_box_ball, sn_box_cell, decide_false]
    refine ⟨d, rfl, ?_⟩
    subst hK4
    simp (disch := first | assumption | decide) only [wSeq, wNext, wAsg, wgName, wIfS, wB, wOp, wVar, wC, wCall, wCallK, wCons, wNil, wRet, wRetN, wDrop, wTup, wLst, wIf, wAnd, wOr, wNot, wAndV, wOrV, wNotV, wNeg, wChain, fI, fI0, addD, fLt, fLe, fGt, fGe, fIsB, wCB, fAbs, f2I, fInt, fIsq, wPar, wPar3, permD, startE, List.map_cons, List.map_nil, List.cons_append, List.nil_append, List.append_nil, List.length_cons, List.length_nil, List.replicate, List.getElem?_cons_zero, List.getElem?_cons_succ, List.set_cons_zero, List.set_cons_succ, List.getD_cons_zero, List.getD_cons_succ, Nat.reduceAdd, Nat.reduceSub, Nat.zero_add, true_and, and_true, Bool.not_true, Bool.not_false, if_true, if_false, Bool.false_eq_true, reduceIte, decide_eq_true_eq, Bool.not_eq_true', decide_eq_false_iff_not, eqV_int, eqV_str, eqV_bl, decide_true, reduceCtorEq, not_true_eq_false, not_false_eq_true, Bool.not_eq_true, List.not_mem_nil, false_implies, implies_true, Int.reduceNeg, Int.reduceToNat, Int.reducePow, Int.reduceMul, Int.reduceAdd, draw_i, ix_t0, ix_t1, ix_t2, ix_t3, ix_m3, ix_m4, sn_ball_box, sn_cell_box, sn_cell_ball, sn_ball_cell, sn_box_ball, sn_box_cell, decide_false]
    refine dd_ix0.mpr ?_
    cases d with
    | put i =>
      simp (disch := first | assumption | decide) only [wSeq, wNext, wAsg, wgName, wIfS, wB, wOp, wVar, wC, wCall, wCallK, wCons, wNil, wRet, wRetN, wDrop, wTup, wLst, wIf, wAnd, wOr, wNot, wAndV, wOrV, wNotV, wNeg, wChain, fI, fI0, addD, fLt, fLe, fGt, fGe, fIsB, wCB, fAbs, f2I, fInt, fIsq, wPar, wPar3, permD, startE, List.map_cons, List.map_nil, List.cons_append, List.nil_append, List.append_nil, List.length_cons, List.length_nil, List.replicate, List.getElem?_cons_zero, List.getElem?_cons_succ, List.set_cons_zero, List.set_cons_succ, List.getD_cons_zero, List.getD_cons_succ, Nat.reduceAdd, Nat.reduceSub, Nat.zero_add, true_and, and_true, Bool.not_true, Bool.not_false, if_true, if_false, Bool.false_eq_true, reduceIte, decide_eq_true_eq, Bool.not_eq_true', decide_eq_false_iff_not, eqV_int, eqV_str, eqV_bl, decide_true, reduceCtorEq, not_true_eq_false, not_false_eq_true, Bool.not_eq_true, List.not_mem_nil, false_implies, implies_true, Int.reduceNeg, Int.reduceToNat, Int.reducePow, Int.reduceMul, Int.reduceAdd, draw_i, ix_t0, ix_t1, ix_t2, ix_t3, ix_m3, ix_m4, sn_ball_box, sn_cell_box, sn_cell_ball, sn_ball_cell, sn_box_ball, sn_box_cell, decide_false, wDPut]
      refine dd_ix1.mpr ?_
      refine dic_put hm rfl (by rw [st_len]; omega) ?_
      have e3 : putD (stD s0) (.inl i.key) i.d = stD (putS s0 i) := st_put s0 i
      refine hK3 _ _ ⟨up2 _, ?_, _, _, rfl⟩
      rw [setM_same, e2]
      exact congrArg (fun z => some (Cell.dic none z)) e3
    | take k =>
      simp (disch := first | assumption | decide) only [wSeq, wNext, wAsg, wgName, wIfS, wB, wOp, wVar, wC, wCall, wCallK, wCons, wNil, wRet, wRetN, wDrop, wTup, wLst, wIf, wAnd, wOr, wNot, wAndV, wOrV, wNotV, wNeg, wChain, fI, fI0, addD, fLt, fLe, fGt, fGe, fIsB, wCB, fAbs, f2I, fInt, fIsq, wPar, wPar3, permD, startE, List.map_cons, List.map_nil, List.cons_append, List.nil_append, List.append_nil, List.length_cons, List.length_nil, List.replicate, List.getElem?_cons_zero, List.getElem?_cons_succ, List.set_cons_zero, List.set_cons_succ, List.getD_cons_zero, List.getD_cons_succ, Nat.reduceAdd, Nat.reduceSub, Nat.zero_add, true_and, and_true, Bool.not_true, Bool.not_false, if_true, if_false, Bool.false_eq_true, reduceIte, decide_eq_true_eq, Bool.not_eq_true', decide_eq_false_iff_not, eqV_int, eqV_str, eqV_bl, decide_true, reduceCtorEq, not_true_eq_false, not_false_eq_true, Bool.not_eq_true, List.not_mem_nil, false_implies, implies_true, Int.reduceNeg, Int.reduceToNat, Int.reducePow, Int.reduceMul, Int.reduceAdd, draw_i, ix_t0, ix_t1, ix_t2, ix_t3, ix_m3, ix_m4, sn_ball_box, sn_cell_box, sn_cell_ball, sn_ball_cell, sn_box_ball, sn_box_cell, decide_false, put_take, fDIn, dKey, wDDel, fDDel]
      rw [dic_at hm]
      simp (disch := first | assumption | decide) only [wSeq, wNext, wAsg, wgName, wIfS, wB, wOp, wVar, wC, wCall, wCallK, wCons, wNil, wRet, wRetN, wDrop, wTup, wLst, wIf, wAnd, wOr, wNot, wAndV, wOrV, wNotV, wNeg, wChain, fI, fI0, addD, fLt, fLe, fGt, fGe, fIsB, wCB, fAbs, f2I, fInt, fIsq, wPar, wPar3, permD, startE, List.map_cons, List.map_nil, List.cons_append, List.nil_append, List.append_nil, List.length_cons, List.length_nil, List.replicate, List.getElem?_cons_zero, List.getElem?_cons_succ, List.set_cons_zero, List.set_cons_succ, List.getD_cons_zero, List.getD_cons_succ, Nat.reduceAdd, Nat.reduceSub, Nat.zero_add, true_and, and_true, Bool.not_true, Bool.not_false, if_true, if_false, Bool.false_eq_true, reduceIte, decide_eq_true_eq, Bool.not_eq_true', decide_eq_false_iff_not, eqV_int, eqV_str, eqV_bl, decide_true, reduceCtorEq, not_true_eq_false, not_false_eq_true, Bool.not_eq_true, List.not_mem_nil, false_implies, implies_true, Int.reduceNeg, Int.reduceToNat, Int.reducePow, Int.reduceMul, Int.reduceAdd, draw_i, ix_t0, ix_t1, ix_t2, ix_t3, ix_m3, ix_m4, sn_ball_box, sn_cell_box, sn_cell_ball, sn_ball_cell, sn_box_ball, sn_box_cell, decide_false, st_some, hm]
      show if k ∈ keysS s0 then _ else _
      by_cases hk : k ∈ keysS s0
      · rw [if_pos hk]
        refine ⟨hk, ?_⟩
        rw [drop_st]
        refine hK3 _ _ ⟨up2 _, ?_, _, _, rfl⟩
        rw [setM_same, e2]
        rfl
      · rw [if_neg hk]
        refine hK3 _ _ ⟨up, ?_, _, _, rfl⟩
        rw [hm, e2]
        show _ = some (Cell.dic none (stD (lessS s0 k)))
        rw [less_same hk]
  · obtain ⟨up, hm, v3, v4, rfl⟩ := hP
    rw [List.take_length] at hm
    refine ⟨True.intro, ?_⟩
    show K _ _
    subst hK
    simp (disch := first | assumption | decide) only [wSeq, wNext, wAsg, wgName, wIfS, wB, wOp, wVar, wC, wCall, wCallK, wCons, wNil, wRet, wRetN, wDrop, wTup, wLst, wIf, wAnd, wOr, wNot, wAndV, wOrV, wNotV, wNeg, wChain, fI, fI0, addD, fLt, fLe, fGt, fGe, fIsB, wCB, fAbs, f2I, fInt, fIsq, wPar, wPar3, permD, startE, List.map_cons, List.map_nil, List.cons_append, List.nil_append, List.append_nil, List.length_cons, List.length_nil, List.replicate, List.getElem?_cons_zero, List.getElem?_cons_succ, List.set_cons_zero, List.set_cons_succ, List.getD_cons_zero, List.getD_cons_succ, Nat.reduceAdd, Nat.reduceSub, Nat.zero_add, true_and, and_true, Bool.not_true, Bool.not_false, if_true, if_false, Bool.false_eq_true, reduceIte, decide_eq_true_eq, Bool.not_eq_true', decide_eq_false_iff_not, eqV_int, eqV_str, eqV_bl, decide_true, reduceCtorEq, not_true_eq_false, not_false_eq_true, Bool.not_eq_true, List.not_mem_nil, false_implies, implies_true, Int.reduceNeg, Int.reduceToNat, Int.reducePow, Int.reduceMul, Int.reduceAdd, draw_i, ix_t0, ix_t1, ix_t2, ix_t3, ix_m3, ix_m4, sn_ball_box, sn_cell_box, sn_cell_ball, sn_ball_cell, sn_box_ball, sn_box_cell, decide_false]
    exact q t M' up ht hm
theorem wp_done : ∀ ds M Q R, F_done ds M Q R → W_done { nx := fun _ M' => Q .non M', rt := Q, xr := lx R } (startE 2 ds) M := by
  rintro ds M Q R ⟨e, st, d, rfl, he, nd, hl, q⟩
  unfold W_done
  simp (disch := first | assumption | decide) only [wSeq, wNext, wAsg, wgName, wIfS, wB, wOp, wVar, wC, wCall, wCallK, wCons, wNil, wRet, wRetN, wDrop, wTup, wLst, wIf, wAnd, wOr, wNot, wAndV, wOrV, wNotV, wNeg, wChain, fI, fI0, addD, fLt, fLe, fGt, fGe, fIsB, wCB, fAbs, f2I, fInt, fIsq, wPar, wPar3, permD, startE, List.map_cons, List.map_nil, List.cons_append, List.nil_append, List.append_nil, List.length_cons, List.length_nil, List.replicate, List.getElem?_cons_zero, List.getElem?_cons_succ, List.set_cons_zero, List.set_cons_succ, List.getD_cons_zero, List.getD_cons_succ, Nat.reduceAdd, Nat.reduceSub, Nat.zero_add, true_and, and_true, Bool.not_true, Bool.not_false, if_true, if_false, Bool.false_eq_true, reduceIte, decide_eq_true_eq, Bool.not_eq_true', decide_eq_false_iff_not, eqV_int, eqV_str, eqV_bl, decide_true, reduceCtorEq, not_true_eq_false, not_false_eq_true, Bool.not_eq_true, List.not_mem_nil, false_implies, implies_true, Int.reduceNeg, Int.reduceToNat, Int.reducePow, Int.reduceMul, Int.reduceAdd, draw_i, ix_t0, ix_t1, ix_t2, ix_t3, ix_m3, ix_m4, sn_ball_box, sn_cell_box, sn_cell_ball, sn_ball_cell, sn_box_ball, sn_box_cell, decide_false]
  exact ⟨by decide, e, st, [d], rfl, he, nd, by simp only [List.length_cons, List.length_nil]; omega, q⟩
end K16
namespace K16
open PySem L2 L3
/-! dicts of things by whole numbers -/
def kD {α : Type} (f : α → Int) (g : α → D) (l : List α) : List (Key × D) := l.map fun a => ((.inl (f a) : Key), g a)
def putA {α : Type} (f : α → Int) (l : List α) (a : α) : List α := if f a ∈ l.map f then l.map (fun b => if f b = f a then a else b) else l ++ [a]
theorem kD_any {α : Type} (f : α → Int) (g : α → D) (l : List α) (k : Int) : ((kD f g l).any fun p => decide (p.1 = (.inl k : Key))) = decide (k ∈ l.map f) := by
  rw [Bool.eq_iff_iff, List.any_eq_true, decide_eq_true_eq]
  constructor
  · rintro ⟨p, hp, h⟩
    obtain ⟨i, hi, rfl⟩ := List.mem_map.mp hp
    have h : (Sum.inl (f i) : Key) = .inl k := of_decide_eq_true h
    cases h
    exact List.mem_map_of_mem hi
  · intro h
    obtain ⟨i, hi, rfl⟩ := List.mem_map.mp h
    exact ⟨_, List.mem_map_of_mem hi, decide_eq_true rfl⟩
theorem kD_put {α : Type} (f : α → Int) (g : α → D) (l : List α) (a : α) : putD (kD f g l) (.inl (f a)) (g a) = kD f g (putA f l a) := by
  unfold putD putA
  rw [kD_any]
  by_cases h : f a ∈ l.map f
  · rw [if_pos (decide_eq_true h), if_pos h]
    unfold kD
    rw [List.map_map, List.map_map]
    refine List.map_congr_left fun b _ => ?_
    show (if (Sum.inl (f b) : Key) = .inl (f a) then ((Sum.inl (f b) : Key), g a) else (Sum.inl (f b), g b)) = ((Sum.inl (f (if f b = f a then a else b)) : Key), g (if f b = f a then a else b))
    by_cases e : f b = f a
    · rw [if_pos (by rw [e]), if_pos e, e]
    · rw [if_neg (fun z => e (Sum.inl.inj z)), if_neg e]
  · rw [if_neg (by rw [decide_eq_false h]; exact Bool.false_ne_true), if_neg h]
    unfold kD
    rw [List.map_append]
    rfl
theorem kD_val {α : Type} {f : α → Int} {g : α → D} {l : List α} {a : α} (nd : (l.map f).Nodup) (ha : a ∈ l) : valD (kD f g l) (.inl (f a)) = some (g a) := by
  induction l with
  | nil => cases ha
  | cons b l ih =>
    obtain ⟨n1, n2⟩ := List.nodup_cons.mp nd
    unfold valD kD
    rw [List.map_cons, List.find?_cons]
    by_cases e : f b = f a
    · rw [show decide (((Sum.inl (f b) : Key), g b).1 = .inl (f a)) = true from decide_eq_true (by rw [e])]
      rcases List.mem_cons.mp ha with rfl | ha
      · rfl
      · exact absurd (e ▸ List.mem_map_of_mem ha) n1
    · rw [show decide (((Sum.inl (f b) : Key), g b).1 = .inl (f a)) = false from decide_eq_false fun z => e (Sum.inl.inj z)]
      rcases List.mem_cons.mp ha with rfl | ha
      · exact absurd rfl e
      · exact ih n2 ha
theorem mem_putA {α : Type} {f : α → Int} {l : List α} {a b : α} : b ∈ putA f l a ↔ b = a ∨ (b ∈ l ∧ f b ≠ f a) := by
  unfold putA
  by_cases hk : f a ∈ l.map f
  · rw [if_pos hk, List.mem_map]
    constructor
    · rintro ⟨x, hx, e⟩
      by_cases h : f x = f a
      · rw [if_pos h] at e
        exact .inl e.symm
      · rw [if_neg h] at e
        subst e
        exact .inr ⟨hx, h⟩
    · rintro (rfl | ⟨h1, h2⟩)
      · obtain ⟨x, hx, e⟩ := List.mem_map.mp hk
        exact ⟨x, hx, if_pos e⟩
      · exact ⟨b, h1, if_neg h2⟩
  · rw [if_neg hk, List.mem_append, List.mem_singleton]
    constructor
    · rintro (h | rfl)
      · exact .inr ⟨h, fun e => hk (e ▸ List.mem_map_of_mem h)⟩
      · exact .inl rfl
    · rintro (rfl | h)
      · exact .inr rfl
      · exact .inl h.1
theorem putA_nodup {α : Type} {f : α → Int} {l : List α} {a : α} (h : (l.map f).Nodup) : ((putA f l a).map f).Nodup := by
  unfold putA
  split
  · have e : (l.map fun b => if f b = f a then a else b).map f = l.map f := by
      rw [List.map_map]
      refine List.map_congr_left fun b _ => ?_
      show f (if f b = f a then a else b) = f b
      split
      · rename_i e
        exact e.symm
      · rfl
    rw [e]
    exact h
  · rename_i e
    rw [List.map_append]
    refine List.nodup_append.mpr ⟨h, by simp, fun x hx y hy => ?_⟩
    have hy : y = f a := by simpa using hy
    rw [hy]
    exact fun z => e (z ▸ hx)
theorem putA_len {α : Type} {f : α → Int} {l : List α} {a : α} : (putA f l a).length ≤ l.length + 1 := by
  unfold putA
  split
  · rw [List.length_map]
    omega
  · rw [List.length_append]
    exact Nat.le_refl _
theorem foldA_ok {α : Type} {f : α → Int} : ∀ (xs l : List α), (l.map f).Nodup → ((xs.foldl (putA f) l).map f).Nodup ∧ (xs.foldl (putA f) l).length ≤ l.length + xs.length
  | [], l, h => ⟨h, Nat.le_refl _⟩
  | x :: xs, l, h => by
    have z := foldA_ok xs (putA f l x) (putA_nodup h)
    have := putA_len (f := f) (l := l) (a := x)
    rw [List.foldl_cons, List.length_cons]
    exact ⟨z.1, by omega⟩
theorem putD_len (kd : List (Key × D)) (k : Key) (d : D) : (putD kd k d).length ≤ kd.length + 1 := by
  unfold putD
  split
  · rw [List.length_map]
    omega
  · rw [List.length_append]
    exact Nat.le_refl _
/-- a dict's comprehension -/
theorem dc_map {α : Type} {g : WG} {wk wv : WE} {Ok : Mp → Prop} {ρ : En} {M : Mp} {Q : KD} (fa : α → D) (k : α → Key) (v : α → D) (ok : Ok M) : ∀ (xs : List α) (acc : List (Key × D)), acc.length + xs.length ≤ 1000000 →
    (∀ a ∈ xs, ∀ K : D → D → Mp → Prop, K (keyD (k a)) (v a) M → g (fa a) ρ M fun ρ1 M1 => wk ρ1 M1 fun y M3 => wv ρ1 M3 fun z M4 => K y z M4) →
    (∀ p, M p = none → Q (.tok p) (setM M p (.dic none (xs.foldl (fun acc a => putD acc (k a) (v a)) acc)))) → wDcL g wYes wk wv Ok ρ (xs.map fa) acc M Q
  | [], acc, _, _, q => ⟨ok, q⟩
  | a :: xs, acc, hl, hs, q => by
    rw [List.length_cons] at hl
    refine ⟨ok, Nat.lt_of_lt_of_le (by omega : acc.length < 1000000) (by decide), ?_⟩
    have z := hs a List.mem_cons_self (fun y z M4 => match dKey y with | some kk => wDcL g wYes wk wv Ok ρ (xs.map fa) (putD acc kk z) M4 Q | none => False) (by
      rw [dKey_key]
      exact dc_map fa k v ok xs (putD acc (k a) (v a)) (by have := putD_len acc (k a) (v a); omega) (fun b hb => hs b (List.mem_cons_of_mem _ hb)) q)
    exact z
theorem foldA_kD {α : Type} (f : α → Int) (g : α → D) : ∀ (xs l : List α), xs.foldl (fun acc a => putD acc (.inl (f a)) (g a)) (kD f g l) = kD f g (xs.foldl (putA f) l)
  | [], _ => rfl
  | x :: xs, l => by
    rw [List.foldl_cons, List.foldl_cons, kD_put, foldA_kD f g xs]
theorem wp_state_of : ∀ ds M Q R, F_state_of ds M Q R → W_state_of { nx := fun _ M' => Q .non M', rt := Q, xr := lx R } (startE 2 ds) M := by
  rintro ds M Q R ⟨is, rfl, hl, q⟩
  unfold W_state_of
  simp (disch := first | assumption | decide) only [wSeq, wNext, wAsg, wgName, wIfS, wB, wOp, wVar, wC, wCall, wCallK, wCons, wNil, wRet, wRetN, wDrop, wTup, wLst, wIf, wAnd, wOr, wNot, wAndV, wOrV, wNotV, wNeg, wChain, fI, fI0, addD, fLt, fLe, fGt, fGe, fIsB, wCB, fAbs, f2I, fInt, fIsq, wPar, wPar3, permD, startE, List.map_cons, List.map_nil, List.cons_append, List.nil_append, List.append_nil, List.length_cons, List.length_nil, List.replicate, List.getElem?_cons_zero, List.getElem?_cons_succ, List.set_cons_zero, List.set_cons_succ, List.getD_cons_zero, List.getD_cons_succ, Nat.reduceAdd, Nat.reduceSub, Nat.zero_add, true_and, and_true, Bool.not_true, Bool.not_false, if_true, if_false, Bool.false_eq_true, reduceIte, decide_eq_true_eq, Bool.not_eq_true', decide_eq_false_iff_not, eqV_int, eqV_str, eqV_bl, decide_true, reduceCtorEq, not_true_eq_false, not_false_eq_true, Bool.not_eq_true, List.not_mem_nil, false_implies, implies_true, Int.reduceNeg, Int.reduceToNat, Int.reducePow, Int.reduceMul, Int.reduceAdd, draw_i, ix_t0, ix_t1, ix_t2, ix_t3, ix_m3, ix_m4, sn_ball_box, sn_cell_box, sn_cell_ball, sn_ball_cell, sn_box_ball, sn_box_cell, decide_false, wDc, wiSeq, wipeE]
  refine dc_map Itm.d (fun i => (.inl i.key : Key)) Itm.d (show AnyM M from True.intro) is [] (by simp only [List.length_nil]; omega) (fun i hi K hK => ?_) fun p hp => ?_
  · simp (disch := first | assumption | decide) only [wSeq, wNext, wAsg, wgName, wIfS, wB, wOp, wVar, wC, wCall, wCallK, wCons, wNil, wRet, wRetN, wDrop, wTup, wLst, wIf, wAnd, wOr, wNot, wAndV, wOrV, wNotV, wNeg, wChain, fI, fI0, addD, fLt, fLe, fGt, fGe, fIsB, wCB, fAbs, f2I, fInt, fIsq, wPar, wPar3, permD, startE, List.map_cons, List.map_nil, List.cons_append, List.nil_append, List.append_nil, List.length_cons, List.length_nil, List.replicate, List.getElem?_cons_zero, List.getElem?_cons_succ, List.set_cons_zero, List.set_cons_succ, List.getD_cons_zero, List.getD_cons_succ, Nat.reduceAdd, Nat.reduceSub, Nat.zero_add, true_and, and_true, Bool.not_true, Bool.not_false, if_true, if_false, Bool.false_eq_true, reduceIte, decide_eq_true_eq, Bool.not_eq_true', decide_eq_false_iff_not, eqV_int, eqV_str, eqV_bl, decide_true, reduceCtorEq, not_true_eq_false, not_false_eq_true, Bool.not_eq_true, List.not_mem_nil, false_implies, implies_true, Int.reduceNeg, Int.reduceToNat, Int.reducePow, Int.reduceMul, Int.reduceAdd, draw_i, ix_t0, ix_t1, ix_t2, ix_t3, ix_m3, ix_m4, sn_ball_box, sn_cell_box, sn_cell_ball, sn_ball_cell, sn_box_ball, sn_box_cell, decide_false]
    exact ix_it.1.mpr hK
  · have e := foldA_kD Itm.key Itm.d is []
    have e0 : kD Itm.key Itm.d [] = [] := rfl
    rw [e0] at e
    rw [e]
    exact q p _ (up_new hp) hp setM_same
theorem fold_last_mem (e : Dd) : ∀ (dd l : List Dd), e ∈ dd.foldl (putA Dd.key) l ↔ e ∈ lastOf dd ∨ (e ∈ l ∧ e.key ∉ dd.map Dd.key)
  | [], l => by
    show e ∈ l ↔ _
    unfold lastOf
    simp
  | d :: r, l => by
    rw [List.foldl_cons, fold_last_mem e r (putA Dd.key l d), mem_putA, List.map_cons, List.mem_cons, lastOf]
    by_cases h : d.key ∈ r.map Dd.key
    · rw [if_pos h]
      constructor
      · rintro (h1 | ⟨rfl | ⟨h1, h2⟩, h3⟩)
        · exact .inl h1
        · exact absurd h h3
        · exact .inr ⟨h1, fun z => z.elim h2 h3⟩
      · rintro (h1 | ⟨h1, h2⟩)
        · exact .inl h1
        · exact .inr ⟨.inr ⟨h1, fun z => h2 (.inl z)⟩, fun z => h2 (.inr z)⟩
    · rw [if_neg h, List.mem_cons]
      constructor
      · rintro (h1 | ⟨rfl | ⟨h1, h2⟩, h3⟩)
        · exact .inl (.inr h1)
        · exact .inl (.inl rfl)
        · exact .inr ⟨h1, fun z => z.elim h2 h3⟩
      · rintro ((rfl | h1) | ⟨h1, h2⟩)
        · exact .inr ⟨.inl rfl, h⟩
        · exact .inl h1
        · exact .inr ⟨.inr ⟨h1, fun z => h2 (.inl z)⟩, fun z => h2 (.inr z)⟩
theorem wp_last_deeds : ∀ ds M Q R, F_last_deeds ds M Q R → W_last_deeds { nx := fun _ M' => Q .non M', rt := Q, xr := lx R } (startE 4 ds) M := by
  rintro ds M Q R ⟨dd, rfl, hl, q⟩
  unfold W_last_deeds
  refine seq_gen fun K hK => ?_
  simp (disch := first | assumption | decide) only [wSeq, wNext, wAsg, wgName, wIfS, wB, wOp, wVar, wC, wCall, wCallK, wCons, wNil, wRet, wRetN, wDrop, wTup, wLst, wIf, wAnd, wOr, wNot, wAndV, wOrV, wNotV, wNeg, wChain, fI, fI0, addD, fLt, fLe, fGt, fGe, fIsB, wCB, fAbs, f2I, fInt, fIsq, wPar, wPar3, permD, startE, List.map_cons, List.map_nil, List.cons_append, List.nil_append, List.append_nil, List.length_cons, List.length_nil, List.replicate, List.getElem?_cons_zero, List.getElem?_cons_succ, List.set_cons_zero, List.set_cons_succ, List.getD_cons_zero, List.getD_cons_succ, Nat.reduceAdd, Nat.reduceSub, Nat.zero_add, true_and, and_true, Bool.not_true, Bool.not_false, if_true, if_false, Bool.false_eq_true, reduceIte, decide_eq_true_eq, Bool.not_eq_true', decide_eq_false_iff_not, eqV_int, eqV_str, eqV_bl, decide_true, reduceCtorEq, not_true_eq_false, not_false_eq_true, Bool.not_eq_true, List.not_mem_nil, false_implies, implies_true, Int.reduceNeg, Int.reduceToNat, Int.reducePow, Int.reduceMul, Int.reduceAdd, draw_i, ix_t0, ix_t1, ix_t2, ix_t3, ix_m3, ix_m4, sn_ball_box, sn_cell_box, sn_cell_ball, sn_ball_cell, sn_box_ball, sn_box_cell, decide_false, wDc, wiSeq, wipeE]
  refine dc_map Dd.d (fun d => (.inl d.key : Key)) Dd.d (show AnyM M from True.intro) dd [] (by simp only [List.length_nil]; omega) (fun d hd K hK => ?_) fun t ht => ?_
  · simp (disch := first | assumption | decide) only [wSeq, wNext, wAsg, wgName, wIfS, wB, wOp, wVar, wC, wCall, wCallK, wCons, wNil, wRet, wRetN, wDrop, wTup, wLst, wIf, wAnd, wOr, wNot, wAndV, wOrV, wNotV, wNeg, wChain, fI, fI0, addD, fLt, fLe, fGt, fGe, fIsB, wCB, fAbs, f2I, fInt, fIsq, wPar, wPar3, permD, startE, List.map_cons, List.map_nil, List.cons_append, List.nil_append, List.append_nil, List.length_cons, List.length_nil, List.replicate, List.getElem?_cons_zero, List.getElem?_cons_succ, List.set_cons_zero, List.set_cons_succ, List.getD_cons_zero, List.getD_cons_succ, Nat.reduceAdd, Nat.reduceSub, Nat.zero_add, true_and, and_true, Bool.not_true, Bool.not_false, if_true, if_false, Bool.false_eq_true, reduceIte, decide_eq_true_eq, Bool.not_eq_true', decide_eq_false_iff_not, eqV_int, eqV_str, eqV_bl, decide_true, reduceCtorEq, not_true_eq_false, not_false_eq_true, Bool.not_eq_true, List.not_mem_nil, false_implies, implies_true, Int.reduceNeg, Int.reduceToNat, Int.reducePow, Int.reduceMul, Int.reduceAdd, draw_i, ix_t0, ix_t1, ix_t2, ix_t3, ix_m3, ix_m4, sn_ball_box, sn_cell_box, sn_cell_ball, sn_ball_cell, sn_box_ball, sn_box_cell, decide_false]
    exact ⟨d, rfl, hK⟩
  have e := foldA_kD Dd.key Dd.d dd []
  have e0 : kD Dd.key Dd.d [] = [] := rfl
  rw [e0] at e
  rw [e]
  obtain ⟨nd, ll⟩ := foldA_ok (f := Dd.key) dd [] List.nodup_nil
  have hm : ∀ e : Dd, e ∈ dd.foldl (putA Dd.key) [] ↔ e ∈ lastOf dd := fun e => (fold_last_mem e dd []).trans ⟨fun h => h.elim id (fun h => nomatch h.1), fun h => .inl h⟩
  generalize dd.foldl (putA Dd.key) [] = l at nd ll hm
  have hM : setM M t (.dic none (kD Dd.key Dd.d l)) t = some (.dic none (kD Dd.key Dd.d l)) := setM_same
  have up : Up M (setM M t (.dic none (kD Dd.key Dd.d l))) := up_new ht
  generalize setM M t (.dic none (kD Dd.key Dd.d l)) = M2 at hM up
  replace q := q _ up
  simp only [List.length_nil] at ll
  subst hK
  simp (disch := first | assumption | decide) only [wSeq, wNext, wAsg, wgName, wIfS, wB, wOp, wVar, wC, wCall, wCallK, wCons, wNil, wRet, wRetN, wDrop, wTup, wLst, wIf, wAnd, wOr, wNot, wAndV, wOrV, wNotV, wNeg, wChain, fI, fI0, addD, fLt, fLe, fGt, fGe, fIsB, wCB, fAbs, f2I, fInt, fIsq, wPar, wPar3, permD, startE, List.map_cons, List.map_nil, List.cons_append, List.nil_append, List.append_nil, List.length_cons, List.length_nil, List.replicate, List.getElem?_cons_zero, List.getElem?_cons_succ, List.set_cons_zero, List.set_cons_succ, List.getD_cons_zero, List.getD_cons_succ, Nat.reduceAdd, Nat.reduceSub, Nat.zero_add, true_and, and_true, Bool.not_true, Bool.not_false, if_true, if_false, Bool.false_eq_true, reduceIte, decide_eq_true_eq, Bool.not_eq_true', decide_eq_false_iff_not, eqV_int, eqV_str, eqV_bl, decide_true, reduceCtorEq, not_true_eq_false, not_false_eq_true, Bool.not_eq_true, List.not_mem_nil, false_implies, implies_true, Int.reduceNeg, Int.reduceToNat, Int.reducePow, Int.reduceMul, Int.reduceAdd, draw_i, ix_t0, ix_t1, ix_t2, ix_t3, ix_m3, ix_m4, sn_ball_box, sn_cell_box, sn_cell_ball, sn_ball_cell, sn_box_ball, sn_box_cell, decide_false, wLc, wiSeq, wipeE, fTuple, fSortDI]
  refine ⟨t, _, _, l.map Dd.key, rfl, hM, by unfold kD; rw [List.map_map, List.map_map]; rfl, by rw [List.length_map]; omega, fun ys hy hp => ?_⟩
  obtain ⟨es, hes, em⟩ : ∃ es : List Dd, ys = es.map Dd.key ∧ ∀ e ∈ es, e ∈ l := by
    have hin : ∀ y ∈ ys, ∃ e ∈ l, e.key = y := fun y h => List.mem_map.mp (hy.mem_iff.mp h)
    clear hy hp
    induction ys with
    | nil => exact ⟨[], rfl, fun e h => nomatch h⟩
    | cons y ys ih =>
      obtain ⟨es, rfl, h⟩ := ih fun z hz => hin z (List.mem_cons_of_mem _ hz)
      obtain ⟨e, he, rfl⟩ := hin y List.mem_cons_self
      exact ⟨e :: es, rfl, fun x hx => (List.mem_cons.mp hx).elim (fun z => z ▸ he) (h x)⟩
  subst hes
  have el : es.length = l.length := by
    have := hy.length_eq
    rwa [List.length_map, List.length_map] at this
  rw [List.map_map]
  refine lc_map (D.int ∘ Dd.key) Dd.d (show AnyM M2 from True.intro) es [] (by simp only [List.length_nil]; omega) (fun e he K2 hK2 => ?_) ?_
  · show wgName _ (.int e.key) _ _ _
    simp (disch := first | assumption | decide) only [wSeq, wNext, wAsg, wgName, wIfS, wB, wOp, wVar, wC, wCall, wCallK, wCons, wNil, wRet, wRetN, wDrop, wTup, wLst, wIf, wAnd, wOr, wNot, wAndV, wOrV, wNotV, wNeg, wChain, fI, fI0, addD, fLt, fLe, fGt, fGe, fIsB, wCB, fAbs, f2I, fInt, fIsq, wPar, wPar3, permD, startE, List.map_cons, List.map_nil, List.cons_append, List.nil_append, List.append_nil, List.length_cons, List.length_nil, List.replicate, List.getElem?_cons_zero, List.getElem?_cons_succ, List.set_cons_zero, List.set_cons_succ, List.getD_cons_zero, List.getD_cons_succ, Nat.reduceAdd, Nat.reduceSub, Nat.zero_add, true_and, and_true, Bool.not_true, Bool.not_false, if_true, if_false, Bool.false_eq_true, reduceIte, decide_eq_true_eq, Bool.not_eq_true', decide_eq_false_iff_not, eqV_int, eqV_str, eqV_bl, decide_true, reduceCtorEq, not_true_eq_false, not_false_eq_true, Bool.not_eq_true, List.not_mem_nil, false_implies, implies_true, Int.reduceNeg, Int.reduceToNat, Int.reducePow, Int.reduceMul, Int.reduceAdd, draw_i, ix_t0, ix_t1, ix_t2, ix_t3, ix_m3, ix_m4, sn_ball_box, sn_cell_box, sn_cell_ball, sn_ball_cell, sn_box_ball, sn_box_cell, decide_false, wDGet, fDGet, dKey]
    rw [dic_at hM]
    simp (disch := first | assumption | decide) only [wSeq, wNext, wAsg, wgName, wIfS, wB, wOp, wVar, wC, wCall, wCallK, wCons, wNil, wRet, wRetN, wDrop, wTup, wLst, wIf, wAnd, wOr, wNot, wAndV, wOrV, wNotV, wNeg, wChain, fI, fI0, addD, fLt, fLe, fGt, fGe, fIsB, wCB, fAbs, f2I, fInt, fIsq, wPar, wPar3, permD, startE, List.map_cons, List.map_nil, List.cons_append, List.nil_append, List.append_nil, List.length_cons, List.length_nil, List.replicate, List.getElem?_cons_zero, List.getElem?_cons_succ, List.set_cons_zero, List.set_cons_succ, List.getD_cons_zero, List.getD_cons_succ, Nat.reduceAdd, Nat.reduceSub, Nat.zero_add, true_and, and_true, Bool.not_true, Bool.not_false, if_true, if_false, Bool.false_eq_true, reduceIte, decide_eq_true_eq, Bool.not_eq_true', decide_eq_false_iff_not, eqV_int, eqV_str, eqV_bl, decide_true, reduceCtorEq, not_true_eq_false, not_false_eq_true, Bool.not_eq_true, List.not_mem_nil, false_implies, implies_true, Int.reduceNeg, Int.reduceToNat, Int.reducePow, Int.reduceMul, Int.reduceAdd, draw_i, ix_t0, ix_t1, ix_t2, ix_t3, ix_m3, ix_m4, sn_ball_box, sn_cell_box, sn_cell_ball, sn_ball_cell, sn_box_ball, sn_box_cell, decide_false, kD_val nd (em e he)]
    exact ⟨_, rfl, hK2⟩
  · rw [List.nil_append]
    have ee : es = lastL dd := by
      refine lastL_is (List.pairwise_map.mp hp) (hy.nodup_iff.mpr nd) fun d => ⟨fun h => (hm d).mp (em d h), fun h => ?_⟩
      have hd := (hm d).mpr h
      obtain ⟨e', he', ek⟩ := List.mem_map.mp (hy.mem_iff.mpr (List.mem_map_of_mem (f := Dd.key) hd))
      rw [← key_one nd (em e' he') hd ek]
      exact he'
    rw [ee]
    exact ⟨_, rfl, q⟩
end K16
namespace K16
open PySem L2 L3
def dkP (d : Dd) : Int × D := (d.key, d.d)
theorem srtKP_dd (l : List Dd) : srtKP (l.map dkP) = (srtDd l).map dkP := (List.map_mergeSort (r := fun a b : Dd => decide (a.key ≤ b.key)) (s := fun a b : Int × D => decide (a.1 ≤ b.1)) (f := dkP) (l := l) fun a _ b _ => rfl).symm
theorem dk_kp (l : List Dd) : (l.map dkP).map kpD = l.map fun d => D.tup [.int d.key, d.d] := by
  rw [List.map_map]
  rfl
theorem dk_keys (l : List Dd) : (l.map dkP).map (·.1) = l.map Dd.key := by
  rw [List.map_map]
  rfl
theorem srt_dd {M : Mp} {d : D} {l : List Dd} {Q : KD} (h : (∃ a, d = .tok a ∨ d = .lst ((l.map dkP).map kpD))) (hs : seqD M d = some ((l.map dkP).map kpD)) (nd : (l.map Dd.key).Nodup) (q : Q (.lst (((srtDd l).map dkP).map kpD)) M) : fSrtK [d] M Q := by
  refine ⟨l.map dkP, h, hs, by rw [dk_keys]; exact nd, ?_⟩
  rw [srtKP_dd]
  exact q
theorem kp_lc {M : Mp} {Q : KD} {i j : Nat} {ρ : En} {l : List Dd} (hij : i ≠ j) (hj : j < ρ.length) (hl : l.length ≤ 1000) (q : Q (.lst (l.map Dd.d)) M) : wLcL (wgTup 2 (wgCons (wgName i) (wgCons (wgName j) wgNil))) wYes (wVar j) AnyM ρ ((l.map dkP).map kpD) [] M Q := by
  rw [dk_kp]
  refine lc_map (fun d : Dd => D.tup [.int d.key, d.d]) Dd.d (show AnyM M from True.intro) l [] (by simp only [List.length_nil]; omega) (fun d hd K hK => ?_) ?_
  · refine ⟨rfl, show ([] : List D) = [] ∧ _ from ⟨rfl, ?_⟩⟩
    show wVar j ((ρ.set i _).set j (some d.d)) M K
    unfold wVar
    rw [List.getElem?_set_self (by rw [List.length_set]; exact hj)]
    exact hK
  · rw [List.nil_append]
    exact q
theorem dkeys_st (st : List Itm) : dkeys (stD st) = st.map fun i => D.int i.key := by
  unfold dkeys stD
  rw [List.map_map]
  rfl
theorem ne_itm {M : Mp} {p : Nat} {i j : Itm} {Q : KD} (hi : itB p i) (hj : itB p j) (q : Q (.bl (!decide (i = j))) M) : eqV true i.d j.d M Q := by
  have main : eqD2 true i.d j.d M Q := by
    refine ⟨⟨3, by decide, fit_itm hi, fit_itm hj⟩, ?_⟩
    have e : eqD (res M i.d) (res M j.d) = decide (i = j) := eqD_itm i j
    rw [e]
    exact q
  exact main
theorem wp_deeds_between : ∀ ds M Q R, F_deeds_between ds M Q R → W_deeds_between { nx := fun _ M' => Q .non M', rt := Q, xr := lx R } (startE 7 ds) M := by
  rintro ds M Q R ⟨_, _, a, b, p, rfl, ⟨t1, rfl, h1⟩, ⟨t2, rfl, h2⟩, sa, sb, q⟩
  unfold W_deeds_between
  refine seq_gen fun K hK => ?_
  unfold wLock
  simp only [startE, List.map_cons, List.map_nil, List.cons_append, List.nil_append, List.getElem?_cons_zero, h1]
  intro lk _
  have d2 : dicOf (setM M t1 (.dic (some lk) (stD a))) (.tok t2) = some (stD b) := by
    by_cases e : t2 = t1
    · subst e
      rw [h1] at h2
      have e2 : stD a = stD b := by
        injection h2 with h2
        injection h2
      rw [← e2]
      exact dic_at setM_same
    · exact dic_at (by rw [setM_ne e]; exact h2)
  simp (disch := first | assumption | decide) only [wSeq, wNext, wAsg, wgName, wIfS, wB, wOp, wVar, wC, wCall, wCallK, wCons, wNil, wRet, wRetN, wDrop, wTup, wLst, wIf, wAnd, wOr, wNot, wAndV, wOrV, wNotV, wNeg, wChain, fI, fI0, addD, fLt, fLe, fGt, fGe, fIsB, wCB, fAbs, f2I, fInt, fIsq, wPar, wPar3, permD, startE, List.map_cons, List.map_nil, List.cons_append, List.nil_append, List.append_nil, List.length_cons, List.length_nil, List.replicate, List.getElem?_cons_zero, List.getElem?_cons_succ, List.set_cons_zero, List.set_cons_succ, List.getD_cons_zero, List.getD_cons_succ, Nat.reduceAdd, Nat.reduceSub, Nat.zero_add, true_and, and_true, Bool.not_true, Bool.not_false, if_true, if_false, Bool.false_eq_true, reduceIte, decide_eq_true_eq, Bool.not_eq_true', decide_eq_false_iff_not, eqV_int, eqV_str, eqV_bl, decide_true, reduceCtorEq, not_true_eq_false, not_false_eq_true, Bool.not_eq_true, List.not_mem_nil, false_implies, implies_true, Int.reduceNeg, Int.reduceToNat, Int.reducePow, Int.reduceMul, Int.reduceAdd, draw_i, ix_t0, ix_t1, ix_t2, ix_t3, ix_m3, ix_m4, sn_ball_box, sn_cell_box, sn_cell_ball, sn_ball_cell, sn_box_ball, sn_box_cell, decide_false, wLc, wiDk, wipeE]
  simp only [setM_same]
  rw [dkeys_st]
  refine lc_filt (fun i : Itm => D.int i.key) (fun i => kpD (dkP (.take i.key))) (fun i => decide (i.key ∉ keysS b)) (show lockedM t1 lk (stD a) (setM M t1 (.dic (some lk) (stD a))) from setM_same) a [] (by simp only [List.length_nil]; have := sa.2.1; omega) (fun i hi A B hA hB => ?_) ?_
  · simp (disch := first | assumption | decide) only [wSeq, wNext, wAsg, wgName, wIfS, wB, wOp, wVar, wC, wCall, wCallK, wCons, wNil, wRet, wRetN, wDrop, wTup, wLst, wIf, wAnd, wOr, wNot, wAndV, wOrV, wNotV, wNeg, wChain, fI, fI0, addD, fLt, fLe, fGt, fGe, fIsB, wCB, fAbs, f2I, fInt, fIsq, wPar, wPar3, permD, startE, List.map_cons, List.map_nil, List.cons_append, List.nil_append, List.append_nil, List.length_cons, List.length_nil, List.replicate, List.getElem?_cons_zero, List.getElem?_cons_succ, List.set_cons_zero, List.set_cons_succ, List.getD_cons_zero, List.getD_cons_succ, Nat.reduceAdd, Nat.reduceSub, Nat.zero_add, true_and, and_true, Bool.not_true, Bool.not_false, if_true, if_false, Bool.false_eq_true, reduceIte, decide_eq_true_eq, Bool.not_eq_true', decide_eq_false_iff_not, eqV_int, eqV_str, eqV_bl, decide_true, reduceCtorEq, not_true_eq_false, not_false_eq_true, Bool.not_eq_true, List.not_mem_nil, false_implies, implies_true, Int.reduceNeg, Int.reduceToNat, Int.reducePow, Int.reduceMul, Int.reduceAdd, draw_i, ix_t0, ix_t1, ix_t2, ix_t3, ix_m3, ix_m4, sn_ball_box, sn_cell_box, sn_cell_ball, sn_ball_cell, sn_box_ball, sn_box_cell, decide_false, fDIn, dKey]
    rw [d2]
    simp (disch := first | assumption | decide) only [wSeq, wNext, wAsg, wgName, wIfS, wB, wOp, wVar, wC, wCall, wCallK, wCons, wNil, wRet, wRetN, wDrop, wTup, wLst, wIf, wAnd, wOr, wNot, wAndV, wOrV, wNotV, wNeg, wChain, fI, fI0, addD, fLt, fLe, fGt, fGe, fIsB, wCB, fAbs, f2I, fInt, fIsq, wPar, wPar3, permD, startE, List.map_cons, List.map_nil, List.cons_append, List.nil_append, List.append_nil, List.length_cons, List.length_nil, List.replicate, List.getElem?_cons_zero, List.getElem?_cons_succ, List.set_cons_zero, List.set_cons_succ, List.getD_cons_zero, List.getD_cons_succ, Nat.reduceAdd, Nat.reduceSub, Nat.zero_add, true_and, and_true, Bool.not_true, Bool.not_false, if_true, if_false, Bool.false_eq_true, reduceIte, decide_eq_true_eq, Bool.not_eq_true', decide_eq_false_iff_not, eqV_int, eqV_str, eqV_bl, decide_true, reduceCtorEq, not_true_eq_false, not_false_eq_true, Bool.not_eq_true, List.not_mem_nil, false_implies, implies_true, Int.reduceNeg, Int.reduceToNat, Int.reducePow, Int.reduceMul, Int.reduceAdd, draw_i, ix_t0, ix_t1, ix_t2, ix_t3, ix_m3, ix_m4, sn_ball_box, sn_cell_box, sn_cell_ball, sn_ball_cell, sn_box_ball, sn_box_cell, decide_false, st_some]
    by_cases h : i.key ∈ keysS b
    · rw [if_neg (by simpa using h)]
      exact hB (decide_eq_false fun z => z h)
    · rw [if_pos (by simpa using h)]
      exact ⟨by decide, by decide, hA (decide_eq_true h)⟩
  rw [List.nil_append]
  refine ⟨setM_same, ?_⟩
  rw [set_set, setM_own h1]
  simp only [List.set_cons_succ, List.set_cons_zero]
  subst hK
  refine seq_gen fun K hK => ?_
  unfold wLock
  simp (disch := first | assumption | decide) only [wSeq, wNext, wAsg, wgName, wIfS, wB, wOp, wVar, wC, wCall, wCallK, wCons, wNil, wRet, wRetN, wDrop, wTup, wLst, wIf, wAnd, wOr, wNot, wAndV, wOrV, wNotV, wNeg, wChain, fI, fI0, addD, fLt, fLe, fGt, fGe, fIsB, wCB, fAbs, f2I, fInt, fIsq, wPar, wPar3, permD, startE, List.map_cons, List.map_nil, List.cons_append, List.nil_append, List.append_nil, List.length_cons, List.length_nil, List.replicate, List.getElem?_cons_zero, List.getElem?_cons_succ, List.set_cons_zero, List.set_cons_succ, List.getD_cons_zero, List.getD_cons_succ, Nat.reduceAdd, Nat.reduceSub, Nat.zero_add, true_and, and_true, Bool.not_true, Bool.not_false, if_true, if_false, Bool.false_eq_true, reduceIte, decide_eq_true_eq, Bool.not_eq_true', decide_eq_false_iff_not, eqV_int, eqV_str, eqV_bl, decide_true, reduceCtorEq, not_true_eq_false, not_false_eq_true, Bool.not_eq_true, List.not_mem_nil, false_implies, implies_true, Int.reduceNeg, Int.reduceToNat, Int.reducePow, Int.reduceMul, Int.reduceAdd, draw_i, ix_t0, ix_t1, ix_t2, ix_t3, ix_m3, ix_m4, sn_ball_box, sn_cell_box, sn_cell_ball, sn_ball_cell, sn_box_ball, sn_box_cell, decide_false, h2]
  intro lk2 _
  have d1 : dicOf (setM M t2 (.dic (some lk2) (stD b))) (.tok t1) = some (stD a) := by
    by_cases e : t1 = t2
    · subst e
      rw [h1] at h2
      have e2 : stD a = stD b := by
        injection h2 with h2
        injection h2
      rw [e2]
      exact dic_at setM_same
    · exact dic_at (by rw [setM_ne e]; exact h1)
  have d2' : dicOf (setM M t2 (.dic (some lk2) (stD b))) (.tok t2) = some (stD b) := dic_at setM_same
  simp (disch := first | assumption | decide) only [wSeq, wNext, wAsg, wgName, wIfS, wB, wOp, wVar, wC, wCall, wCallK, wCons, wNil, wRet, wRetN, wDrop, wTup, wLst, wIf, wAnd, wOr, wNot, wAndV, wOrV, wNotV, wNeg, wChain, fI, fI0, addD, fLt, fLe, fGt, fGe, fIsB, wCB, fAbs, f2I, fInt, fIsq, wPar, wPar3, permD, startE, List.map_cons, List.map_nil, List.cons_append, List.nil_append, List.append_nil, List.length_cons, List.length_nil, List.replicate, List.getElem?_cons_zero, List.getElem?_cons_succ, List.set_cons_zero, List.set_cons_succ, List.getD_cons_zero, List.getD_cons_succ, Nat.reduceAdd, Nat.reduceSub, Nat.zero_add, true_and, and_true, Bool.not_true, Bool.not_false, if_true, if_false, Bool.false_eq_true, reduceIte, decide_eq_true_eq, Bool.not_eq_true', decide_eq_false_iff_not, eqV_int, eqV_str, eqV_bl, decide_true, reduceCtorEq, not_true_eq_false, not_false_eq_true, Bool.not_eq_true, List.not_mem_nil, false_implies, implies_true, Int.reduceNeg, Int.reduceToNat, Int.reducePow, Int.reduceMul, Int.reduceAdd, draw_i, ix_t0, ix_t1, ix_t2, ix_t3, ix_m3, ix_m4, sn_ball_box, sn_cell_box, sn_cell_ball, sn_ball_cell, sn_box_ball, sn_box_cell, decide_false, wLc, wiDk, wipeE]
  simp only [setM_same]
  rw [dkeys_st]
  refine lc_filt (fun i : Itm => D.int i.key) (fun i => kpD (dkP (.put i))) (fun i => decide (i ∉ a)) (show lockedM t2 lk2 (stD b) (setM M t2 (.dic (some lk2) (stD b))) from setM_same) b [] (by simp only [List.length_nil]; have := sb.2.1; omega) (fun i hi A B hA hB => ?_) ?_
  · have hv : valD (stD b) (.inl i.key) = some i.d := st_val sb.1 hi rfl
    simp (disch := first | assumption | decide) only [wSeq, wNext, wAsg, wgName, wIfS, wB, wOp, wVar, wC, wCall, wCallK, wCons, wNil, wRet, wRetN, wDrop, wTup, wLst, wIf, wAnd, wOr, wNot, wAndV, wOrV, wNotV, wNeg, wChain, fI, fI0, addD, fLt, fLe, fGt, fGe, fIsB, wCB, fAbs, f2I, fInt, fIsq, wPar, wPar3, permD, startE, List.map_cons, List.map_nil, List.cons_append, List.nil_append, List.append_nil, List.length_cons, List.length_nil, List.replicate, List.getElem?_cons_zero, List.getElem?_cons_succ, List.set_cons_zero, List.set_cons_succ, List.getD_cons_zero, List.getD_cons_succ, Nat.reduceAdd, Nat.reduceSub, Nat.zero_add, true_and, and_true, Bool.not_true, Bool.not_false, if_true, if_false, Bool.false_eq_true, reduceIte, decide_eq_true_eq, Bool.not_eq_true', decide_eq_false_iff_not, eqV_int, eqV_str, eqV_bl, decide_true, reduceCtorEq, not_true_eq_false, not_false_eq_true, Bool.not_eq_true, List.not_mem_nil, false_implies, implies_true, Int.reduceNeg, Int.reduceToNat, Int.reducePow, Int.reduceMul, Int.reduceAdd, draw_i, ix_t0, ix_t1, ix_t2, ix_t3, ix_m3, ix_m4, sn_ball_box, sn_cell_box, sn_cell_ball, sn_ball_cell, sn_box_ball, sn_box_cell, decide_false, fDIn, dKey, wDGet, fDGet]
    rw [d1]
    simp (disch := first | assumption | decide) only [wSeq, wNext, wAsg, wgName, wIfS, wB, wOp, wVar, wC, wCall, wCallK, wCons, wNil, wRet, wRetN, wDrop, wTup, wLst, wIf, wAnd, wOr, wNot, wAndV, wOrV, wNotV, wNeg, wChain, fI, fI0, addD, fLt, fLe, fGt, fGe, fIsB, wCB, fAbs, f2I, fInt, fIsq, wPar, wPar3, permD, startE, List.map_cons, List.map_nil, List.cons_append, List.nil_append, List.append_nil, List.length_cons, List.length_nil, List.replicate, List.getElem?_cons_zero, List.getElem?_cons_succ, List.set_cons_zero, List.set_cons_succ, List.getD_cons_zero, List.getD_cons_succ, Nat.reduceAdd, Nat.reduceSub, Nat.zero_add, true_and, and_true, Bool.not_true, Bool.not_false, if_true, if_false, Bool.false_eq_true, reduceIte, decide_eq_true_eq, Bool.not_eq_true', decide_eq_false_iff_not, eqV_int, eqV_str, eqV_bl, decide_true, reduceCtorEq, not_true_eq_false, not_false_eq_true, Bool.not_eq_true, List.not_mem_nil, false_implies, implies_true, Int.reduceNeg, Int.reduceToNat, Int.reducePow, Int.reduceMul, Int.reduceAdd, draw_i, ix_t0, ix_t1, ix_t2, ix_t3, ix_m3, ix_m4, sn_ball_box, sn_cell_box, sn_cell_ball, sn_ball_cell, sn_box_ball, sn_box_cell, decide_false, st_some]
    by_cases h : i.key ∈ keysS a
    · rw [if_neg (by simpa using h)]
      obtain ⟨j, hj, ej⟩ := List.mem_map.mp h
      rw [d2']
      dsimp only
      refine ⟨j.d, st_val sa.1 hj ej, i.d, hv, ?_⟩
      refine ne_itm (sa.2.2 j hj) (sb.2.2 i hi) ?_
      by_cases e : j = i
      · subst e
        rw [decide_eq_true rfl]
        exact hB (decide_eq_false fun z => z hj)
      · rw [decide_eq_false e]
        simp (disch := first | assumption | decide) only [wSeq, wNext, wAsg, wgName, wIfS, wB, wOp, wVar, wC, wCall, wCallK, wCons, wNil, wRet, wRetN, wDrop, wTup, wLst, wIf, wAnd, wOr, wNot, wAndV, wOrV, wNotV, wNeg, wChain, fI, fI0, addD, fLt, fLe, fGt, fGe, fIsB, wCB, fAbs, f2I, fInt, fIsq, wPar, wPar3, permD, startE, List.map_cons, List.map_nil, List.cons_append, List.nil_append, List.append_nil, List.length_cons, List.length_nil, List.replicate, List.getElem?_cons_zero, List.getElem?_cons_succ, List.set_cons_zero, List.set_cons_succ, List.getD_cons_zero, List.getD_cons_succ, Nat.reduceAdd, Nat.reduceSub, Nat.zero_add, true_and, and_true, Bool.not_true, Bool.not_false, if_true, if_false, Bool.false_eq_true, reduceIte, decide_eq_true_eq, Bool.not_eq_true', decide_eq_false_iff_not, eqV_int, eqV_str, eqV_bl, decide_true, reduceCtorEq, not_true_eq_false, not_false_eq_true, Bool.not_eq_true, List.not_mem_nil, false_implies, implies_true, Int.reduceNeg, Int.reduceToNat, Int.reducePow, Int.reduceMul, Int.reduceAdd, draw_i, ix_t0, ix_t1, ix_t2, ix_t3, ix_m3, ix_m4, sn_ball_box, sn_cell_box, sn_cell_ball, sn_ball_cell, sn_box_ball, sn_box_cell, decide_false]
        rw [d2']
        refine ⟨i.d, hv, by decide, by decide, hA (decide_eq_true fun z => e (item_one sa.1 hj z ej))⟩
    · rw [if_pos (by simpa using h), d2']
      refine ⟨i.d, hv, by decide, by decide, hA (decide_eq_true fun z => h (List.mem_map_of_mem z))⟩
  rw [List.nil_append]
  refine ⟨setM_same, ?_⟩
  rw [set_set, setM_own h2]
  simp only [List.set_cons_succ, List.set_cons_zero]
  subst hK
  simp (disch := first | assumption | decide) only [wSeq, wNext, wAsg, wgName, wIfS, wB, wOp, wVar, wC, wCall, wCallK, wCons, wNil, wRet, wRetN, wDrop, wTup, wLst, wIf, wAnd, wOr, wNot, wAndV, wOrV, wNotV, wNeg, wChain, fI, fI0, addD, fLt, fLe, fGt, fGe, fIsB, wCB, fAbs, f2I, fInt, fIsq, wPar, wPar3, permD, startE, List.map_cons, List.map_nil, List.cons_append, List.nil_append, List.append_nil, List.length_cons, List.length_nil, List.replicate, List.getElem?_cons_zero, List.getElem?_cons_succ, List.set_cons_zero, List.set_cons_succ, List.getD_cons_zero, List.getD_cons_succ, Nat.reduceAdd, Nat.reduceSub, Nat.zero_add, true_and, and_true, Bool.not_true, Bool.not_false, if_true, if_false, Bool.false_eq_true, reduceIte, decide_eq_true_eq, Bool.not_eq_true', decide_eq_false_iff_not, eqV_int, eqV_str, eqV_bl, decide_true, reduceCtorEq, not_true_eq_false, not_false_eq_true, Bool.not_eq_true, List.not_mem_nil, false_implies, implies_true, Int.reduceNeg, Int.reduceToNat, Int.reducePow, Int.reduceMul, Int.reduceAdd, draw_i, ix_t0, ix_t1, ix_t2, ix_t3, ix_m3, ix_m4, sn_ball_box, sn_cell_box, sn_cell_ball, sn_ball_cell, sn_box_ball, sn_box_cell, decide_false, wLc, wiSeq, wipeE, fTuple]
  refine ⟨_, _, ⟨0, .inr rfl⟩, ⟨0, .inr rfl⟩, rfl, rfl, ?_, ?_⟩
  · rw [List.length_map, List.length_map]
    have l1 := List.length_filter_le (fun i : Itm => decide (i.key ∉ keysS b)) a
    have l2 := List.length_filter_le (fun i : Itm => decide (i ∉ a)) b
    have := sa.2.1
    have := sb.2.1
    exact Nat.le_trans (by omega : _ ≤ 100) (by decide)
  have em : (a.filter fun i => decide (i.key ∉ keysS b)).map (fun i => kpD (dkP (.take i.key))) ++ (b.filter fun i => decide (i ∉ a)).map (fun i => kpD (dkP (.put i))) = (((a.filter fun i => decide (i.key ∉ keysS b)).map (fun i => Dd.take i.key) ++ (b.filter fun i => decide (i ∉ a)).map Dd.put).map dkP).map kpD := by
    rw [List.map_append, List.map_append, List.map_map, List.map_map, List.map_map, List.map_map]
    rfl
  rw [em]
  refine srt_dd ⟨0, .inr rfl⟩ rfl (pre_nodup sa.1 sb.1) ?_
  dsimp only
  refine kp_lc (by decide) (by show 6 < 7; decide) (by have := betw_len (a := a) (b := b); have := sa.2.1; have := sb.2.1; show (betw a b).length ≤ 1000; omega) ?_
  exact ⟨_, rfl, q⟩
end K16
namespace K16
open PySem L2 L3
theorem put_app {kd : List (Key × D)} {k : Key} {d : D} (h : k ∉ kd.map (·.1)) : putD kd k d = kd ++ [(k, d)] := by
  unfold putD
  rw [if_neg]
  intro z
  obtain ⟨p, hp, e⟩ := List.any_eq_true.mp z
  exact h (List.mem_map.mpr ⟨p, hp, of_decide_eq_true e⟩)
theorem merge_app : ∀ (kd acc : List (Key × D)), ((acc ++ kd).map (·.1)).Nodup → mergeD acc kd = acc ++ kd
  | [], acc, _ => by rw [List.append_nil]; rfl
  | p :: kd, acc, nd => by
    have e : acc ++ p :: kd = (acc ++ [p]) ++ kd := by rw [List.append_assoc]; rfl
    show mergeD (putD acc p.1 p.2) kd = _
    rw [put_app, e]
    · exact merge_app kd (acc ++ [p]) (by rw [← e]; exact nd)
    · rw [List.map_append, List.map_cons] at nd
      exact fun h => (List.nodup_append.mp nd).2.2 _ h _ List.mem_cons_self rfl
theorem merge_st {st : List Itm} (h : (keysS st).Nodup) : mergeD [] (stD st) = stD st := by
  refine merge_app (stD st) [] ?_
  rw [List.nil_append]
  unfold stD
  rw [List.map_map]
  exact (List.pairwise_map.mpr ((List.pairwise_map.mp (show (st.map Itm.key).Pairwise (· ≠ ·) from h)).imp fun hne e => hne (Sum.inl.inj e)))
theorem wp__law_deeds : ∀ ds M Q R, F__law_deeds ds M Q R → W__law_deeds { nx := fun _ M' => Q .non M', rt := Q, xr := lx R } (startE 5 ds) M := by
  rintro ds M Q R ⟨b, t, p, m, ks, ns, rfl, W, m30, q⟩
  unfold W__law_deeds
  refine seq_gen fun K hK => ?_
  simp (disch := first | assumption | decide) only [wSeq, wNext, wAsg, wgName, wIfS, wB, wOp, wVar, wC, wCall, wCallK, wCons, wNil, wRet, wRetN, wDrop, wTup, wLst, wIf, wAnd, wOr, wNot, wAndV, wOrV, wNotV, wNeg, wChain, fI, fI0, addD, fLt, fLe, fGt, fGe, fIsB, wCB, fAbs, f2I, fInt, fIsq, wPar, wPar3, permD, startE, List.map_cons, List.map_nil, List.cons_append, List.nil_append, List.append_nil, List.length_cons, List.length_nil, List.replicate, List.getElem?_cons_zero, List.getElem?_cons_succ, List.set_cons_zero, List.set_cons_succ, List.getD_cons_zero, List.getD_cons_succ, Nat.reduceAdd, Nat.reduceSub, Nat.zero_add, true_and, and_true, Bool.not_true, Bool.not_false, if_true, if_false, Bool.false_eq_true, reduceIte, decide_eq_true_eq, Bool.not_eq_true', decide_eq_false_iff_not, eqV_int, eqV_str, eqV_bl, decide_true, reduceCtorEq, not_true_eq_false, not_false_eq_true, Bool.not_eq_true, List.not_mem_nil, false_implies, implies_true, Int.reduceNeg, Int.reduceToNat, Int.reducePow, Int.reduceMul, Int.reduceAdd, draw_i, ix_t0, ix_t1, ix_t2, ix_t3, ix_m3, ix_m4, sn_ball_box, sn_cell_box, sn_cell_ball, sn_ball_cell, sn_box_ball, sn_box_cell, decide_false, wLstM]
  refine ⟨by decide, fun a ha => ?_⟩
  have ua := up_new (c := .lst []) ha
  subst hK
  refine seq_gen fun K hK => ?_
  refine for_gen fun B hB => ?_
  simp (disch := first | assumption | decide) only [wSeq, wNext, wAsg, wgName, wIfS, wB, wOp, wVar, wC, wCall, wCallK, wCons, wNil, wRet, wRetN, wDrop, wTup, wLst, wIf, wAnd, wOr, wNot, wAndV, wOrV, wNotV, wNeg, wChain, fI, fI0, addD, fLt, fLe, fGt, fGe, fIsB, wCB, fAbs, f2I, fInt, fIsq, wPar, wPar3, permD, startE, List.map_cons, List.map_nil, List.cons_append, List.nil_append, List.append_nil, List.length_cons, List.length_nil, List.replicate, List.getElem?_cons_zero, List.getElem?_cons_succ, List.set_cons_zero, List.set_cons_succ, List.getD_cons_zero, List.getD_cons_succ, Nat.reduceAdd, Nat.reduceSub, Nat.zero_add, true_and, and_true, Bool.not_true, Bool.not_false, if_true, if_false, Bool.false_eq_true, reduceIte, decide_eq_true_eq, Bool.not_eq_true', decide_eq_false_iff_not, eqV_int, eqV_str, eqV_bl, decide_true, reduceCtorEq, not_true_eq_false, not_false_eq_true, Bool.not_eq_true, List.not_mem_nil, false_implies, implies_true, Int.reduceNeg, Int.reduceToNat, Int.reducePow, Int.reduceMul, Int.reduceAdd, draw_i, ix_t0, ix_t1, ix_t2, ix_t3, ix_m3, ix_m4, sn_ball_box, sn_cell_box, sn_cell_ball, sn_ball_cell, sn_box_ball, sn_box_cell, decide_false, wFor, wiSeq]
  refine ⟨b, t, p, m, ks, ns, rfl, ua _ _ W.box, ua _ _ W.keys, by have := W.p3; omega, m30, W.k0, W.k20, fun k hk => by have := W.kb k hk; omega, by have := W.n3; omega, W.nd, W.nw, fun x is M2 up2 hx hx2 hl hi => ?_⟩
  have ua2 := up2 _ _ (setM_same (M := M) (a := a) (c := .lst []))
  have up := ua.trans up2
  have xa : x ≠ a := fun e => by
    rw [e, setM_same] at hx
    cases hx
  refine ⟨_, hx2, ?_⟩
  refine loop_map Itm.d is (fun n ρ' M' => Up M M' ∧ M' x = some (.lst (is.map Itm.d)) ∧ ∃ (dd : List Dd) (v4 : Option D), M' a = some (.lst (dd.map Dd.d)) ∧ dd.length = n ∧ (∀ d ∈ dd, ddB p ks d) ∧ ρ' = [some (.tok b), some (wldD p t ns), some (.int (m : Int)), some (.tok a), v4]) (fun n i ρ' M' hin hn hP => ?_) (fun ρ' M' hP => ?_) ⟨up, hx2, [], none, ua2, rfl, (by intro d hd; cases hd), rfl⟩
  · obtain ⟨up, hx2, dd, v4, ha2, hl2, hd, rfl⟩ := hP
    refine ⟨hx2, fun K3 hK3 => ?_⟩
    simp only [wgName, List.set_cons_succ, List.set_cons_zero]
    have ib := hi i (List.mem_of_getElem? hin)
    have fin : ∀ d : Dd, ddB p ks d → ∃ es, M' a = some (.lst es) ∧ es.length < sizeLine ∧ K3 [some (.tok b), some (wldD p t ns), some (.int (m : Int)), some (.tok a), some i.d] (setM M' a (.lst (es ++ [d.d]))) := fun d hd2 => by
      refine ⟨_, ha2, ?_, ?_⟩
      · rw [List.length_map]
        exact Nat.lt_of_le_of_lt (by omega : _ ≤ 40) (by decide)
      · refine hK3 _ _ ⟨fun c e hc => ?_, by rw [setM_ne xa]; exact hx2, dd ++ [d], _, ?_, by rw [List.length_append, hl2]; rfl, fun e he => ?_, rfl⟩
        · rw [setM_ne (fun z => by rw [z, ha] at hc; cases hc)]
          exact up _ _ hc
        · rw [setM_same, List.map_append]
          rfl
        · rcases List.mem_append.mp he with he | he
          · exact hd e he
          · rw [List.mem_singleton.mp he]
            exact hd2
    subst hB
    simp (disch := first | assumption | decide) only [wSeq, wNext, wAsg, wgName, wIfS, wB, wOp, wVar, wC, wCall, wCallK, wCons, wNil, wRet, wRetN, wDrop, wTup, wLst, wIf, wAnd, wOr, wNot, wAndV, wOrV, wNotV, wNeg, wChain, fI, fI0, addD, fLt, fLe, fGt, fGe, fIsB, wCB, fAbs, f2I, fInt, fIsq, wPar, wPar3, permD, startE, List.map_cons, List.map_nil, List.cons_append, List.nil_append, List.append_nil, List.length_cons, List.length_nil, List.replicate, List.getElem?_cons_zero, List.getElem?_cons_succ, List.set_cons_zero, List.set_cons_succ, List.getD_cons_zero, List.getD_cons_succ, Nat.reduceAdd, Nat.reduceSub, Nat.zero_add, true_and, and_true, Bool.not_true, Bool.not_false, if_true, if_false, Bool.false_eq_true, reduceIte, decide_eq_true_eq, Bool.not_eq_true', decide_eq_false_iff_not, eqV_int, eqV_str, eqV_bl, decide_true, reduceCtorEq, not_true_eq_false, not_false_eq_true, Bool.not_eq_true, List.not_mem_nil, false_implies, implies_true, Int.reduceNeg, Int.reduceToNat, Int.reducePow, Int.reduceMul, Int.reduceAdd, draw_i, ix_t0, ix_t1, ix_t2, ix_t3, ix_m3, ix_m4, sn_ball_box, sn_cell_box, sn_cell_ball, sn_ball_cell, sn_box_ball, sn_box_cell, decide_false, wApp]
    refine ⟨⟨_, ha2⟩, (take_i (up _ _ W.box) (by decide) (by decide)).mpr fun w w0 w1 => ?_⟩
    refine eqV_int.mpr ?_
    simp (disch := first | assumption | decide) only [wSeq, wNext, wAsg, wgName, wIfS, wB, wOp, wVar, wC, wCall, wCallK, wCons, wNil, wRet, wRetN, wDrop, wTup, wLst, wIf, wAnd, wOr, wNot, wAndV, wOrV, wNotV, wNeg, wChain, fI, fI0, addD, fLt, fLe, fGt, fGe, fIsB, wCB, fAbs, f2I, fInt, fIsq, wPar, wPar3, permD, startE, List.map_cons, List.map_nil, List.cons_append, List.nil_append, List.append_nil, List.length_cons, List.length_nil, List.replicate, List.getElem?_cons_zero, List.getElem?_cons_succ, List.set_cons_zero, List.set_cons_succ, List.getD_cons_zero, List.getD_cons_succ, Nat.reduceAdd, Nat.reduceSub, Nat.zero_add, true_and, and_true, Bool.not_true, Bool.not_false, if_true, if_false, Bool.false_eq_true, reduceIte, decide_eq_true_eq, Bool.not_eq_true', decide_eq_false_iff_not, eqV_int, eqV_str, eqV_bl, decide_true, reduceCtorEq, not_true_eq_false, not_false_eq_true, Bool.not_eq_true, List.not_mem_nil, false_implies, implies_true, Int.reduceNeg, Int.reduceToNat, Int.reducePow, Int.reduceMul, Int.reduceAdd, draw_i, ix_t0, ix_t1, ix_t2, ix_t3, ix_m3, ix_m4, sn_ball_box, sn_cell_box, sn_cell_ball, sn_ball_cell, sn_box_ball, sn_box_cell, decide_false]
    split
    · refine ix_it.1.mpr ⟨by decide, ?_⟩
      exact fin (.take i.key) ib.2
    · refine ⟨by decide, ?_⟩
      exact fin (.put i) ib
  · obtain ⟨up, hx2, dd, v4, ha2, hl2, hd, rfl⟩ := hP
    refine ⟨hx2, ?_⟩
    show K _ _
    subst hK
    simp (disch := first | assumption | decide) only [wSeq, wNext, wAsg, wgName, wIfS, wB, wOp, wVar, wC, wCall, wCallK, wCons, wNil, wRet, wRetN, wDrop, wTup, wLst, wIf, wAnd, wOr, wNot, wAndV, wOrV, wNotV, wNeg, wChain, fI, fI0, addD, fLt, fLe, fGt, fGe, fIsB, wCB, fAbs, f2I, fInt, fIsq, wPar, wPar3, permD, startE, List.map_cons, List.map_nil, List.cons_append, List.nil_append, List.append_nil, List.length_cons, List.length_nil, List.replicate, List.getElem?_cons_zero, List.getElem?_cons_succ, List.set_cons_zero, List.set_cons_succ, List.getD_cons_zero, List.getD_cons_succ, Nat.reduceAdd, Nat.reduceSub, Nat.zero_add, true_and, and_true, Bool.not_true, Bool.not_false, if_true, if_false, Bool.false_eq_true, reduceIte, decide_eq_true_eq, Bool.not_eq_true', decide_eq_false_iff_not, eqV_int, eqV_str, eqV_bl, decide_true, reduceCtorEq, not_true_eq_false, not_false_eq_true, Bool.not_eq_true, List.not_mem_nil, false_implies, implies_true, Int.reduceNeg, Int.reduceToNat, Int.reducePow, Int.reduceMul, Int.reduceAdd, draw_i, ix_t0, ix_t1, ix_t2, ix_t3, ix_m3, ix_m4, sn_ball_box, sn_cell_box, sn_cell_ball, sn_ball_cell, sn_box_ball, sn_box_cell, decide_false, fTuple]
    exact ⟨_, by show (match M' a with | some (.lst ds) => some ds | _ => none) = _; rw [ha2], q dd M' up (by rw [hl2, hl]) hd⟩
theorem wp__law_after : ∀ ds M Q R, F__law_after ds M Q R → W__law_after { nx := fun _ M' => Q .non M', rt := Q, xr := lx R } (startE 5 ds) M := by
  rintro ds M Q R ⟨t0, f, st, dd, rfl, ht0, hf, nd, hl, q⟩
  unfold W__law_after
  refine seq_gen fun K hK => ?_
  simp (disch := first | assumption | decide) only [wSeq, wNext, wAsg, wgName, wIfS, wB, wOp, wVar, wC, wCall, wCallK, wCons, wNil, wRet, wRetN, wDrop, wTup, wLst, wIf, wAnd, wOr, wNot, wAndV, wOrV, wNotV, wNeg, wChain, fI, fI0, addD, fLt, fLe, fGt, fGe, fIsB, wCB, fAbs, f2I, fInt, fIsq, wPar, wPar3, permD, startE, List.map_cons, List.map_nil, List.cons_append, List.nil_append, List.append_nil, List.length_cons, List.length_nil, List.replicate, List.getElem?_cons_zero, List.getElem?_cons_succ, List.set_cons_zero, List.set_cons_succ, List.getD_cons_zero, List.getD_cons_succ, Nat.reduceAdd, Nat.reduceSub, Nat.zero_add, true_and, and_true, Bool.not_true, Bool.not_false, if_true, if_false, Bool.false_eq_true, reduceIte, decide_eq_true_eq, Bool.not_eq_true', decide_eq_false_iff_not, eqV_int, eqV_str, eqV_bl, decide_true, reduceCtorEq, not_true_eq_false, not_false_eq_true, Bool.not_eq_true, List.not_mem_nil, false_implies, implies_true, Int.reduceNeg, Int.reduceToNat, Int.reducePow, Int.reduceMul, Int.reduceAdd, draw_i, ix_t0, ix_t1, ix_t2, ix_t3, ix_m3, ix_m4, sn_ball_box, sn_cell_box, sn_cell_ball, sn_ball_cell, sn_box_ball, sn_box_cell, decide_false, wListI, fDictA]
  rw [ht0]
  dsimp only
  simp (disch := first | assumption | decide) only [wSeq, wNext, wAsg, wgName, wIfS, wB, wOp, wVar, wC, wCall, wCallK, wCons, wNil, wRet, wRetN, wDrop, wTup, wLst, wIf, wAnd, wOr, wNot, wAndV, wOrV, wNotV, wNeg, wChain, fI, fI0, addD, fLt, fLe, fGt, fGe, fIsB, wCB, fAbs, f2I, fInt, fIsq, wPar, wPar3, permD, startE, List.map_cons, List.map_nil, List.cons_append, List.nil_append, List.append_nil, List.length_cons, List.length_nil, List.replicate, List.getElem?_cons_zero, List.getElem?_cons_succ, List.set_cons_zero, List.set_cons_succ, List.getD_cons_zero, List.getD_cons_succ, Nat.reduceAdd, Nat.reduceSub, Nat.zero_add, true_and, and_true, Bool.not_true, Bool.not_false, if_true, if_false, Bool.false_eq_true, reduceIte, decide_eq_true_eq, Bool.not_eq_true', decide_eq_false_iff_not, eqV_int, eqV_str, eqV_bl, decide_true, reduceCtorEq, not_true_eq_false, not_false_eq_true, Bool.not_eq_true, List.not_mem_nil, false_implies, implies_true, Int.reduceNeg, Int.reduceToNat, Int.reducePow, Int.reduceMul, Int.reduceAdd, draw_i, ix_t0, ix_t1, ix_t2, ix_t3, ix_m3, ix_m4, sn_ball_box, sn_cell_box, sn_cell_ball, sn_ball_cell, sn_box_ball, sn_box_cell, decide_false, dicOf]
  refine ⟨stD st, ⟨0, .inr rfl⟩, rfl, fun t ht => ?_⟩
  rw [merge_st nd]
  subst hK
  refine seq_gen fun K hK => ?_
  refine for_gen fun B hB => ?_
  have main : wLoop (wgName 3) B AnyM { nx := K, rt := Q, xr := lx R } (dd.map Dd.d) [some (.tok t0), some f, some (.tok t), none, none] (setM M t (.dic none (stD st))) := by
    refine loop_map Dd.d dd (fun n ρ' M' => Up M M' ∧ M' t = some (.dic none (stD ((dd.take n).foldl doneS st))) ∧ ∃ v3 v4, ρ' = [some (.tok t0), some f, some (.tok t), v3, v4]) (fun n d ρ' M' hd hn hP => ?_) (fun ρ' M' hP => ?_) ⟨up_new ht, setM_same, none, none, rfl⟩
    · obtain ⟨up, hm, v3, v4, rfl⟩ := hP
      refine ⟨True.intro, fun K3 hK3 => ?_⟩
      simp only [wgName, List.set_cons_succ, List.set_cons_zero]
      obtain ⟨fn, fl⟩ := fold_S (dd.take n) st nd
      have e2 : (dd.take (n + 1)).foldl doneS st = doneS ((dd.take n).foldl doneS st) d := by
        rw [List.take_add_one, hd, List.foldl_append]
        rfl
      have up2 : ∀ {M3 : Mp} (c : Cell), Up M M3 → Up M (setM M3 t c) := fun {M3} c u b x hb => by
        rw [setM_ne (fun z => by rw [z, ht] at hb; cases hb)]
        exact u b x hb
      rw [List.length_take] at fl
      generalize (dd.take n).foldl doneS st = s0 at hm e2 fl fn
      subst hB
      refine seq_gen fun K4 hK4 => ?_
      have key : ∀ Q' : D → Mp → Prop, Q' (.int d.key) M' → wIf (wB (wOp (L3.eqV false) (wOp ixD (wVar 3) (wC (.int 0))) (wC (.str "put")))) (wOp ixD (wOp ixD (wVar 3) (wC (.int 1))) (wC (.int 0))) (wOp ixD (wVar 3) (wC (.int 1))) [some (.tok t0), some f, some (.tok t), some d.d, v4] M' Q' := fun Q' h => by
        simp (disch := first | assumption | decide) only [wSeq, wNext, wAsg, wgName, wIfS, wB, wOp, wVar, wC, wCall, wCallK, wCons, wNil, wRet, wRetN, wDrop, wTup, wLst, wIf, wAnd, wOr, wNot, wAndV, wOrV, wNotV, wNeg, wChain, fI, fI0, addD, fLt, fLe, fGt, fGe, fIsB, wCB, fAbs, f2I, fInt, fIsq, wPar, wPar3, permD, startE, List.map_cons, List.map_nil, List.cons_append, List.nil_append, List.append_nil, List.length_cons, List.length_nil, List.replicate, List.getElem?_cons_zero, List.getElem?_cons_succ, List.set_cons_zero, List.set_cons_succ, List.getD_cons_zero, List.getD_cons_succ, Nat.reduceAdd, Nat.reduceSub, Nat.zero_add, true_and, and_true, Bool.not_true, Bool.not_false, if_true, if_false, Bool.false_eq_true, reduceIte, decide_eq_true_eq, Bool.not_eq_true', decide_eq_false_iff_not, eqV_int, eqV_str, eqV_bl, decide_true, reduceCtorEq, not_true_eq_false, not_false_eq_true, Bool.not_eq_true, List.not_mem_nil, false_implies, implies_true, Int.reduceNeg, Int.reduceToNat, Int.reducePow, Int.reduceMul, Int.reduceAdd, draw_i, ix_t0, ix_t1, ix_t2, ix_t3, ix_m3, ix_m4, sn_ball_box, sn_cell_box, sn_cell_ball, sn_ball_cell, sn_box_ball, sn_box_cell, decide_false]
        refine dd_ix0.mpr ?_
        cases d with
        | take k =>
          simp (disch := first | assumption | decide) only [wSeq, wNext, wAsg, wgName, wIfS, wB, wOp, wVar, wC, wCall, wCallK, wCons, wNil, wRet, wRetN, wDrop, wTup, wLst, wIf, wAnd, wOr, wNot, wAndV, wOrV, wNotV, wNeg, wChain, fI, fI0, addD, fLt, fLe, fGt, fGe, fIsB, wCB, fAbs, f2I, fInt, fIsq, wPar, wPar3, permD, startE, List.map_cons, List.map_nil, List.cons_append, List.nil_append, List.append_nil, List.length_cons, List.length_nil, List.replicate, List.getElem?_cons_zero, List.getElem?_cons_succ, List.set_cons_zero, List.set_cons_succ, List.getD_cons_zero, List.getD_cons_succ, Nat.reduceAdd, Nat.reduceSub, Nat.zero_add, true_and, and_true, Bool.not_true, Bool.not_false, if_true, if_false, Bool.false_eq_true, reduceIte, decide_eq_true_eq, Bool.not_eq_true', decide_eq_false_iff_not, eqV_int, eqV_str, eqV_bl, decide_true, reduceCtorEq, not_true_eq_false, not_false_eq_true, Bool.not_eq_true, List.not_mem_nil, false_implies, implies_true, Int.reduceNeg, Int.reduceToNat, Int.reducePow, Int.reduceMul, Int.reduceAdd, draw_i, ix_t0, ix_t1, ix_t2, ix_t3, ix_m3, ix_m4, sn_ball_box, sn_cell_box, sn_cell_ball, sn_ball_cell, sn_box_ball, sn_box_cell, decide_false, put_take]
          exact dd_ix1.mpr h
        | put i =>
          simp (disch := first | assumption | decide) only [wSeq, wNext, wAsg, wgName, wIfS, wB, wOp, wVar, wC, wCall, wCallK, wCons, wNil, wRet, wRetN, wDrop, wTup, wLst, wIf, wAnd, wOr, wNot, wAndV, wOrV, wNotV, wNeg, wChain, fI, fI0, addD, fLt, fLe, fGt, fGe, fIsB, wCB, fAbs, f2I, fInt, fIsq, wPar, wPar3, permD, startE, List.map_cons, List.map_nil, List.cons_append, List.nil_append, List.append_nil, List.length_cons, List.length_nil, List.replicate, List.getElem?_cons_zero, List.getElem?_cons_succ, List.set_cons_zero, List.set_cons_succ, List.getD_cons_zero, List.getD_cons_succ, Nat.reduceAdd, Nat.reduceSub, Nat.zero_add, true_and, and_true, Bool.not_true, Bool.not_false, if_true, if_false, Bool.false_eq_true, reduceIte, decide_eq_true_eq, Bool.not_eq_true', decide_eq_false_iff_not, eqV_int, eqV_str, eqV_bl, decide_true, reduceCtorEq, not_true_eq_false, not_false_eq_true, Bool.not_eq_true, List.not_mem_nil, false_implies, implies_true, Int.reduceNeg, Int.reduceToNat, Int.reducePow, Int.reduceMul, Int.reduceAdd, draw_i, ix_t0, ix_t1, ix_t2, ix_t3, ix_m3, ix_m4, sn_ball_box, sn_cell_box, sn_cell_ball, sn_ball_cell, sn_box_ball, sn_box_cell, decide_false]
          exact dd_ix1.mpr (ix_it.1.mpr h)
      refine key _ ?_
      simp only [wgName, List.set_cons_succ, List.set_cons_zero]
      have rest : ∀ M3, Up M M3 → M3 t = some (.dic none (stD (lessS s0 d.key))) → wIfS (wB (wOp (L3.eqV false) (wOp ixD (wVar 3) (wC (.int 0))) (wC (.str "put")))) (wDPut (wVar 2) (wVar 4) (wOp ixD (wVar 3) (wC (.int 1)))) wNext { nx := K3, rt := Q, bk := K, ct := K3, xr := lx R } [some (.tok t0), some f, some (.tok t), some d.d, some (.int d.key)] M3 := fun M3 u3 h3 => by
        simp (disch := first | assumption | decide) only [wSeq, wNext, wAsg, wgName, wIfS, wB, wOp, wVar, wC, wCall, wCallK, wCons, wNil, wRet, wRetN, wDrop, wTup, wLst, wIf, wAnd, wOr, wNot, wAndV, wOrV, wNotV, wNeg, wChain, fI, fI0, addD, fLt, fLe, fGt, fGe, fIsB, wCB, fAbs, f2I, fInt, fIsq, wPar, wPar3, permD, startE, List.map_cons, List.map_nil, List.cons_append, List.nil_append, List.append_nil, List.length_cons, List.length_nil, List.replicate, List.getElem?_cons_zero, List.getElem?_cons_succ, List.set_cons_zero, List.set_cons_succ, List.getD_cons_zero, List.getD_cons_succ, Nat.reduceAdd, Nat.reduceSub, Nat.zero_add, true_and, and_true, Bool.not_true, Bool.not_false, if_true, if_false, Bool.false_eq_true, reduceIte, decide_eq_true_eq, Bool.not_eq_true', decide_eq_false_iff_not, eqV_int, eqV_str, eqV_bl, decide_true, reduceCtorEq, not_true_eq_false, not_false_eq_true, Bool.not_eq_true, List.not_mem_nil, false_implies, implies_true, Int.reduceNeg, Int.reduceToNat, Int.reducePow, Int.reduceMul, Int.reduceAdd, draw_i, ix_t0, ix_t1, ix_t2, ix_t3, ix_m3, ix_m4, sn_ball_box, sn_cell_box, sn_cell_ball, sn_ball_cell, sn_box_ball, sn_box_cell, decide_false]
        refine dd_ix0.mpr ?_
        cases d with
        | take k =>
          simp (disch := first | assumption | decide) only [wSeq, wNext, wAsg, wgName, wIfS, wB, wOp, wVar, wC, wCall, wCallK, wCons, wNil, wRet, wRetN, wDrop, wTup, wLst, wIf, wAnd, wOr, wNot, wAndV, wOrV, wNotV, wNeg, wChain, fI, fI0, addD, fLt, fLe, fGt, fGe, fIsB, wCB, fAbs, f2I, fInt, fIsq, wPar, wPar3, permD, startE, List.map_cons, List.map_nil, List.cons_append, List.nil_append, List.append_nil, List.length_cons, List.length_nil, List.replicate, List.getElem?_cons_zero, List.getElem?_cons_succ, List.set_cons_zero, List.set_cons_succ, List.getD_cons_zero, List.getD_cons_succ, Nat.reduceAdd, Nat.reduceSub, Nat.zero_add, true_and, and_true, Bool.not_true, Bool.not_false, if_true, if_false, Bool.false_eq_true, reduceIte, decide_eq_true_eq, Bool.not_eq_true', decide_eq_false_iff_not, eqV_int, eqV_str, eqV_bl, decide_true, reduceCtorEq, not_true_eq_false, not_false_eq_true, Bool.not_eq_true, List.not_mem_nil, false_implies, implies_true, Int.reduceNeg, Int.reduceToNat, Int.reducePow, Int.reduceMul, Int.reduceAdd, draw_i, ix_t0, ix_t1, ix_t2, ix_t3, ix_m3, ix_m4, sn_ball_box, sn_cell_box, sn_cell_ball, sn_ball_cell, sn_box_ball, sn_box_cell, decide_false, put_take]
          refine hK3 _ _ ⟨u3, ?_, _, _, rfl⟩
          rw [h3, e2]
          rfl
        | put i =>
          simp (disch := first | assumption | decide) only [wSeq, wNext, wAsg, wgName, wIfS, wB, wOp, wVar, wC, wCall, wCallK, wCons, wNil, wRet, wRetN, wDrop, wTup, wLst, wIf, wAnd, wOr, wNot, wAndV, wOrV, wNotV, wNeg, wChain, fI, fI0, addD, fLt, fLe, fGt, fGe, fIsB, wCB, fAbs, f2I, fInt, fIsq, wPar, wPar3, permD, startE, List.map_cons, List.map_nil, List.cons_append, List.nil_append, List.append_nil, List.length_cons, List.length_nil, List.replicate, List.getElem?_cons_zero, List.getElem?_cons_succ, List.set_cons_zero, List.set_cons_succ, List.getD_cons_zero, List.getD_cons_succ, Nat.reduceAdd, Nat.reduceSub, Nat.zero_add, true_and, and_true, Bool.not_true, Bool.not_false, if_true, if_false, Bool.false_eq_true, reduceIte, decide_eq_true_eq, Bool.not_eq_true', decide_eq_false_iff_not, eqV_int, eqV_str, eqV_bl, decide_true, reduceCtorEq, not_true_eq_false, not_false_eq_true, Bool.not_eq_true, List.not_mem_nil, false_implies, implies_true, Int.reduceNeg, Int.reduceToNat, Int.reducePow, Int.reduceMul, Int.reduceAdd, draw_i, ix_t0, ix_t1, ix_t2, ix_t3, ix_m3, ix_m4, sn_ball_box, sn_cell_box, sn_cell_ball, sn_ball_cell, sn_box_ball, sn_box_cell, decide_false, wDPut]
          refine dd_ix1.mpr ?_
          have ll : (lessS s0 i.key).length ≤ s0.length := List.length_filter_le _ _
          refine dic_put h3 rfl (by rw [st_len]; show (lessS s0 i.key).length ≤ 1000; omega) ?_
          refine hK3 _ _ ⟨up2 _ u3, ?_, _, _, rfl⟩
          rw [setM_same, e2]
          have e3 : putD (stD (lessS s0 i.key)) (.inl i.key) i.d = stD (putS (lessS s0 i.key) i) := st_put _ i
          refine congrArg (fun z => some (Cell.dic none z)) (e3.trans ?_)
          rw [put_new (less_new s0 i.key)]
          rfl
      generalize hR : wIfS (wB (wOp (L3.eqV false) (wOp ixD (wVar 3) (wC (.int 0))) (wC (.str "put")))) (wDPut (wVar 2) (wVar 4) (wOp ixD (wVar 3) (wC (.int 1)))) wNext = Rw at rest hK4
      subst hK4
      refine seq_gen fun K4 hK4 => ?_
      simp (disch := first | assumption | decide) only [wSeq, wNext, wAsg, wgName, wIfS, wB, wOp, wVar, wC, wCall, wCallK, wCons, wNil, wRet, wRetN, wDrop, wTup, wLst, wIf, wAnd, wOr, wNot, wAndV, wOrV, wNotV, wNeg, wChain, fI, fI0, addD, fLt, fLe, fGt, fGe, fIsB, wCB, fAbs, f2I, fInt, fIsq, wPar, wPar3, permD, startE, List.map_cons, List.map_nil, List.cons_append, List.nil_append, List.append_nil, List.length_cons, List.length_nil, List.replicate, List.getElem?_cons_zero, List.getElem?_cons_succ, List.set_cons_zero, List.set_cons_succ, List.getD_cons_zero, List.getD_cons_succ, Nat.reduceAdd, Nat.reduceSub, Nat.zero_add, true_and, and_true, Bool.not_true, Bool.not_false, if_true, if_false, Bool.false_eq_true, reduceIte, decide_eq_true_eq, Bool.not_eq_true', decide_eq_false_iff_not, eqV_int, eqV_str, eqV_bl, decide_true, reduceCtorEq, not_true_eq_false, not_false_eq_true, Bool.not_eq_true, List.not_mem_nil, false_implies, implies_true, Int.reduceNeg, Int.reduceToNat, Int.reducePow, Int.reduceMul, Int.reduceAdd, draw_i, ix_t0, ix_t1, ix_t2, ix_t3, ix_m3, ix_m4, sn_ball_box, sn_cell_box, sn_cell_ball, sn_ball_cell, sn_box_ball, sn_box_cell, decide_false, fDIn, dKey, wDPop1, fDPop1]
      rw [dic_at hm]
      simp (disch := first | assumption | decide) only [wSeq, wNext, wAsg, wgName, wIfS, wB, wOp, wVar, wC, wCall, wCallK, wCons, wNil, wRet, wRetN, wDrop, wTup, wLst, wIf, wAnd, wOr, wNot, wAndV, wOrV, wNotV, wNeg, wChain, fI, fI0, addD, fLt, fLe, fGt, fGe, fIsB, wCB, fAbs, f2I, fInt, fIsq, wPar, wPar3, permD, startE, List.map_cons, List.map_nil, List.cons_append, List.nil_append, List.append_nil, List.length_cons, List.length_nil, List.replicate, List.getElem?_cons_zero, List.getElem?_cons_succ, List.set_cons_zero, List.set_cons_succ, List.getD_cons_zero, List.getD_cons_succ, Nat.reduceAdd, Nat.reduceSub, Nat.zero_add, true_and, and_true, Bool.not_true, Bool.not_false, if_true, if_false, Bool.false_eq_true, reduceIte, decide_eq_true_eq, Bool.not_eq_true', decide_eq_false_iff_not, eqV_int, eqV_str, eqV_bl, decide_true, reduceCtorEq, not_true_eq_false, not_false_eq_true, Bool.not_eq_true, List.not_mem_nil, false_implies, implies_true, Int.reduceNeg, Int.reduceToNat, Int.reducePow, Int.reduceMul, Int.reduceAdd, draw_i, ix_t0, ix_t1, ix_t2, ix_t3, ix_m3, ix_m4, sn_ball_box, sn_cell_box, sn_cell_ball, sn_ball_cell, sn_box_ball, sn_box_cell, decide_false, st_some]
      by_cases hk : d.key ∈ keysS s0
      · rw [if_pos hk]
        refine ⟨⟨_, rfl⟩, ?_⟩
        simp (disch := first | assumption | decide) only [wSeq, wNext, wAsg, wgName, wIfS, wB, wOp, wVar, wC, wCall, wCallK, wCons, wNil, wRet, wRetN, wDrop, wTup, wLst, wIf, wAnd, wOr, wNot, wAndV, wOrV, wNotV, wNeg, wChain, fI, fI0, addD, fLt, fLe, fGt, fGe, fIsB, wCB, fAbs, f2I, fInt, fIsq, wPar, wPar3, permD, startE, List.map_cons, List.map_nil, List.cons_append, List.nil_append, List.append_nil, List.length_cons, List.length_nil, List.replicate, List.getElem?_cons_zero, List.getElem?_cons_succ, List.set_cons_zero, List.set_cons_succ, List.getD_cons_zero, List.getD_cons_succ, Nat.reduceAdd, Nat.reduceSub, Nat.zero_add, true_and, and_true, Bool.not_true, Bool.not_false, if_true, if_false, Bool.false_eq_true, reduceIte, decide_eq_true_eq, Bool.not_eq_true', decide_eq_false_iff_not, eqV_int, eqV_str, eqV_bl, decide_true, reduceCtorEq, not_true_eq_false, not_false_eq_true, Bool.not_eq_true, List.not_mem_nil, false_implies, implies_true, Int.reduceNeg, Int.reduceToNat, Int.reducePow, Int.reduceMul, Int.reduceAdd, draw_i, ix_t0, ix_t1, ix_t2, ix_t3, ix_m3, ix_m4, sn_ball_box, sn_cell_box, sn_cell_ball, sn_ball_cell, sn_box_ball, sn_box_cell, decide_false, hm]
        obtain ⟨i, hi, ei⟩ := List.mem_map.mp hk
        refine ⟨i.d, st_val fn hi ei, ?_⟩
        rw [drop_st]
        subst hK4
        exact rest _ (up2 _ up) setM_same
      · rw [if_neg hk]
        subst hK4
        exact rest _ up (by rw [hm, less_same hk])
    · obtain ⟨up, hm, v3, v4, rfl⟩ := hP
      rw [List.take_length] at hm
      refine ⟨True.intro, ?_⟩
      show K _ _
      subst hK
      simp (disch := first | assumption | decide) only [wSeq, wNext, wAsg, wgName, wIfS, wB, wOp, wVar, wC, wCall, wCallK, wCons, wNil, wRet, wRetN, wDrop, wTup, wLst, wIf, wAnd, wOr, wNot, wAndV, wOrV, wNotV, wNeg, wChain, fI, fI0, addD, fLt, fLe, fGt, fGe, fIsB, wCB, fAbs, f2I, fInt, fIsq, wPar, wPar3, permD, startE, List.map_cons, List.map_nil, List.cons_append, List.nil_append, List.append_nil, List.length_cons, List.length_nil, List.replicate, List.getElem?_cons_zero, List.getElem?_cons_succ, List.set_cons_zero, List.set_cons_succ, List.getD_cons_zero, List.getD_cons_succ, Nat.reduceAdd, Nat.reduceSub, Nat.zero_add, true_and, and_true, Bool.not_true, Bool.not_false, if_true, if_false, Bool.false_eq_true, reduceIte, decide_eq_true_eq, Bool.not_eq_true', decide_eq_false_iff_not, eqV_int, eqV_str, eqV_bl, decide_true, reduceCtorEq, not_true_eq_false, not_false_eq_true, Bool.not_eq_true, List.not_mem_nil, false_implies, implies_true, Int.reduceNeg, Int.reduceToNat, Int.reducePow, Int.reduceMul, Int.reduceAdd, draw_i, ix_t0, ix_t1, ix_t2, ix_t3, ix_m3, ix_m4, sn_ball_box, sn_cell_box, sn_cell_ball, sn_ball_cell, sn_box_ball, sn_box_cell, decide_false]
      exact q t M' up ht hm
  rcases hf with rfl | rfl
  · simp (disch := first | assumption | decide) only [wSeq, wNext, wAsg, wgName, wIfS, wB, wOp, wVar, wC, wCall, wCallK, wCons, wNil, wRet, wRetN, wDrop, wTup, wLst, wIf, wAnd, wOr, wNot, wAndV, wOrV, wNotV, wNeg, wChain, fI, fI0, addD, fLt, fLe, fGt, fGe, fIsB, wCB, fAbs, f2I, fInt, fIsq, wPar, wPar3, permD, startE, List.map_cons, List.map_nil, List.cons_append, List.nil_append, List.append_nil, List.length_cons, List.length_nil, List.replicate, List.getElem?_cons_zero, List.getElem?_cons_succ, List.set_cons_zero, List.set_cons_succ, List.getD_cons_zero, List.getD_cons_succ, Nat.reduceAdd, Nat.reduceSub, Nat.zero_add, true_and, and_true, Bool.not_true, Bool.not_false, if_true, if_false, Bool.false_eq_true, reduceIte, decide_eq_true_eq, Bool.not_eq_true', decide_eq_false_iff_not, eqV_int, eqV_str, eqV_bl, decide_true, reduceCtorEq, not_true_eq_false, not_false_eq_true, Bool.not_eq_true, List.not_mem_nil, false_implies, implies_true, Int.reduceNeg, Int.reduceToNat, Int.reducePow, Int.reduceMul, Int.reduceAdd, draw_i, ix_t0, ix_t1, ix_t2, ix_t3, ix_m3, ix_m4, sn_ball_box, sn_cell_box, sn_cell_ball, sn_ball_cell, sn_box_ball, sn_box_cell, decide_false, wFor, wiSeq]
    exact main
  · simp (disch := first | assumption | decide) only [wSeq, wNext, wAsg, wgName, wIfS, wB, wOp, wVar, wC, wCall, wCallK, wCons, wNil, wRet, wRetN, wDrop, wTup, wLst, wIf, wAnd, wOr, wNot, wAndV, wOrV, wNotV, wNeg, wChain, fI, fI0, addD, fLt, fLe, fGt, fGe, fIsB, wCB, fAbs, f2I, fInt, fIsq, wPar, wPar3, permD, startE, List.map_cons, List.map_nil, List.cons_append, List.nil_append, List.append_nil, List.length_cons, List.length_nil, List.replicate, List.getElem?_cons_zero, List.getElem?_cons_succ, List.set_cons_zero, List.set_cons_succ, List.getD_cons_zero, List.getD_cons_succ, Nat.reduceAdd, Nat.reduceSub, Nat.zero_add, true_and, and_true, Bool.not_true, Bool.not_false, if_true, if_false, Bool.false_eq_true, reduceIte, decide_eq_true_eq, Bool.not_eq_true', decide_eq_false_iff_not, eqV_int, eqV_str, eqV_bl, decide_true, reduceCtorEq, not_true_eq_false, not_false_eq_true, Bool.not_eq_true, List.not_mem_nil, false_implies, implies_true, Int.reduceNeg, Int.reduceToNat, Int.reducePow, Int.reduceMul, Int.reduceAdd, draw_i, ix_t0, ix_t1, ix_t2, ix_t3, ix_m3, ix_m4, sn_ball_box, sn_cell_box, sn_cell_ball, sn_ball_cell, sn_box_ball, sn_box_cell, decide_false, wFor, wiSeq]
    exact main
end K16
namespace K16
open PySem L2 L3
theorem keyed_of {α : Type} {f : α → Int} {l : List α} : ∀ {ys : List Int}, (∀ y ∈ ys, ∃ e ∈ l, f e = y) → ∃ es : List α, ys = es.map f ∧ ∀ e ∈ es, e ∈ l
  | [], _ => ⟨[], rfl, fun e h => nomatch h⟩
  | y :: ys, h => by
    obtain ⟨es, rfl, h2⟩ := keyed_of fun z hz => h z (List.mem_cons_of_mem _ hz)
    obtain ⟨e, he, rfl⟩ := h y List.mem_cons_self
    exact ⟨e :: es, rfl, fun x hx => (List.mem_cons.mp hx).elim (fun z => z ▸ he) (h2 x)⟩
theorem labs_cost : ∀ ls : List (Str × Int), (∀ x ∈ ls, wordOk x.1) → costL (ls.map labD) ≤ 304 * ls.length
  | [], _ => Nat.le_refl _
  | x :: ls, h => by
    have ih := labs_cost ls fun y hy => h y (List.mem_cons_of_mem _ hy)
    have w := (h x List.mem_cons_self).2.2
    have e : cost (labD x) = 10 * x.1.length + 4 + 2 + (210 + 2 + 0) + 4 := by
      unfold labD
      simp only [cost, costL]
    rw [List.map_cons, costL, e, List.length_cons]
    omega
theorem itm_shw {p : Nat} {i : Itm} (p8 : p ≤ 8) (h : itB p i) : shw 3 i.d ∧ cost i.d ≤ 4000 := by
  obtain ⟨h1, _, h3, h4, h5, h6⟩ := h
  constructor
  · unfold Itm.d
    rw [shw]
    intro e he
    simp only [List.mem_cons, List.not_mem_nil, or_false] at he
    rcases he with rfl | rfl | rfl
    · rw [shw]
      omega
    · exact shw_vec (by decide) h1
    · rw [shw]
      intro d hd
      obtain ⟨x, hx, rfl⟩ := List.mem_map.mp hd
      unfold labD
      rw [shw]
      intro y hy
      simp only [List.mem_cons, List.not_mem_nil, or_false] at hy
      rcases hy with rfl | rfl
      · rw [shw]
        exact (h4 x hx).1.1
      · have := h4 x hx
        rw [shw]
        omega
  · have c2 := cost_vec i.vec
    have c3 := labs_cost i.labs fun x hx => (h4 x hx).1
    have l1 := h1.1
    unfold Itm.d
    rw [cost, costL, costL, costL, costL, cost, cost]
    omega
/-- things whose texts are not too long, in a list or a tuple -/
theorem many_shw {α : Type} {g : α → D} {n c : Nat} {l : List α} (h : ∀ a ∈ l, shw n (g a) ∧ cost (g a) ≤ c) : (∀ d ∈ l.map g, shw n d) ∧ costL (l.map g) ≤ (c + 2) * l.length := by
  constructor
  · intro d hd
    obtain ⟨a, ha, rfl⟩ := List.mem_map.mp hd
    exact (h a ha).1
  · induction l with
    | nil => exact Nat.zero_le _
    | cons a l ih =>
      have h1 := ih fun b hb => h b (List.mem_cons_of_mem _ hb)
      have h2 := (h a List.mem_cons_self).2
      rw [List.map_cons, costL, List.length_cons, Nat.mul_add]
      omega
theorem rep_shown {M : Mp} {p : Nat} {st : List Itm} {Q : KD} (p8 : p ≤ 8) (hl : st.length ≤ 100) (h : ∀ i ∈ st, itB p i) (q : Q (.str (shown (.lst (st.map fun i => .tup [.int i.key, i.d])))) M) : fRepr [.lst (st.map fun i => .tup [.int i.key, i.d])] M Q := by
  obtain ⟨s1, s2⟩ := many_shw (l := st) (g := fun i : Itm => D.tup [.int i.key, i.d]) (n := 4) (c := 4300) fun i hi => by
    obtain ⟨a, c⟩ := itm_shw p8 (h i hi)
    have k5 := (h i hi).2.2.2.2
    constructor
    · rw [shw]
      intro e he
      simp only [List.mem_cons, List.not_mem_nil, or_false] at he
      rcases he with rfl | rfl
      · rw [shw]
        omega
      · exact a
    · rw [cost, costL, costL, costL, cost]
      omega
  refine ⟨⟨5, by decide, ?_⟩, ?_, q⟩
  · show shw 5 (.lst (st.map fun i => D.tup [.int i.key, i.d]))
    rw [shw]
    exact s1
  · show cost (.lst (st.map fun i => D.tup [.int i.key, i.d])) ≤ _
    rw [cost]
    have : 4302 * st.length ≤ 4302 * 100 := Nat.mul_le_mul_left _ hl
    omega
theorem wp__law_shown : ∀ ds M Q R, F__law_shown ds M Q R → W__law_shown { nx := fun _ M' => Q .non M', rt := Q, xr := lx R } (startE 2 ds) M := by
  rintro ds M Q R ⟨t, st, p, rfl, ht, p8, ⟨nd, hl, hi⟩, q⟩
  unfold W__law_shown
  simp (disch := first | assumption | decide) only [wSeq, wNext, wAsg, wgName, wIfS, wB, wOp, wVar, wC, wCall, wCallK, wCons, wNil, wRet, wRetN, wDrop, wTup, wLst, wIf, wAnd, wOr, wNot, wAndV, wOrV, wNotV, wNeg, wChain, fI, fI0, addD, fLt, fLe, fGt, fGe, fIsB, wCB, fAbs, f2I, fInt, fIsq, wPar, wPar3, permD, startE, List.map_cons, List.map_nil, List.cons_append, List.nil_append, List.append_nil, List.length_cons, List.length_nil, List.replicate, List.getElem?_cons_zero, List.getElem?_cons_succ, List.set_cons_zero, List.set_cons_succ, List.getD_cons_zero, List.getD_cons_succ, Nat.reduceAdd, Nat.reduceSub, Nat.zero_add, true_and, and_true, Bool.not_true, Bool.not_false, if_true, if_false, Bool.false_eq_true, reduceIte, decide_eq_true_eq, Bool.not_eq_true', decide_eq_false_iff_not, eqV_int, eqV_str, eqV_bl, decide_true, reduceCtorEq, not_true_eq_false, not_false_eq_true, Bool.not_eq_true, List.not_mem_nil, false_implies, implies_true, Int.reduceNeg, Int.reduceToNat, Int.reducePow, Int.reduceMul, Int.reduceAdd, draw_i, ix_t0, ix_t1, ix_t2, ix_t3, ix_m3, ix_m4, sn_ball_box, sn_cell_box, sn_cell_ball, sn_ball_cell, sn_box_ball, sn_box_cell, decide_false, wLc, wiSeq, wipeE, fListK, fSorted]
  rw [dic_at ht]
  dsimp only
  rw [dkeys_st]
  refine ⟨st.map Itm.key, ⟨0, .inr (by rw [List.map_map]; rfl)⟩, by rw [List.map_map]; rfl, by rw [List.length_map]; omega, fun ys hy hp => ?_⟩
  obtain ⟨es, rfl, em⟩ := keyed_of (f := Itm.key) (l := st) fun y h => List.mem_map.mp (hy.mem_iff.mp h)
  have el : es.length = st.length := by
    have := hy.length_eq
    rwa [List.length_map, List.length_map] at this
  rw [List.map_map]
  refine lc_map (D.int ∘ Itm.key) (fun i : Itm => D.tup [.int i.key, i.d]) (show AnyM M from True.intro) es [] (by simp only [List.length_nil]; omega) (fun e he K2 hK2 => ?_) ?_
  · show wgName _ (.int e.key) _ _ _
    simp (disch := first | assumption | decide) only [wSeq, wNext, wAsg, wgName, wIfS, wB, wOp, wVar, wC, wCall, wCallK, wCons, wNil, wRet, wRetN, wDrop, wTup, wLst, wIf, wAnd, wOr, wNot, wAndV, wOrV, wNotV, wNeg, wChain, fI, fI0, addD, fLt, fLe, fGt, fGe, fIsB, wCB, fAbs, f2I, fInt, fIsq, wPar, wPar3, permD, startE, List.map_cons, List.map_nil, List.cons_append, List.nil_append, List.append_nil, List.length_cons, List.length_nil, List.replicate, List.getElem?_cons_zero, List.getElem?_cons_succ, List.set_cons_zero, List.set_cons_succ, List.getD_cons_zero, List.getD_cons_succ, Nat.reduceAdd, Nat.reduceSub, Nat.zero_add, true_and, and_true, Bool.not_true, Bool.not_false, if_true, if_false, Bool.false_eq_true, reduceIte, decide_eq_true_eq, Bool.not_eq_true', decide_eq_false_iff_not, eqV_int, eqV_str, eqV_bl, decide_true, reduceCtorEq, not_true_eq_false, not_false_eq_true, Bool.not_eq_true, List.not_mem_nil, false_implies, implies_true, Int.reduceNeg, Int.reduceToNat, Int.reducePow, Int.reduceMul, Int.reduceAdd, draw_i, ix_t0, ix_t1, ix_t2, ix_t3, ix_m3, ix_m4, sn_ball_box, sn_cell_box, sn_cell_ball, sn_ball_cell, sn_box_ball, sn_box_cell, decide_false, wDGet, fDGet, dKey]
    rw [dic_at ht]
    simp (disch := first | assumption | decide) only [wSeq, wNext, wAsg, wgName, wIfS, wB, wOp, wVar, wC, wCall, wCallK, wCons, wNil, wRet, wRetN, wDrop, wTup, wLst, wIf, wAnd, wOr, wNot, wAndV, wOrV, wNotV, wNeg, wChain, fI, fI0, addD, fLt, fLe, fGt, fGe, fIsB, wCB, fAbs, f2I, fInt, fIsq, wPar, wPar3, permD, startE, List.map_cons, List.map_nil, List.cons_append, List.nil_append, List.append_nil, List.length_cons, List.length_nil, List.replicate, List.getElem?_cons_zero, List.getElem?_cons_succ, List.set_cons_zero, List.set_cons_succ, List.getD_cons_zero, List.getD_cons_succ, Nat.reduceAdd, Nat.reduceSub, Nat.zero_add, true_and, and_true, Bool.not_true, Bool.not_false, if_true, if_false, Bool.false_eq_true, reduceIte, decide_eq_true_eq, Bool.not_eq_true', decide_eq_false_iff_not, eqV_int, eqV_str, eqV_bl, decide_true, reduceCtorEq, not_true_eq_false, not_false_eq_true, Bool.not_eq_true, List.not_mem_nil, false_implies, implies_true, Int.reduceNeg, Int.reduceToNat, Int.reducePow, Int.reduceMul, Int.reduceAdd, draw_i, ix_t0, ix_t1, ix_t2, ix_t3, ix_m3, ix_m4, sn_ball_box, sn_cell_box, sn_cell_ball, sn_ball_cell, sn_box_ball, sn_box_cell, decide_false, st_val nd (em e he) rfl]
    exact ⟨_, rfl, by decide, hK2⟩
  · rw [List.nil_append]
    have ee : es = srtS st := by
      refine ks_one Itm.key (List.pairwise_map.mp hp) (ks_sorted Itm.key _) (hy.nodup_iff.mpr nd) (((ks_perm Itm.key st).map _).nodup_iff.mpr nd) fun x => ⟨fun h => (ks_perm Itm.key st).mem_iff.mpr (em x h), fun h => ?_⟩
      have hx := (ks_perm Itm.key st).mem_iff.mp h
      obtain ⟨e', he', ek⟩ := List.mem_map.mp (hy.mem_iff.mpr (List.mem_map_of_mem (f := Itm.key) hx))
      rw [← item_one nd (em e' he') hx ek]
      exact he'
    subst ee
    exact rep_shown p8 (by omega) (fun i h => hi i (em i h)) q
theorem dd_at {dd : List Dd} {i : Nat} {d : Dd} (h : dd[i]? = some d) : atI (dd.map Dd.d) (i : Int) = some d.d := by
  have hi := (List.getElem?_eq_some_iff.mp h).1
  unfold atI
  have e : ixN (dd.map Dd.d).length (i : Int) = some i := by
    unfold ixN
    rw [List.length_map]
    simp [hi]
  rw [e]
  show (dd.map Dd.d)[i]? = _
  rw [List.getElem?_map, h]
  rfl
theorem ix_dd {M : Mp} {dd : List Dd} {i : Nat} {d : Dd} {e : D} {Q : KD} (hs : seqD M e = some (dd.map Dd.d)) (h : dd[i]? = some d) (q : Q d.d M) : ixD e (.int (i : Int)) M Q := by
  cases e <;> first | exact ⟨_, d.d, hs, dd_at h, q⟩ | cases hs
theorem cut_dropN (xs : List D) (i : Nat) : cutD xs (some (i : Int)) none = xs.drop i := by
  unfold cutD
  rw [HT.sIx_nat, HT.sIx_none]
  rcases Nat.le_total i xs.length with h | h
  · rw [Nat.min_eq_left h, List.take_of_length_le (by rw [List.length_drop]; omega)]
  · rw [Nat.min_eq_right h, List.drop_eq_nil_of_le (Nat.le_refl _), List.drop_eq_nil_of_le h, List.take_nil]
theorem in_intsN {M : Mp} {ns : List Int} {c : Int} {e : D} {Q : KD} {neg : Bool} (h : seqD M e = some (ns.map .int)) (q : Q (.bl (if neg then !decide (c ∈ ns) else decide (c ∈ ns))) M) : fInA neg (.int c) e M Q := by
  refine ⟨_, 1, h, by decide, by simp only [fit], fun x hx => ?_, ?_⟩
  · obtain ⟨i, _, rfl⟩ := List.mem_map.mp hx
    simp only [fit]
  · have e : ((ns.map D.int).any fun x => eqD x (.int c)) = decide (c ∈ ns) := by
      rw [Bool.eq_iff_iff, List.any_eq_true, decide_eq_true_eq]
      constructor
      · rintro ⟨x, hx, he⟩
        obtain ⟨i, hi, rfl⟩ := List.mem_map.mp hx
        have he : PyData.eqv (.int i) (.int c) = true := he
        rw [eqv_int2, decide_eq_true_eq] at he
        exact he ▸ hi
      · exact fun h => ⟨.int c, List.mem_map_of_mem h, by show PyData.eqv (.int c) (.int c) = true; rw [eqv_int2]; exact decide_eq_true rfl⟩
    have e2 : inAB neg (.int c) (ns.map .int) = if neg then !decide (c ∈ ns) else decide (c ∈ ns) := by
      unfold inAB
      rw [e]
    rw [e2]
    exact q
theorem wp__law_last : ∀ ds M Q R, F__law_last ds M Q R → W__law_last { nx := fun _ M' => Q .non M', rt := Q, xr := lx R } (startE 6 ds) M := by
  rintro ds M Q R ⟨dd, rfl, hl, q⟩
  unfold W__law_last
  refine seq_gen fun K hK => ?_
  simp (disch := first | assumption | decide) only [wSeq, wNext, wAsg, wgName, wIfS, wB, wOp, wVar, wC, wCall, wCallK, wCons, wNil, wRet, wRetN, wDrop, wTup, wLst, wIf, wAnd, wOr, wNot, wAndV, wOrV, wNotV, wNeg, wChain, fI, fI0, addD, fLt, fLe, fGt, fGe, fIsB, wCB, fAbs, f2I, fInt, fIsq, wPar, wPar3, permD, startE, List.map_cons, List.map_nil, List.cons_append, List.nil_append, List.append_nil, List.length_cons, List.length_nil, List.replicate, List.getElem?_cons_zero, List.getElem?_cons_succ, List.set_cons_zero, List.set_cons_succ, List.getD_cons_zero, List.getD_cons_succ, Nat.reduceAdd, Nat.reduceSub, Nat.zero_add, true_and, and_true, Bool.not_true, Bool.not_false, if_true, if_false, Bool.false_eq_true, reduceIte, decide_eq_true_eq, Bool.not_eq_true', decide_eq_false_iff_not, eqV_int, eqV_str, eqV_bl, decide_true, reduceCtorEq, not_true_eq_false, not_false_eq_true, Bool.not_eq_true, List.not_mem_nil, false_implies, implies_true, Int.reduceNeg, Int.reduceToNat, Int.reducePow, Int.reduceMul, Int.reduceAdd, draw_i, ix_t0, ix_t1, ix_t2, ix_t3, ix_m3, ix_m4, sn_ball_box, sn_cell_box, sn_cell_ball, sn_ball_cell, sn_box_ball, sn_box_cell, decide_false, wLstM]
  refine ⟨by decide, fun a ha => ?_⟩
  subst hK
  refine seq_gen fun K hK => ?_
  refine for_gen fun B hB => ?_
  simp (disch := first | assumption | decide) only [wSeq, wNext, wAsg, wgName, wIfS, wB, wOp, wVar, wC, wCall, wCallK, wCons, wNil, wRet, wRetN, wDrop, wTup, wLst, wIf, wAnd, wOr, wNot, wAndV, wOrV, wNotV, wNeg, wChain, fI, fI0, addD, fLt, fLe, fGt, fGe, fIsB, wCB, fAbs, f2I, fInt, fIsq, wPar, wPar3, permD, startE, List.map_cons, List.map_nil, List.cons_append, List.nil_append, List.append_nil, List.length_cons, List.length_nil, List.replicate, List.getElem?_cons_zero, List.getElem?_cons_succ, List.set_cons_zero, List.set_cons_succ, List.getD_cons_zero, List.getD_cons_succ, Nat.reduceAdd, Nat.reduceSub, Nat.zero_add, true_and, and_true, Bool.not_true, Bool.not_false, if_true, if_false, Bool.false_eq_true, reduceIte, decide_eq_true_eq, Bool.not_eq_true', decide_eq_false_iff_not, eqV_int, eqV_str, eqV_bl, decide_true, reduceCtorEq, not_true_eq_false, not_false_eq_true, Bool.not_eq_true, List.not_mem_nil, false_implies, implies_true, Int.reduceNeg, Int.reduceToNat, Int.reducePow, Int.reduceMul, Int.reduceAdd, draw_i, ix_t0, ix_t1, ix_t2, ix_t3, ix_m3, ix_m4, sn_ball_box, sn_cell_box, sn_cell_ball, sn_ball_cell, sn_box_ball, sn_box_cell, decide_false, wFor, wiRange1, len_tup]
  refine ⟨by rw [List.length_map]; omega, by omega, ?_⟩
  rw [Int.toNat_natCast, List.length_map]
  refine loop_ix (fun i ρ' M' => Up M M' ∧ ∃ (l : List Dd) (v2 v3 v4 : Option D), M' a = some (.lst ((l.map dkP).map kpD)) ∧ l ++ lastOf (dd.drop i) = lastOf dd ∧ l.length ≤ i ∧ ρ' = [some (.tup (dd.map Dd.d)), some (.tok a), v2, v3, v4, none]) (fun i d ρ' M' hd hP => ?_) (fun ρ' M' hP => ?_) ⟨up_new ha, [], none, none, none, setM_same, rfl, Nat.le_refl _, rfl⟩
  · obtain ⟨up, l, v2, v3, v4, hm, hlast, hll, rfl⟩ := hP
    obtain ⟨li, rfl⟩ := intsD_get hd
    obtain ⟨d, hd⟩ : ∃ d, dd[i]? = some d := ⟨_, List.getElem?_eq_getElem li⟩
    have ez : (0 + (i : Int)) = (i : Int) := by omega
    refine ⟨True.intro, fun K3 hK3 => ?_⟩
    simp only [wgName, List.set_cons_succ, List.set_cons_zero]
    rw [ez]
    have dr : dd.drop i = d :: dd.drop (i + 1) := by
      rw [List.drop_eq_getElem_cons li]
      rw [(List.getElem?_eq_some_iff.mp hd).2]
    subst hB
    refine seq_gen fun K4 hK4 => ?_
    have key : ∀ Q' : D → Mp → Prop, Q' (.int d.key) M' → wIf (wB (wOp (L3.eqV false) (wOp ixD (wOp ixD (wVar 0) (wVar 2)) (wC (.int 0))) (wC (.str "put")))) (wOp ixD (wOp ixD (wOp ixD (wVar 0) (wVar 2)) (wC (.int 1))) (wC (.int 0))) (wOp ixD (wOp ixD (wVar 0) (wVar 2)) (wC (.int 1))) [some (.tup (dd.map Dd.d)), some (.tok a), some (.int (i : Int)), v3, v4, none] M' Q' := fun Q' h => by
      simp (disch := first | assumption | decide) only [wSeq, wNext, wAsg, wgName, wIfS, wB, wOp, wVar, wC, wCall, wCallK, wCons, wNil, wRet, wRetN, wDrop, wTup, wLst, wIf, wAnd, wOr, wNot, wAndV, wOrV, wNotV, wNeg, wChain, fI, fI0, addD, fLt, fLe, fGt, fGe, fIsB, wCB, fAbs, f2I, fInt, fIsq, wPar, wPar3, permD, startE, List.map_cons, List.map_nil, List.cons_append, List.nil_append, List.append_nil, List.length_cons, List.length_nil, List.replicate, List.getElem?_cons_zero, List.getElem?_cons_succ, List.set_cons_zero, List.set_cons_succ, List.getD_cons_zero, List.getD_cons_succ, Nat.reduceAdd, Nat.reduceSub, Nat.zero_add, true_and, and_true, Bool.not_true, Bool.not_false, if_true, if_false, Bool.false_eq_true, reduceIte, decide_eq_true_eq, Bool.not_eq_true', decide_eq_false_iff_not, eqV_int, eqV_str, eqV_bl, decide_true, reduceCtorEq, not_true_eq_false, not_false_eq_true, Bool.not_eq_true, List.not_mem_nil, false_implies, implies_true, Int.reduceNeg, Int.reduceToNat, Int.reducePow, Int.reduceMul, Int.reduceAdd, draw_i, ix_t0, ix_t1, ix_t2, ix_t3, ix_m3, ix_m4, sn_ball_box, sn_cell_box, sn_cell_ball, sn_ball_cell, sn_box_ball, sn_box_cell, decide_false]
      refine ix_dd rfl hd ?_
      refine dd_ix0.mpr ?_
      cases d with
      | take k =>
        simp (disch := first | assumption | decide) only [wSeq, wNext, wAsg, wgName, wIfS, wB, wOp, wVar, wC, wCall, wCallK, wCons, wNil, wRet, wRetN, wDrop, wTup, wLst, wIf, wAnd, wOr, wNot, wAndV, wOrV, wNotV, wNeg, wChain, fI, fI0, addD, fLt, fLe, fGt, fGe, fIsB, wCB, fAbs, f2I, fInt, fIsq, wPar, wPar3, permD, startE, List.map_cons, List.map_nil, List.cons_append, List.nil_append, List.append_nil, List.length_cons, List.length_nil, List.replicate, List.getElem?_cons_zero, List.getElem?_cons_succ, List.set_cons_zero, List.set_cons_succ, List.getD_cons_zero, List.getD_cons_succ, Nat.reduceAdd, Nat.reduceSub, Nat.zero_add, true_and, and_true, Bool.not_true, Bool.not_false, if_true, if_false, Bool.false_eq_true, reduceIte, decide_eq_true_eq, Bool.not_eq_true', decide_eq_false_iff_not, eqV_int, eqV_str, eqV_bl, decide_true, reduceCtorEq, not_true_eq_false, not_false_eq_true, Bool.not_eq_true, List.not_mem_nil, false_implies, implies_true, Int.reduceNeg, Int.reduceToNat, Int.reducePow, Int.reduceMul, Int.reduceAdd, draw_i, ix_t0, ix_t1, ix_t2, ix_t3, ix_m3, ix_m4, sn_ball_box, sn_cell_box, sn_cell_ball, sn_ball_cell, sn_box_ball, sn_box_cell, decide_false, put_take]
        exact ix_dd rfl hd (dd_ix1.mpr h)
      | put i =>
        simp (disch := first | assumption | decide) only [wSeq, wNext, wAsg, wgName, wIfS, wB, wOp, wVar, wC, wCall, wCallK, wCons, wNil, wRet, wRetN, wDrop, wTup, wLst, wIf, wAnd, wOr, wNot, wAndV, wOrV, wNotV, wNeg, wChain, fI, fI0, addD, fLt, fLe, fGt, fGe, fIsB, wCB, fAbs, f2I, fInt, fIsq, wPar, wPar3, permD, startE, List.map_cons, List.map_nil, List.cons_append, List.nil_append, List.append_nil, List.length_cons, List.length_nil, List.replicate, List.getElem?_cons_zero, List.getElem?_cons_succ, List.set_cons_zero, List.set_cons_succ, List.getD_cons_zero, List.getD_cons_succ, Nat.reduceAdd, Nat.reduceSub, Nat.zero_add, true_and, and_true, Bool.not_true, Bool.not_false, if_true, if_false, Bool.false_eq_true, reduceIte, decide_eq_true_eq, Bool.not_eq_true', decide_eq_false_iff_not, eqV_int, eqV_str, eqV_bl, decide_true, reduceCtorEq, not_true_eq_false, not_false_eq_true, Bool.not_eq_true, List.not_mem_nil, false_implies, implies_true, Int.reduceNeg, Int.reduceToNat, Int.reducePow, Int.reduceMul, Int.reduceAdd, draw_i, ix_t0, ix_t1, ix_t2, ix_t3, ix_m3, ix_m4, sn_ball_box, sn_cell_box, sn_cell_ball, sn_ball_cell, sn_box_ball, sn_box_cell, decide_false]
        exact ix_dd rfl hd (dd_ix1.mpr (ix_it.1.mpr h))
    refine key _ ?_
    simp only [wgName, List.set_cons_succ, List.set_cons_zero]
    subst hK4
    refine seq_gen fun K4 hK4 => ?_
    simp (disch := first | assumption | decide) only [wSeq, wNext, wAsg, wgName, wIfS, wB, wOp, wVar, wC, wCall, wCallK, wCons, wNil, wRet, wRetN, wDrop, wTup, wLst, wIf, wAnd, wOr, wNot, wAndV, wOrV, wNotV, wNeg, wChain, fI, fI0, addD, fLt, fLe, fGt, fGe, fIsB, wCB, fAbs, f2I, fInt, fIsq, wPar, wPar3, permD, startE, List.map_cons, List.map_nil, List.cons_append, List.nil_append, List.append_nil, List.length_cons, List.length_nil, List.replicate, List.getElem?_cons_zero, List.getElem?_cons_succ, List.set_cons_zero, List.set_cons_succ, List.getD_cons_zero, List.getD_cons_succ, Nat.reduceAdd, Nat.reduceSub, Nat.zero_add, true_and, and_true, Bool.not_true, Bool.not_false, if_true, if_false, Bool.false_eq_true, reduceIte, decide_eq_true_eq, Bool.not_eq_true', decide_eq_false_iff_not, eqV_int, eqV_str, eqV_bl, decide_true, reduceCtorEq, not_true_eq_false, not_false_eq_true, Bool.not_eq_true, List.not_mem_nil, false_implies, implies_true, Int.reduceNeg, Int.reduceToNat, Int.reducePow, Int.reduceMul, Int.reduceAdd, draw_i, ix_t0, ix_t1, ix_t2, ix_t3, ix_m3, ix_m4, sn_ball_box, sn_cell_box, sn_cell_ball, sn_ball_cell, sn_box_ball, sn_box_cell, decide_false, wLc, wiSeq, wipeE, wSl, wPart, wNoP, slD]
    have e1 : (i : Int) + 1 = ((i + 1 : Nat) : Int) := by omega
    rw [e1, cut_dropN, ← List.map_drop]
    refine lc_map Dd.d (fun d => D.int d.key) (show AnyM M' from True.intro) (dd.drop (i + 1)) [] (by simp only [List.length_nil, List.length_drop]; omega) (fun e he K2 hK2 => ?_) ?_
    · simp (disch := first | assumption | decide) only [wSeq, wNext, wAsg, wgName, wIfS, wB, wOp, wVar, wC, wCall, wCallK, wCons, wNil, wRet, wRetN, wDrop, wTup, wLst, wIf, wAnd, wOr, wNot, wAndV, wOrV, wNotV, wNeg, wChain, fI, fI0, addD, fLt, fLe, fGt, fGe, fIsB, wCB, fAbs, f2I, fInt, fIsq, wPar, wPar3, permD, startE, List.map_cons, List.map_nil, List.cons_append, List.nil_append, List.append_nil, List.length_cons, List.length_nil, List.replicate, List.getElem?_cons_zero, List.getElem?_cons_succ, List.set_cons_zero, List.set_cons_succ, List.getD_cons_zero, List.getD_cons_succ, Nat.reduceAdd, Nat.reduceSub, Nat.zero_add, true_and, and_true, Bool.not_true, Bool.not_false, if_true, if_false, Bool.false_eq_true, reduceIte, decide_eq_true_eq, Bool.not_eq_true', decide_eq_false_iff_not, eqV_int, eqV_str, eqV_bl, decide_true, reduceCtorEq, not_true_eq_false, not_false_eq_true, Bool.not_eq_true, List.not_mem_nil, false_implies, implies_true, Int.reduceNeg, Int.reduceToNat, Int.reducePow, Int.reduceMul, Int.reduceAdd, draw_i, ix_t0, ix_t1, ix_t2, ix_t3, ix_m3, ix_m4, sn_ball_box, sn_cell_box, sn_cell_ball, sn_ball_cell, sn_box_ball, sn_box_cell, decide_false]
      refine dd_ix0.mpr ?_
      cases e with
      | take k =>
        simp (disch := first | assumption | decide) only [wSeq, wNext, wAsg, wgName, wIfS, wB, wOp, wVar, wC, wCall, wCallK, wCons, wNil, wRet, wRetN, wDrop, wTup, wLst, wIf, wAnd, wOr, wNot, wAndV, wOrV, wNotV, wNeg, wChain, fI, fI0, addD, fLt, fLe, fGt, fGe, fIsB, wCB, fAbs, f2I, fInt, fIsq, wPar, wPar3, permD, startE, List.map_cons, List.map_nil, List.cons_append, List.nil_append, List.append_nil, List.length_cons, List.length_nil, List.replicate, List.getElem?_cons_zero, List.getElem?_cons_succ, List.set_cons_zero, List.set_cons_succ, List.getD_cons_zero, List.getD_cons_succ, Nat.reduceAdd, Nat.reduceSub, Nat.zero_add, true_and, and_true, Bool.not_true, Bool.not_false, if_true, if_false, Bool.false_eq_true, reduceIte, decide_eq_true_eq, Bool.not_eq_true', decide_eq_false_iff_not, eqV_int, eqV_str, eqV_bl, decide_true, reduceCtorEq, not_true_eq_false, not_false_eq_true, Bool.not_eq_true, List.not_mem_nil, false_implies, implies_true, Int.reduceNeg, Int.reduceToNat, Int.reducePow, Int.reduceMul, Int.reduceAdd, draw_i, ix_t0, ix_t1, ix_t2, ix_t3, ix_m3, ix_m4, sn_ball_box, sn_cell_box, sn_cell_ball, sn_ball_cell, sn_box_ball, sn_box_cell, decide_false, put_take]
        exact dd_ix1.mpr hK2
      | put i =>
        simp (disch := first | assumption | decide) only [wSeq, wNext, wAsg, wgName, wIfS, wB, wOp, wVar, wC, wCall, wCallK, wCons, wNil, wRet, wRetN, wDrop, wTup, wLst, wIf, wAnd, wOr, wNot, wAndV, wOrV, wNotV, wNeg, wChain, fI, fI0, addD, fLt, fLe, fGt, fGe, fIsB, wCB, fAbs, f2I, fInt, fIsq, wPar, wPar3, permD, startE, List.map_cons, List.map_nil, List.cons_append, List.nil_append, List.append_nil, List.length_cons, List.length_nil, List.replicate, List.getElem?_cons_zero, List.getElem?_cons_succ, List.set_cons_zero, List.set_cons_succ, List.getD_cons_zero, List.getD_cons_succ, Nat.reduceAdd, Nat.reduceSub, Nat.zero_add, true_and, and_true, Bool.not_true, Bool.not_false, if_true, if_false, Bool.false_eq_true, reduceIte, decide_eq_true_eq, Bool.not_eq_true', decide_eq_false_iff_not, eqV_int, eqV_str, eqV_bl, decide_true, reduceCtorEq, not_true_eq_false, not_false_eq_true, Bool.not_eq_true, List.not_mem_nil, false_implies, implies_true, Int.reduceNeg, Int.reduceToNat, Int.reducePow, Int.reduceMul, Int.reduceAdd, draw_i, ix_t0, ix_t1, ix_t2, ix_t3, ix_m3, ix_m4, sn_ball_box, sn_cell_box, sn_cell_ball, sn_ball_cell, sn_box_ball, sn_box_cell, decide_false]
        exact dd_ix1.mpr (ix_it.1.mpr hK2)
    rw [List.nil_append]
    have ek : (dd.drop (i + 1)).map (fun d => D.int d.key) = ((dd.drop (i + 1)).map Dd.key).map D.int := by
      rw [List.map_map]
      rfl
    rw [ek]
    subst hK4
    simp (disch := first | assumption | decide) only [wSeq, wNext, wAsg, wgName, wIfS, wB, wOp, wVar, wC, wCall, wCallK, wCons, wNil, wRet, wRetN, wDrop, wTup, wLst, wIf, wAnd, wOr, wNot, wAndV, wOrV, wNotV, wNeg, wChain, fI, fI0, addD, fLt, fLe, fGt, fGe, fIsB, wCB, fAbs, f2I, fInt, fIsq, wPar, wPar3, permD, startE, List.map_cons, List.map_nil, List.cons_append, List.nil_append, List.append_nil, List.length_cons, List.length_nil, List.replicate, List.getElem?_cons_zero, List.getElem?_cons_succ, List.set_cons_zero, List.set_cons_succ, List.getD_cons_zero, List.getD_cons_succ, Nat.reduceAdd, Nat.reduceSub, Nat.zero_add, true_and, and_true, Bool.not_true, Bool.not_false, if_true, if_false, Bool.false_eq_true, reduceIte, decide_eq_true_eq, Bool.not_eq_true', decide_eq_false_iff_not, eqV_int, eqV_str, eqV_bl, decide_true, reduceCtorEq, not_true_eq_false, not_false_eq_true, Bool.not_eq_true, List.not_mem_nil, false_implies, implies_true, Int.reduceNeg, Int.reduceToNat, Int.reducePow, Int.reduceMul, Int.reduceAdd, draw_i, ix_t0, ix_t1, ix_t2, ix_t3, ix_m3, ix_m4, sn_ball_box, sn_cell_box, sn_cell_ball, sn_ball_cell, sn_box_ball, sn_box_cell, decide_false, wApp]
    refine in_intsN rfl ?_
    rw [dr, lastOf] at hlast
    by_cases h : d.key ∈ (dd.drop (i + 1)).map Dd.key
    · rw [decide_eq_true h]
      rw [if_pos h] at hlast
      refine hK3 _ _ ⟨up, l, _, _, _, hm, hlast, by omega, rfl⟩
    · rw [decide_eq_false h]
      rw [if_neg h] at hlast
      simp (disch := first | assumption | decide) only [wSeq, wNext, wAsg, wgName, wIfS, wB, wOp, wVar, wC, wCall, wCallK, wCons, wNil, wRet, wRetN, wDrop, wTup, wLst, wIf, wAnd, wOr, wNot, wAndV, wOrV, wNotV, wNeg, wChain, fI, fI0, addD, fLt, fLe, fGt, fGe, fIsB, wCB, fAbs, f2I, fInt, fIsq, wPar, wPar3, permD, startE, List.map_cons, List.map_nil, List.cons_append, List.nil_append, List.append_nil, List.length_cons, List.length_nil, List.replicate, List.getElem?_cons_zero, List.getElem?_cons_succ, List.set_cons_zero, List.set_cons_succ, List.getD_cons_zero, List.getD_cons_succ, Nat.reduceAdd, Nat.reduceSub, Nat.zero_add, true_and, and_true, Bool.not_true, Bool.not_false, if_true, if_false, Bool.false_eq_true, reduceIte, decide_eq_true_eq, Bool.not_eq_true', decide_eq_false_iff_not, eqV_int, eqV_str, eqV_bl, decide_true, reduceCtorEq, not_true_eq_false, not_false_eq_true, Bool.not_eq_true, List.not_mem_nil, false_implies, implies_true, Int.reduceNeg, Int.reduceToNat, Int.reducePow, Int.reduceMul, Int.reduceAdd, draw_i, ix_t0, ix_t1, ix_t2, ix_t3, ix_m3, ix_m4, sn_ball_box, sn_cell_box, sn_cell_ball, sn_ball_cell, sn_box_ball, sn_box_cell, decide_false]
      refine ⟨⟨_, hm⟩, ix_dd rfl hd ?_⟩
      refine ⟨by decide, _, hm, ?_, ?_⟩
      · rw [List.length_map, List.length_map]
        exact Nat.lt_of_le_of_lt (by omega : _ ≤ 40) (by decide)
      · refine hK3 _ _ ⟨fun c e hc => ?_, l ++ [d], _, _, _, ?_, by rw [List.append_assoc]; exact hlast, by rw [List.length_append]; exact Nat.succ_le_succ hll, rfl⟩
        · rw [setM_ne (fun z => by rw [z, ha] at hc; cases hc)]
          exact up _ _ hc
        · rw [setM_same, List.map_append, List.map_append]
          rfl
  · obtain ⟨up, l, v2, v3, v4, hm, hlast, hll, rfl⟩ := hP
    rw [intsD_len] at hlast hll
    rw [List.drop_length] at hlast
    have hlast : l = lastOf dd := by
      rw [← hlast]
      unfold lastOf
      rw [List.append_nil]
    subst hlast
    refine ⟨True.intro, ?_⟩
    show K _ _
    subst hK
    simp (disch := first | assumption | decide) only [wSeq, wNext, wAsg, wgName, wIfS, wB, wOp, wVar, wC, wCall, wCallK, wCons, wNil, wRet, wRetN, wDrop, wTup, wLst, wIf, wAnd, wOr, wNot, wAndV, wOrV, wNotV, wNeg, wChain, fI, fI0, addD, fLt, fLe, fGt, fGe, fIsB, wCB, fAbs, f2I, fInt, fIsq, wPar, wPar3, permD, startE, List.map_cons, List.map_nil, List.cons_append, List.nil_append, List.append_nil, List.length_cons, List.length_nil, List.replicate, List.getElem?_cons_zero, List.getElem?_cons_succ, List.set_cons_zero, List.set_cons_succ, List.getD_cons_zero, List.getD_cons_succ, Nat.reduceAdd, Nat.reduceSub, Nat.zero_add, true_and, and_true, Bool.not_true, Bool.not_false, if_true, if_false, Bool.false_eq_true, reduceIte, decide_eq_true_eq, Bool.not_eq_true', decide_eq_false_iff_not, eqV_int, eqV_str, eqV_bl, decide_true, reduceCtorEq, not_true_eq_false, not_false_eq_true, Bool.not_eq_true, List.not_mem_nil, false_implies, implies_true, Int.reduceNeg, Int.reduceToNat, Int.reducePow, Int.reduceMul, Int.reduceAdd, draw_i, ix_t0, ix_t1, ix_t2, ix_t3, ix_m3, ix_m4, sn_ball_box, sn_cell_box, sn_cell_ball, sn_ball_cell, sn_box_ball, sn_box_cell, decide_false, wLc, wiSeq, wipeE, fTuple]
    refine srt_dd ⟨a, .inl rfl⟩ (by show (match M' a with | some (.lst ds) => some ds | _ => none) = _; rw [hm]) (last_nodup dd) ?_
    dsimp only
    refine kp_lc (by decide) (by show 5 < 6; decide) (by have := lastL_len dd; show (lastL dd).length ≤ 1000; omega) ?_
    exact ⟨_, rfl, q M' up⟩
end K16
namespace K16
open PySem L2 L3
theorem mem_setDd {dd : List Dd} {i : Nat} {x d : Dd} (h : d ∈ dd.set i x) : d ∈ dd ∨ d = x := List.mem_or_eq_of_mem_set h
theorem wp__law_changed : ∀ ds M Q R, F__law_changed ds M Q R → W__law_changed { nx := fun _ M' => Q .non M', rt := Q, xr := lx R } (startE 7 ds) M := by
  rintro ds M Q R ⟨b, t, p, ks, ns, dd, rfl, W, d0, d30, hd, q⟩
  unfold W__law_changed
  refine seq_gen fun K hK => ?_
  simp (disch := first | assumption | decide) only [wSeq, wNext, wAsg, wgName, wIfS, wB, wOp, wVar, wC, wCall, wCallK, wCons, wNil, wRet, wRetN, wDrop, wTup, wLst, wIf, wAnd, wOr, wNot, wAndV, wOrV, wNotV, wNeg, wChain, fI, fI0, addD, fLt, fLe, fGt, fGe, fIsB, wCB, fAbs, f2I, fInt, fIsq, wPar, wPar3, permD, startE, List.map_cons, List.map_nil, List.cons_append, List.nil_append, List.append_nil, List.length_cons, List.length_nil, List.replicate, List.getElem?_cons_zero, List.getElem?_cons_succ, List.set_cons_zero, List.set_cons_succ, List.getD_cons_zero, List.getD_cons_succ, Nat.reduceAdd, Nat.reduceSub, Nat.zero_add, true_and, and_true, Bool.not_true, Bool.not_false, if_true, if_false, Bool.false_eq_true, reduceIte, decide_eq_true_eq, Bool.not_eq_true', decide_eq_false_iff_not, eqV_int, eqV_str, eqV_bl, decide_true, reduceCtorEq, not_true_eq_false, not_false_eq_true, Bool.not_eq_true, List.not_mem_nil, false_implies, implies_true, Int.reduceNeg, Int.reduceToNat, Int.reducePow, Int.reduceMul, Int.reduceAdd, draw_i, ix_t0, ix_t1, ix_t2, ix_t3, ix_m3, ix_m4, sn_ball_box, sn_cell_box, sn_cell_ball, sn_ball_cell, sn_box_ball, sn_box_cell, decide_false, fListM]
  refine ⟨_, rfl, fun a ha => ?_⟩
  have ua := up_new (c := .lst (dd.map Dd.d)) ha
  have hma : setM M a (.lst (dd.map Dd.d)) a = some (.lst (dd.map Dd.d)) := setM_same
  generalize setM M a (.lst (dd.map Dd.d)) = M1 at ua hma
  have W1 : WldOk M1 b t p ks ns := { W with box := ua _ _ W.box, keys := ua _ _ W.keys }
  refine ⟨b, t, p, 1, ks, ns, rfl, W1, by decide, fun more M2 up2 hml hmd => ?_⟩
  obtain ⟨x, rfl⟩ : ∃ x, more = [x] := by
    match more, hml with
    | [x], _ => exact ⟨x, rfl⟩
  have hx := hmd x List.mem_cons_self
  have up := ua.trans up2
  have hm2 := up2 _ _ hma
  have hb := up2 _ _ W1.box
  refine ix_dd (i := 0) rfl rfl ?_
  try simp (disch := first | assumption | decide) only [wSeq, wNext, wAsg, wgName, wIfS, wB, wOp, wVar, wC, wCall, wCallK, wCons, wNil, wRet, wRetN, wDrop, wTup, wLst, wIf, wAnd, wOr, wNot, wAndV, wOrV, wNotV, wNeg, wChain, fI, fI0, addD, fLt, fLe, fGt, fGe, fIsB, wCB, fAbs, f2I, fInt, fIsq, wPar, wPar3, permD, startE, List.map_cons, List.map_nil, List.cons_append, List.nil_append, List.append_nil, List.length_cons, List.length_nil, List.replicate, List.getElem?_cons_zero, List.getElem?_cons_succ, List.set_cons_zero, List.set_cons_succ, List.getD_cons_zero, List.getD_cons_succ, Nat.reduceAdd, Nat.reduceSub, Nat.zero_add, true_and, and_true, Bool.not_true, Bool.not_false, if_true, if_false, Bool.false_eq_true, reduceIte, decide_eq_true_eq, Bool.not_eq_true', decide_eq_false_iff_not, eqV_int, eqV_str, eqV_bl, decide_true, reduceCtorEq, not_true_eq_false, not_false_eq_true, Bool.not_eq_true, List.not_mem_nil, false_implies, implies_true, Int.reduceNeg, Int.reduceToNat, Int.reducePow, Int.reduceMul, Int.reduceAdd, draw_i, ix_t0, ix_t1, ix_t2, ix_t3, ix_m3, ix_m4, sn_ball_box, sn_cell_box, sn_cell_ball, sn_ball_cell, sn_box_ball, sn_box_cell, decide_false]
  subst hK
  refine seq_gen fun K hK => ?_
  have fl : ∀ (Q' : KD) (M3 : Mp) (l : List Dd), M3 a = some (.lst (l.map Dd.d)) → Q' (.int (l.length : Int)) M3 → fLen [.tok a] M3 Q' := fun Q' M3 l h z => by
    refine ⟨l.map Dd.d, by show (match M3 a with | some (.lst ds) => some ds | _ => none) = _; rw [h], ?_⟩
    rw [List.length_map]
    exact z
  simp (disch := first | assumption | decide) only [wSeq, wNext, wAsg, wgName, wIfS, wB, wOp, wVar, wC, wCall, wCallK, wCons, wNil, wRet, wRetN, wDrop, wTup, wLst, wIf, wAnd, wOr, wNot, wAndV, wOrV, wNotV, wNeg, wChain, fI, fI0, addD, fLt, fLe, fGt, fGe, fIsB, wCB, fAbs, f2I, fInt, fIsq, wPar, wPar3, permD, startE, List.map_cons, List.map_nil, List.cons_append, List.nil_append, List.append_nil, List.length_cons, List.length_nil, List.replicate, List.getElem?_cons_zero, List.getElem?_cons_succ, List.set_cons_zero, List.set_cons_succ, List.getD_cons_zero, List.getD_cons_succ, Nat.reduceAdd, Nat.reduceSub, Nat.zero_add, true_and, and_true, Bool.not_true, Bool.not_false, if_true, if_false, Bool.false_eq_true, reduceIte, decide_eq_true_eq, Bool.not_eq_true', decide_eq_false_iff_not, eqV_int, eqV_str, eqV_bl, decide_true, reduceCtorEq, not_true_eq_false, not_false_eq_true, Bool.not_eq_true, List.not_mem_nil, false_implies, implies_true, Int.reduceNeg, Int.reduceToNat, Int.reducePow, Int.reduceMul, Int.reduceAdd, draw_i, ix_t0, ix_t1, ix_t2, ix_t3, ix_m3, ix_m4, sn_ball_box, sn_cell_box, sn_cell_ball, sn_ball_cell, sn_box_ball, sn_box_cell, decide_false]
  refine fl _ _ dd hm2 ?_
  refine (take_i hb (by omega) (by omega)).mpr fun i i0 i1 => ?_
  refine (take_i hb (by decide) (by decide)).mpr fun k k0 k1 => ?_
  try simp (disch := first | assumption | decide) only [wSeq, wNext, wAsg, wgName, wIfS, wB, wOp, wVar, wC, wCall, wCallK, wCons, wNil, wRet, wRetN, wDrop, wTup, wLst, wIf, wAnd, wOr, wNot, wAndV, wOrV, wNotV, wNeg, wChain, fI, fI0, addD, fLt, fLe, fGt, fGe, fIsB, wCB, fAbs, f2I, fInt, fIsq, wPar, wPar3, permD, startE, List.map_cons, List.map_nil, List.cons_append, List.nil_append, List.append_nil, List.length_cons, List.length_nil, List.replicate, List.getElem?_cons_zero, List.getElem?_cons_succ, List.set_cons_zero, List.set_cons_succ, List.getD_cons_zero, List.getD_cons_succ, Nat.reduceAdd, Nat.reduceSub, Nat.zero_add, true_and, and_true, Bool.not_true, Bool.not_false, if_true, if_false, Bool.false_eq_true, reduceIte, decide_eq_true_eq, Bool.not_eq_true', decide_eq_false_iff_not, eqV_int, eqV_str, eqV_bl, decide_true, reduceCtorEq, not_true_eq_false, not_false_eq_true, Bool.not_eq_true, List.not_mem_nil, false_implies, implies_true, Int.reduceNeg, Int.reduceToNat, Int.reducePow, Int.reduceMul, Int.reduceAdd, draw_i, ix_t0, ix_t1, ix_t2, ix_t3, ix_m3, ix_m4, sn_ball_box, sn_cell_box, sn_cell_ball, sn_ball_cell, sn_box_ball, sn_box_cell, decide_false]
  obtain ⟨i, rfl⟩ := Int.eq_ofNat_of_zero_le i0
  have hi : i < dd.length := by omega
  obtain ⟨y, hy⟩ : ∃ y, dd[i]? = some y := ⟨_, List.getElem?_eq_getElem hi⟩
  have ym := hd y (List.mem_of_getElem? hy)
  subst hK
  refine seq_gen fun K hK => ?_
  have fin : ∀ (l : List Dd) (v4 : Option D) (M3 : Mp), (∀ c e, M c = some e → M3 c = some e) → M3 a = some (.lst (l.map Dd.d)) → l.length ≤ 32 → (∀ d ∈ l, ddB p ks d) → K [some (.tok b), some (wldD p t ns), some (.tup (dd.map Dd.d)), some (.tok a), v4, some (.int (i : Int)), some (.int k)] M3 := fun l v4 M3 u h hl hd => by
    subst hK
    simp (disch := first | assumption | decide) only [wSeq, wNext, wAsg, wgName, wIfS, wB, wOp, wVar, wC, wCall, wCallK, wCons, wNil, wRet, wRetN, wDrop, wTup, wLst, wIf, wAnd, wOr, wNot, wAndV, wOrV, wNotV, wNeg, wChain, fI, fI0, addD, fLt, fLe, fGt, fGe, fIsB, wCB, fAbs, f2I, fInt, fIsq, wPar, wPar3, permD, startE, List.map_cons, List.map_nil, List.cons_append, List.nil_append, List.append_nil, List.length_cons, List.length_nil, List.replicate, List.getElem?_cons_zero, List.getElem?_cons_succ, List.set_cons_zero, List.set_cons_succ, List.getD_cons_zero, List.getD_cons_succ, Nat.reduceAdd, Nat.reduceSub, Nat.zero_add, true_and, and_true, Bool.not_true, Bool.not_false, if_true, if_false, Bool.false_eq_true, reduceIte, decide_eq_true_eq, Bool.not_eq_true', decide_eq_false_iff_not, eqV_int, eqV_str, eqV_bl, decide_true, reduceCtorEq, not_true_eq_false, not_false_eq_true, Bool.not_eq_true, List.not_mem_nil, false_implies, implies_true, Int.reduceNeg, Int.reduceToNat, Int.reducePow, Int.reduceMul, Int.reduceAdd, draw_i, ix_t0, ix_t1, ix_t2, ix_t3, ix_m3, ix_m4, sn_ball_box, sn_cell_box, sn_cell_ball, sn_ball_cell, sn_box_ball, sn_box_cell, decide_false, fTuple]
    exact ⟨_, by show (match M3 a with | some (.lst ds) => some ds | _ => none) = _; rw [h], q l M3 u hl hd⟩
  have us : ∀ {M3 : Mp} (c : Cell), (∀ c e, M c = some e → M3 c = some e) → ∀ c' e, M c' = some e → setM M3 a c c' = some e := fun {M3} c u c' e hc => by
    rw [setM_ne (fun z => by rw [z, ha] at hc; cases hc)]
    exact u _ _ hc
  simp (disch := first | assumption | decide) only [wSeq, wNext, wAsg, wgName, wIfS, wB, wOp, wVar, wC, wCall, wCallK, wCons, wNil, wRet, wRetN, wDrop, wTup, wLst, wIf, wAnd, wOr, wNot, wAndV, wOrV, wNotV, wNeg, wChain, fI, fI0, addD, fLt, fLe, fGt, fGe, fIsB, wCB, fAbs, f2I, fInt, fIsq, wPar, wPar3, permD, startE, List.map_cons, List.map_nil, List.cons_append, List.nil_append, List.append_nil, List.length_cons, List.length_nil, List.replicate, List.getElem?_cons_zero, List.getElem?_cons_succ, List.set_cons_zero, List.set_cons_succ, List.getD_cons_zero, List.getD_cons_succ, Nat.reduceAdd, Nat.reduceSub, Nat.zero_add, true_and, and_true, Bool.not_true, Bool.not_false, if_true, if_false, Bool.false_eq_true, reduceIte, decide_eq_true_eq, Bool.not_eq_true', decide_eq_false_iff_not, eqV_int, eqV_str, eqV_bl, decide_true, reduceCtorEq, not_true_eq_false, not_false_eq_true, Bool.not_eq_true, List.not_mem_nil, false_implies, implies_true, Int.reduceNeg, Int.reduceToNat, Int.reducePow, Int.reduceMul, Int.reduceAdd, draw_i, ix_t0, ix_t1, ix_t2, ix_t3, ix_m3, ix_m4, sn_ball_box, sn_cell_box, sn_cell_ball, sn_ball_cell, sn_box_ball, sn_box_cell, decide_false, wPopI, wIns, wApp, wgSub, setD]
  by_cases h0 : k = 0
  · rw [if_pos h0]
    refine ⟨⟨_, hm2⟩, i, y.d, dd.map Dd.d, rfl, hm2, by rw [List.getElem?_map, hy]; rfl, by rw [List.length_map]; omega, ?_⟩
    refine fin (dd.eraseIdx i) _ _ (us _ up) ?_ (by have := List.length_eraseIdx_le dd i; omega) fun d h => hd d ((List.eraseIdx_sublist dd i).subset h)
    rw [setM_same, List.eraseIdx_eq_take_drop_succ, List.eraseIdx_eq_take_drop_succ, List.map_append, List.map_take, List.map_drop]
  · rw [if_neg h0]
    by_cases h1 : k = 1
    · rw [if_pos h1]
      refine ⟨_, i, hm2, ?_, ?_⟩
      · unfold ixN
        rw [List.length_map]
        simp [hi]
      · refine fin (dd.set i x) _ _ (us _ up) ?_ (by rw [List.length_set]; omega) fun d h => ?_
        · rw [setM_same, List.map_set]
        · rcases mem_setDd h with h | rfl
          · exact hd d h
          · exact hx
    · rw [if_neg h1]
      by_cases h2 : k = 2
      · rw [if_pos h2]
        refine ⟨⟨_, hm2⟩, i, x.d, dd.map Dd.d, rfl, hm2, ?_, by omega, by omega, ?_⟩
        · rw [List.length_map]
          exact Nat.lt_of_le_of_lt (by omega : _ ≤ 40) (by decide)
        · refine fin (dd.take i ++ [x] ++ dd.drop i) _ _ (us _ up) ?_ ?_ fun d h => ?_
          · rw [setM_same, Int.toNat_natCast, List.map_append, List.map_append, List.map_take, List.map_drop]
            rfl
          · rw [List.length_append, List.length_append, List.length_take, List.length_drop, List.length_singleton]
            omega
          · rcases List.mem_append.mp h with h | h
            · rcases List.mem_append.mp h with h | h
              · exact hd d (List.mem_of_mem_take h)
              · rw [List.mem_singleton.mp h]
                exact hx
            · exact hd d (List.mem_of_mem_drop h)
      · rw [if_neg h2]
        by_cases h3 : k = 3
        · rw [if_pos h3]
          refine ⟨⟨_, hm2⟩, ix_dd (by show (match M2 a with | some (.lst ds) => some ds | _ => none) = _; rw [hm2]) hy ?_⟩
          refine ⟨_, hm2, ?_, ?_⟩
          · rw [List.length_map]
            exact Nat.lt_of_le_of_lt (by omega : _ ≤ 40) (by decide)
          · refine fin (dd ++ [y]) _ _ (us _ up) ?_ (by rw [List.length_append, List.length_singleton]; omega) fun d h => ?_
            · rw [setM_same, List.map_append]
              rfl
            · rcases List.mem_append.mp h with h | h
              · exact hd d h
              · rw [List.mem_singleton.mp h]
                exact ym
        · rw [if_neg h3]
          have e0 : (dd.map Dd.d).take (0 : Int).toNat ++ [x.d] ++ (dd.map Dd.d).drop (0 : Int).toNat = (x :: dd).map Dd.d := by
            rfl
          refine ⟨⟨_, hm2⟩, 0, x.d, dd.map Dd.d, rfl, hm2, ?_, by decide, by decide, ?_⟩
          · rw [List.length_map]
            exact Nat.lt_of_le_of_lt (by omega : _ ≤ 40) (by decide)
          rw [e0]
          have u3 := us (.lst ((x :: dd).map Dd.d)) up
          have hm3 : setM M2 a (.lst ((x :: dd).map Dd.d)) a = some (.lst ((x :: dd).map Dd.d)) := setM_same
          have hb3 : setM M2 a (.lst ((x :: dd).map Dd.d)) b = some .box := by
            rw [setM_ne (fun z => by rw [z, hm2] at hb; cases hb)]
            exact hb
          generalize setM M2 a (.lst ((x :: dd).map Dd.d)) = M3 at u3 hm3 hb3
          refine ⟨⟨_, hm3⟩, fl _ _ (x :: dd) hm3 ?_⟩
          refine (take_i hb3 (by rw [List.length_cons]; omega) (by rw [List.length_cons]; omega)).mpr fun j j0 j1 => ?_
          obtain ⟨j, rfl⟩ := Int.eq_ofNat_of_zero_le j0
          have hj : j < (x :: dd).length := by omega
          obtain ⟨z, hz⟩ : ∃ z, (x :: dd)[j]? = some z := ⟨_, List.getElem?_eq_getElem hj⟩
          have all : ∀ d ∈ x :: dd, ddB p ks d := fun d h => (List.mem_cons.mp h).elim (fun e => e ▸ hx) (hd d)
          refine ix_dd (by show (match M3 a with | some (.lst ds) => some ds | _ => none) = _; rw [hm3]) hz ?_
          refine ⟨_, hm3, ?_, ?_⟩
          · rw [List.length_map, List.length_cons]
            exact Nat.lt_of_le_of_lt (by omega : _ ≤ 40) (by decide)
          · refine fin ((x :: dd) ++ [z]) _ _ (us _ u3) ?_ (by rw [List.length_append, List.length_cons, List.length_singleton]; omega) fun d h => ?_
            · rw [setM_same, List.map_append]
              rfl
            · rcases List.mem_append.mp h with h | h
              · exact all d h
              · rw [List.mem_singleton.mp h]
                exact all z (List.mem_of_getElem? hz)
end K16
namespace K16
open PySem L2 L3
theorem done_i {M : Mp} {e : D} {st : List Itm} {d : Dd} {Q : KD} {R : XF} (he : dicOf M e = some (stD st)) (nd : (keysS st).Nodup) (hl : st.length ≤ 900) (q : ∀ (t : Addr) (M' : Mp), Up M M' → M t = none → M' t = some (.dic none (stD (doneP st d))) → Q (.tok t) M') : F_done [e, d.d] M Q R := ⟨e, st, d, rfl, he, nd, hl, q⟩
theorem all_i {M : Mp} {e : D} {st : List Itm} {dd : List Dd} {Q : KD} {R : XF} (he : dicOf M e = some (stD st)) (nd : (keysS st).Nodup) (hl : st.length + dd.length ≤ 1000) (q : ∀ (t : Addr) (M' : Mp), Up M M' → M t = none → M' t = some (.dic none (stD (dd.foldl doneP st))) → Q (.tok t) M') : F_done_all [e, .tup (dd.map Dd.d)] M Q R := ⟨e, st, dd, rfl, he, nd, hl, q⟩
theorem shown_i {M : Mp} {t : Addr} {st : List Itm} {p : Nat} {Q : KD} {R : XF} (ht : M t = some (.dic none (stD st))) (p8 : p ≤ 8) (sb : stB p 60 st) (q : Q (.str (shownS st)) M) : F__law_shown [.tok t] M Q R := ⟨t, st, p, rfl, ht, p8, sb, q⟩
/-- dicts of the same items, whichever sequence -/
theorem dc_i {M : Mp} {neg : Bool} {d e : D} {a b : List Itm} {p n : Nat} {Q : KD} (hd : dicOf M d = some (stD a)) (he : dicOf M e = some (stD b)) (ha : stB p n a) (hb : stB p n b) (q : Q (.bl (if neg then !eqDc (stD a) (stD b) else eqDc (stD a) (stD b))) M) : fEqDc neg d e M Q :=
  ⟨stD a, stD b, 3, hd, he, by decide, fun x hx => by
    obtain ⟨i, hi, rfl⟩ := List.mem_map.mp hx
    exact fit_itm (ha.2.2 i hi), fun x hx => by
    obtain ⟨i, hi, rfl⟩ := List.mem_map.mp hx
    exact fit_itm (hb.2.2 i hi), q⟩
theorem dc_same {M : Mp} {d e : D} {a b : List Itm} {p n : Nat} {Q : KD} (hd : dicOf M d = some (stD a)) (he : dicOf M e = some (stD b)) (ha : stB p n a) (hb : stB p n b) (s : sameS a b) (q : Q (.bl false) M) : fEqDc true d e M Q := dc_i hd he ha hb (by rw [eqDc_true ha.1 hb.1 s]; exact q)
theorem dc_same2 {M : Mp} {d e : D} {a b : List Itm} {p n : Nat} {Q : KD} (hd : dicOf M d = some (stD a)) (he : dicOf M e = some (stD b)) (ha : stB p n a) (hb : stB p n b) (s : sameS a b) (q : Q (.bl true) M) : fEqDc false d e M Q := dc_i hd he ha hb (by rw [eqDc_true ha.1 hb.1 s]; exact q)
theorem st_upB {p n m : Nat} {st : List Itm} (h : stB p n st) (l : n ≤ m) : stB p m st := ⟨h.1, Nat.le_trans h.2.1 l, h.2.2⟩
theorem stB_P {p n : Nat} {ks : List Int} {dd : List Dd} {st : List Itm} (hd : ∀ d ∈ dd, ddB p ks d) (h : stB p n st) : stB p (n + dd.length) (dd.foldl doneP st) := ⟨(fold_P dd st h.1).1, Nat.le_trans (fold_P dd st h.1).2 (Nat.add_le_add_right h.2.1 _), fold_ok stp_P hd h.2.2⟩
theorem stB_S {p n : Nat} {ks : List Int} {dd : List Dd} {st : List Itm} (hd : ∀ d ∈ dd, ddB p ks d) (h : stB p n st) : stB p (n + dd.length) (dd.foldl doneS st) := ⟨(fold_S dd st h.1).1, Nat.le_trans (fold_S dd st h.1).2 (Nat.add_le_add_right h.2.1 _), fold_ok stp_S hd h.2.2⟩
theorem stB_nil {p n : Nat} : stB p n [] := ⟨List.nodup_nil, Nat.zero_le _, fun i hi => nomatch hi⟩
theorem put_fold (st : List Itm) (is : List Itm) : (is.map Dd.put).foldl doneP st = is.foldl putS st := by
  rw [List.foldl_map]
  rfl
theorem isi_dic {M : Mp} {t : Addr} {lk : Option (Obj × List (Key × V))} {kd : List (Key × D)} {Q : KD} (h : M t = some (.dic lk kd)) (q : Q (.bl true) M) : fIsi [.tok t, .ty "dict"] M Q := by
  refine ⟨"dict", true, ?_, rfl, q⟩
  show (match M t with | some (.lst _) => some "list" | some (.dic _ _) => some "dict" | _ => none) = _
  rw [h]
def isPut : Dd → Bool
  | .put _ => true
  | .take _ => false
theorem puts_of {p : Nat} {ks : List Int} : ∀ {dd : List Dd}, (∀ d ∈ dd, ddB p ks d) → ∃ is : List Itm, dd.filter isPut = is.map Dd.put ∧ ∀ i ∈ is, itB p i ∧ i.key ∈ ks
  | [], _ => ⟨[], rfl, fun i hi => nomatch hi⟩
  | d :: dd, hd => by
    obtain ⟨is, h1, h2⟩ := puts_of fun e he => hd e (List.mem_cons_of_mem _ he)
    cases d with
    | take k => exact ⟨is, h1, h2⟩
    | put i =>
      refine ⟨i :: is, by rw [List.filter_cons_of_pos rfl, h1]; rfl, fun j hj => ?_⟩
      rcases List.mem_cons.mp hj with rfl | hj
      · exact hd _ List.mem_cons_self
      · exact h2 j hj
theorem ok_any (M : Mp) : AnyM M := True.intro
theorem wp__law_run_right : ∀ ds M Q R, F__law_run_right ds M Q R → W__law_run_right { nx := fun _ M' => Q .non M', rt := Q, xr := lx R } (startE 12 ds) M := by
  rintro ds M Q R ⟨b, t, p, ks, ns, rfl, W, q⟩
  have p8 : p ≤ 8 := by have := W.p3; omega
  unfold W__law_run_right
  refine seq_gen fun K hK => ?_
  simp (disch := first | assumption | decide) only [wSeq, wNext, wAsg, wgName, wIfS, wB, wOp, wVar, wC, wCall, wCallK, wCons, wNil, wRet, wRetN, wDrop, wTup, wLst, wIf, wAnd, wOr, wNot, wAndV, wOrV, wNotV, wNeg, wChain, fI, fI0, addD, fLt, fLe, fGt, fGe, fIsB, wCB, fAbs, f2I, fInt, fIsq, wPar, wPar3, permD, startE, List.map_cons, List.map_nil, List.cons_append, List.nil_append, List.append_nil, List.length_cons, List.length_nil, List.replicate, List.getElem?_cons_zero, List.getElem?_cons_succ, List.set_cons_zero, List.set_cons_succ, List.getD_cons_zero, List.getD_cons_succ, Nat.reduceAdd, Nat.reduceSub, Nat.zero_add, true_and, and_true, Bool.not_true, Bool.not_false, if_true, if_false, Bool.false_eq_true, reduceIte, decide_eq_true_eq, Bool.not_eq_true', decide_eq_false_iff_not, eqV_int, eqV_str, eqV_bl, decide_true, reduceCtorEq, not_true_eq_false, not_false_eq_true, Bool.not_eq_true, List.not_mem_nil, false_implies, implies_true, Int.reduceNeg, Int.reduceToNat, Int.reducePow, Int.reduceMul, Int.reduceAdd, draw_i, ix_t0, ix_t1, ix_t2, ix_t3, ix_m3, ix_m4, sn_ball_box, sn_cell_box, sn_cell_ball, sn_ball_cell, sn_box_ball, sn_box_cell, decide_false, wDNew]
  intro u hu
  have u1 := up_new (c := .dic none []) hu
  refine (take_i (u1 _ _ W.box) (by decide) (by decide)).mpr fun w w0 w1 => ?_
  obtain ⟨w, rfl⟩ := Int.eq_ofNat_of_zero_le w0
  have ew : 1 + (w : Int) = ((1 + w : Nat) : Int) := by omega
  try simp (disch := first | assumption | decide) only [wSeq, wNext, wAsg, wgName, wIfS, wB, wOp, wVar, wC, wCall, wCallK, wCons, wNil, wRet, wRetN, wDrop, wTup, wLst, wIf, wAnd, wOr, wNot, wAndV, wOrV, wNotV, wNeg, wChain, fI, fI0, addD, fLt, fLe, fGt, fGe, fIsB, wCB, fAbs, f2I, fInt, fIsq, wPar, wPar3, permD, startE, List.map_cons, List.map_nil, List.cons_append, List.nil_append, List.append_nil, List.length_cons, List.length_nil, List.replicate, List.getElem?_cons_zero, List.getElem?_cons_succ, List.set_cons_zero, List.set_cons_succ, List.getD_cons_zero, List.getD_cons_succ, Nat.reduceAdd, Nat.reduceSub, Nat.zero_add, true_and, and_true, Bool.not_true, Bool.not_false, if_true, if_false, Bool.false_eq_true, reduceIte, decide_eq_true_eq, Bool.not_eq_true', decide_eq_false_iff_not, eqV_int, eqV_str, eqV_bl, decide_true, reduceCtorEq, not_true_eq_false, not_false_eq_true, Bool.not_eq_true, List.not_mem_nil, false_implies, implies_true, Int.reduceNeg, Int.reduceToNat, Int.reducePow, Int.reduceMul, Int.reduceAdd, draw_i, ix_t0, ix_t1, ix_t2, ix_t3, ix_m3, ix_m4, sn_ball_box, sn_cell_box, sn_cell_ball, sn_ball_cell, sn_box_ball, sn_box_cell, decide_false]
  rw [ew]
  refine ⟨b, t, p, 1 + w, ks, ns, rfl, { W with box := u1 _ _ W.box, keys := u1 _ _ W.keys }, by omega, fun dd M1 up1 ll hd => ?_⟩
  try simp (disch := first | assumption | decide) only [wSeq, wNext, wAsg, wgName, wIfS, wB, wOp, wVar, wC, wCall, wCallK, wCons, wNil, wRet, wRetN, wDrop, wTup, wLst, wIf, wAnd, wOr, wNot, wAndV, wOrV, wNotV, wNeg, wChain, fI, fI0, addD, fLt, fLe, fGt, fGe, fIsB, wCB, fAbs, f2I, fInt, fIsq, wPar, wPar3, permD, startE, List.map_cons, List.map_nil, List.cons_append, List.nil_append, List.append_nil, List.length_cons, List.length_nil, List.replicate, List.getElem?_cons_zero, List.getElem?_cons_succ, List.set_cons_zero, List.set_cons_succ, List.getD_cons_zero, List.getD_cons_succ, Nat.reduceAdd, Nat.reduceSub, Nat.zero_add, true_and, and_true, Bool.not_true, Bool.not_false, if_true, if_false, Bool.false_eq_true, reduceIte, decide_eq_true_eq, Bool.not_eq_true', decide_eq_false_iff_not, eqV_int, eqV_str, eqV_bl, decide_true, reduceCtorEq, not_true_eq_false, not_false_eq_true, Bool.not_eq_true, List.not_mem_nil, false_implies, implies_true, Int.reduceNeg, Int.reduceToNat, Int.reducePow, Int.reduceMul, Int.reduceAdd, draw_i, ix_t0, ix_t1, ix_t2, ix_t3, ix_m3, ix_m4, sn_ball_box, sn_cell_box, sn_cell_ball, sn_ball_cell, sn_box_ball, sn_box_cell, decide_false]
  have hu1 := up1 _ _ (setM_same (M := M) (a := u) (c := .dic none []))
  have up := u1.trans up1
  have ld : dd.length ≤ 9 := by omega
  clear u1 up1
  subst hK
  refine seq_gen fun K hK => ?_
  refine for_gen fun B hB => ?_
  simp (disch := first | assumption | decide) only [wSeq, wNext, wAsg, wgName, wIfS, wB, wOp, wVar, wC, wCall, wCallK, wCons, wNil, wRet, wRetN, wDrop, wTup, wLst, wIf, wAnd, wOr, wNot, wAndV, wOrV, wNotV, wNeg, wChain, fI, fI0, addD, fLt, fLe, fGt, fGe, fIsB, wCB, fAbs, f2I, fInt, fIsq, wPar, wPar3, permD, startE, List.map_cons, List.map_nil, List.cons_append, List.nil_append, List.append_nil, List.length_cons, List.length_nil, List.replicate, List.getElem?_cons_zero, List.getElem?_cons_succ, List.set_cons_zero, List.set_cons_succ, List.getD_cons_zero, List.getD_cons_succ, Nat.reduceAdd, Nat.reduceSub, Nat.zero_add, true_and, and_true, Bool.not_true, Bool.not_false, if_true, if_false, Bool.false_eq_true, reduceIte, decide_eq_true_eq, Bool.not_eq_true', decide_eq_false_iff_not, eqV_int, eqV_str, eqV_bl, decide_true, reduceCtorEq, not_true_eq_false, not_false_eq_true, Bool.not_eq_true, List.not_mem_nil, false_implies, implies_true, Int.reduceNeg, Int.reduceToNat, Int.reducePow, Int.reduceMul, Int.reduceAdd, draw_i, ix_t0, ix_t1, ix_t2, ix_t3, ix_m3, ix_m4, sn_ball_box, sn_cell_box, sn_cell_ball, sn_ball_cell, sn_box_ball, sn_box_cell, decide_false, wFor, wiSeq]
  refine loop_map Dd.d dd (fun n ρ' M' => Up M M' ∧ ∃ (x : Addr) (st : List Itm) (v2 v8 v9 v10 : Option D), M' x = some (.dic none (stD st)) ∧ stB p n st ∧ sameS st ((dd.take n).foldl doneP []) ∧ ρ' = [some (.tok b), some (wldD p t ns), v2, none, none, some (.tok x), some (.tup (dd.map Dd.d)), none, v8, v9, v10, none]) (fun n d ρ' M' hdn hn hP => ?_) (fun ρ' M' hP => ?_) ⟨up, u, [], none, none, none, none, hu1, stB_nil, fun j => Iff.rfl, rfl⟩
  · obtain ⟨up, x, st, v2, v8, v9, v10, hx, sb, sm, rfl⟩ := hP
    refine ⟨True.intro, fun K3 hK3 => ?_⟩
    have db := hd d (List.mem_of_getElem? hdn)
    have dbl : ∀ e ∈ [d], ddB p ks e := fun e he => by rw [List.mem_singleton.mp he]; exact db
    have sP := stB_P dbl sb
    have sS := stB_S dbl sb
    have nl : n ≤ 8 := by omega
    simp only [wgName, List.set_cons_succ, List.set_cons_zero]
    subst hB
    refine seq_gen fun K4 hK4 => ?_
    simp (disch := first | assumption | decide) only [wSeq, wNext, wAsg, wgName, wIfS, wB, wOp, wVar, wC, wCall, wCallK, wCons, wNil, wRet, wRetN, wDrop, wTup, wLst, wIf, wAnd, wOr, wNot, wAndV, wOrV, wNotV, wNeg, wChain, fI, fI0, addD, fLt, fLe, fGt, fGe, fIsB, wCB, fAbs, f2I, fInt, fIsq, wPar, wPar3, permD, startE, List.map_cons, List.map_nil, List.cons_append, List.nil_append, List.append_nil, List.length_cons, List.length_nil, List.replicate, List.getElem?_cons_zero, List.getElem?_cons_succ, List.set_cons_zero, List.set_cons_succ, List.getD_cons_zero, List.getD_cons_succ, Nat.reduceAdd, Nat.reduceSub, Nat.zero_add, true_and, and_true, Bool.not_true, Bool.not_false, if_true, if_false, Bool.false_eq_true, reduceIte, decide_eq_true_eq, Bool.not_eq_true', decide_eq_false_iff_not, eqV_int, eqV_str, eqV_bl, decide_true, reduceCtorEq, not_true_eq_false, not_false_eq_true, Bool.not_eq_true, List.not_mem_nil, false_implies, implies_true, Int.reduceNeg, Int.reduceToNat, Int.reducePow, Int.reduceMul, Int.reduceAdd, draw_i, ix_t0, ix_t1, ix_t2, ix_t3, ix_m3, ix_m4, sn_ball_box, sn_cell_box, sn_cell_ball, sn_ball_cell, sn_box_ball, sn_box_cell, decide_false]
    refine done_i (dic_at hx) sb.1 (by have := sb.2.1; omega) fun y M2 up2 hy hy2 => ?_
    have hx2 := up2 _ _ hx
    refine ⟨by decide, x, .tup [d.d], st, [d], rfl, hx2, .inl rfl, sb.1, by have := sb.2.1; simp only [List.length_cons, List.length_nil]; omega, fun z M3 up3 hz hz3 => ?_⟩
    have hx3 := up3 _ _ hx2
    have hy3 := up3 _ _ hy2
    have up4 := (up.trans up2).trans up3
    refine shown_i hx3 p8 (st_upB sb (by omega)) ?_
    try simp (disch := first | assumption | decide) only [wSeq, wNext, wAsg, wgName, wIfS, wB, wOp, wVar, wC, wCall, wCallK, wCons, wNil, wRet, wRetN, wDrop, wTup, wLst, wIf, wAnd, wOr, wNot, wAndV, wOrV, wNotV, wNeg, wChain, fI, fI0, addD, fLt, fLe, fGt, fGe, fIsB, wCB, fAbs, f2I, fInt, fIsq, wPar, wPar3, permD, startE, List.map_cons, List.map_nil, List.cons_append, List.nil_append, List.append_nil, List.length_cons, List.length_nil, List.replicate, List.getElem?_cons_zero, List.getElem?_cons_succ, List.set_cons_zero, List.set_cons_succ, List.getD_cons_zero, List.getD_cons_succ, Nat.reduceAdd, Nat.reduceSub, Nat.zero_add, true_and, and_true, Bool.not_true, Bool.not_false, if_true, if_false, Bool.false_eq_true, reduceIte, decide_eq_true_eq, Bool.not_eq_true', decide_eq_false_iff_not, eqV_int, eqV_str, eqV_bl, decide_true, reduceCtorEq, not_true_eq_false, not_false_eq_true, Bool.not_eq_true, List.not_mem_nil, false_implies, implies_true, Int.reduceNeg, Int.reduceToNat, Int.reducePow, Int.reduceMul, Int.reduceAdd, draw_i, ix_t0, ix_t1, ix_t2, ix_t3, ix_m3, ix_m4, sn_ball_box, sn_cell_box, sn_cell_ball, sn_ball_cell, sn_box_ball, sn_box_cell, decide_false]
    have sPS : sameS ([d].foldl doneP st) ([d].foldl doneS st) := fold_same stp_P stp_S fun j => Iff.rfl
    subst hK4
    refine seq_gen fun K4 hK4 => ?_
    simp (disch := first | assumption | decide) only [wSeq, wNext, wAsg, wgName, wIfS, wB, wOp, wVar, wC, wCall, wCallK, wCons, wNil, wRet, wRetN, wDrop, wTup, wLst, wIf, wAnd, wOr, wNot, wAndV, wOrV, wNotV, wNeg, wChain, fI, fI0, addD, fLt, fLe, fGt, fGe, fIsB, wCB, fAbs, f2I, fInt, fIsq, wPar, wPar3, permD, startE, List.map_cons, List.map_nil, List.cons_append, List.nil_append, List.append_nil, List.length_cons, List.length_nil, List.replicate, List.getElem?_cons_zero, List.getElem?_cons_succ, List.set_cons_zero, List.set_cons_succ, List.getD_cons_zero, List.getD_cons_succ, Nat.reduceAdd, Nat.reduceSub, Nat.zero_add, true_and, and_true, Bool.not_true, Bool.not_false, if_true, if_false, Bool.false_eq_true, reduceIte, decide_eq_true_eq, Bool.not_eq_true', decide_eq_false_iff_not, eqV_int, eqV_str, eqV_bl, decide_true, reduceCtorEq, not_true_eq_false, not_false_eq_true, Bool.not_eq_true, List.not_mem_nil, false_implies, implies_true, Int.reduceNeg, Int.reduceToNat, Int.reducePow, Int.reduceMul, Int.reduceAdd, draw_i, ix_t0, ix_t1, ix_t2, ix_t3, ix_m3, ix_m4, sn_ball_box, sn_cell_box, sn_cell_ball, sn_ball_cell, sn_box_ball, sn_box_cell, decide_false]
    refine isi_dic hy3 ?_
    try simp (disch := first | assumption | decide) only [wSeq, wNext, wAsg, wgName, wIfS, wB, wOp, wVar, wC, wCall, wCallK, wCons, wNil, wRet, wRetN, wDrop, wTup, wLst, wIf, wAnd, wOr, wNot, wAndV, wOrV, wNotV, wNeg, wChain, fI, fI0, addD, fLt, fLe, fGt, fGe, fIsB, wCB, fAbs, f2I, fInt, fIsq, wPar, wPar3, permD, startE, List.map_cons, List.map_nil, List.cons_append, List.nil_append, List.append_nil, List.length_cons, List.length_nil, List.replicate, List.getElem?_cons_zero, List.getElem?_cons_succ, List.set_cons_zero, List.set_cons_succ, List.getD_cons_zero, List.getD_cons_succ, Nat.reduceAdd, Nat.reduceSub, Nat.zero_add, true_and, and_true, Bool.not_true, Bool.not_false, if_true, if_false, Bool.false_eq_true, reduceIte, decide_eq_true_eq, Bool.not_eq_true', decide_eq_false_iff_not, eqV_int, eqV_str, eqV_bl, decide_true, reduceCtorEq, not_true_eq_false, not_false_eq_true, Bool.not_eq_true, List.not_mem_nil, false_implies, implies_true, Int.reduceNeg, Int.reduceToNat, Int.reducePow, Int.reduceMul, Int.reduceAdd, draw_i, ix_t0, ix_t1, ix_t2, ix_t3, ix_m3, ix_m4, sn_ball_box, sn_cell_box, sn_cell_ball, sn_ball_cell, sn_box_ball, sn_box_cell, decide_false]
    refine shown_i hy3 p8 (st_upB sP (by simp only [List.length_cons, List.length_nil]; omega)) (shown_i hz3 p8 (st_upB sS (by simp only [List.length_cons, List.length_nil]; omega)) ?_)
    rw [show shownS (doneP st d) = shownS ([d].foldl doneS st) from shown_same sP.1 sS.1 sPS]
    refine ne_same ?_
    try simp (disch := first | assumption | decide) only [wSeq, wNext, wAsg, wgName, wIfS, wB, wOp, wVar, wC, wCall, wCallK, wCons, wNil, wRet, wRetN, wDrop, wTup, wLst, wIf, wAnd, wOr, wNot, wAndV, wOrV, wNotV, wNeg, wChain, fI, fI0, addD, fLt, fLe, fGt, fGe, fIsB, wCB, fAbs, f2I, fInt, fIsq, wPar, wPar3, permD, startE, List.map_cons, List.map_nil, List.cons_append, List.nil_append, List.append_nil, List.length_cons, List.length_nil, List.replicate, List.getElem?_cons_zero, List.getElem?_cons_succ, List.set_cons_zero, List.set_cons_succ, List.getD_cons_zero, List.getD_cons_succ, Nat.reduceAdd, Nat.reduceSub, Nat.zero_add, true_and, and_true, Bool.not_true, Bool.not_false, if_true, if_false, Bool.false_eq_true, reduceIte, decide_eq_true_eq, Bool.not_eq_true', decide_eq_false_iff_not, eqV_int, eqV_str, eqV_bl, decide_true, reduceCtorEq, not_true_eq_false, not_false_eq_true, Bool.not_eq_true, List.not_mem_nil, false_implies, implies_true, Int.reduceNeg, Int.reduceToNat, Int.reducePow, Int.reduceMul, Int.reduceAdd, draw_i, ix_t0, ix_t1, ix_t2, ix_t3, ix_m3, ix_m4, sn_ball_box, sn_cell_box, sn_cell_ball, sn_ball_cell, sn_box_ball, sn_box_cell, decide_false]
    refine done_i (dic_at hx3) sb.1 (by have := sb.2.1; omega) fun y2 M5 up5 _ hy5 => ?_
    refine dc_same (p := p) (n := n + 1) (dic_at hy5) (dic_at (up5 _ _ hz3)) sP sS sPS ?_
    try simp (disch := first | assumption | decide) only [wSeq, wNext, wAsg, wgName, wIfS, wB, wOp, wVar, wC, wCall, wCallK, wCons, wNil, wRet, wRetN, wDrop, wTup, wLst, wIf, wAnd, wOr, wNot, wAndV, wOrV, wNotV, wNeg, wChain, fI, fI0, addD, fLt, fLe, fGt, fGe, fIsB, wCB, fAbs, f2I, fInt, fIsq, wPar, wPar3, permD, startE, List.map_cons, List.map_nil, List.cons_append, List.nil_append, List.append_nil, List.length_cons, List.length_nil, List.replicate, List.getElem?_cons_zero, List.getElem?_cons_succ, List.set_cons_zero, List.set_cons_succ, List.getD_cons_zero, List.getD_cons_succ, Nat.reduceAdd, Nat.reduceSub, Nat.zero_add, true_and, and_true, Bool.not_true, Bool.not_false, if_true, if_false, Bool.false_eq_true, reduceIte, decide_eq_true_eq, Bool.not_eq_true', decide_eq_false_iff_not, eqV_int, eqV_str, eqV_bl, decide_true, reduceCtorEq, not_true_eq_false, not_false_eq_true, Bool.not_eq_true, List.not_mem_nil, false_implies, implies_true, Int.reduceNeg, Int.reduceToNat, Int.reducePow, Int.reduceMul, Int.reduceAdd, draw_i, ix_t0, ix_t1, ix_t2, ix_t3, ix_m3, ix_m4, sn_ball_box, sn_cell_box, sn_cell_ball, sn_ball_cell, sn_box_ball, sn_box_cell, decide_false]
    have hx5 := up5 _ _ hx3
    have hy35 := up5 _ _ hy3
    have hz5 := up5 _ _ hz3
    have up6 := up4.trans up5
    have yx : x ≠ y := fun e => by
      rw [← e, hx] at hy
      cases hy
    have yz : z ≠ y := fun e => by
      rw [e, hy2] at hz
      cases hz
    have my : M y = none := by
      cases e : M y with
      | none => rfl
      | some c =>
        have := up _ _ e
        rw [hy] at this
        cases this
    subst hK4
    refine seq_gen fun K4 hK4 => ?_
    simp (disch := first | assumption | decide) only [wSeq, wNext, wAsg, wgName, wIfS, wB, wOp, wVar, wC, wCall, wCallK, wCons, wNil, wRet, wRetN, wDrop, wTup, wLst, wIf, wAnd, wOr, wNot, wAndV, wOrV, wNotV, wNeg, wChain, fI, fI0, addD, fLt, fLe, fGt, fGe, fIsB, wCB, fAbs, f2I, fInt, fIsq, wPar, wPar3, permD, startE, List.map_cons, List.map_nil, List.cons_append, List.nil_append, List.append_nil, List.length_cons, List.length_nil, List.replicate, List.getElem?_cons_zero, List.getElem?_cons_succ, List.set_cons_zero, List.set_cons_succ, List.getD_cons_zero, List.getD_cons_succ, Nat.reduceAdd, Nat.reduceSub, Nat.zero_add, true_and, and_true, Bool.not_true, Bool.not_false, if_true, if_false, Bool.false_eq_true, reduceIte, decide_eq_true_eq, Bool.not_eq_true', decide_eq_false_iff_not, eqV_int, eqV_str, eqV_bl, decide_true, reduceCtorEq, not_true_eq_false, not_false_eq_true, Bool.not_eq_true, List.not_mem_nil, false_implies, implies_true, Int.reduceNeg, Int.reduceToNat, Int.reducePow, Int.reduceMul, Int.reduceAdd, draw_i, ix_t0, ix_t1, ix_t2, ix_t3, ix_m3, ix_m4, sn_ball_box, sn_cell_box, sn_cell_ball, sn_ball_cell, sn_box_ball, sn_box_cell, decide_false, wDPut]
    refine dic_put hy35 rfl (by rw [st_len]; have := sP.2.1; simp only [List.length_cons, List.length_nil] at this; show (doneP st d).length ≤ 1000; exact Nat.le_trans this (by omega)) ?_
    have hx6 : ∀ c, setM M5 y c x = some (.dic none (stD st)) := fun c => by rw [setM_ne yx]; exact hx5
    have hz6 : ∀ c, setM M5 y c z = some (.dic none (stD ([d].foldl doneS st))) := fun c => by rw [setM_ne yz]; exact hz5
    have up7 : ∀ c, Up M (setM M5 y c) := fun c a e ha => by
      rw [setM_ne (fun z => by rw [z, my] at ha; cases ha)]
      exact up6 _ _ ha
    refine (fun (h : ∀ M6 : Mp, M6 x = some (.dic none (stD st)) → M6 z = some (.dic none (stD ([d].foldl doneS st))) → Up M M6 → K4 _ M6) => h _ (hx6 _) (hz6 _) (up7 _)) fun M6 hx6 hz6 up7 => ?_
    subst hK4
    refine seq_gen fun K4 hK4 => ?_
    simp (disch := first | assumption | decide) only [wSeq, wNext, wAsg, wgName, wIfS, wB, wOp, wVar, wC, wCall, wCallK, wCons, wNil, wRet, wRetN, wDrop, wTup, wLst, wIf, wAnd, wOr, wNot, wAndV, wOrV, wNotV, wNeg, wChain, fI, fI0, addD, fLt, fLe, fGt, fGe, fIsB, wCB, fAbs, f2I, fInt, fIsq, wPar, wPar3, permD, startE, List.map_cons, List.map_nil, List.cons_append, List.nil_append, List.append_nil, List.length_cons, List.length_nil, List.replicate, List.getElem?_cons_zero, List.getElem?_cons_succ, List.set_cons_zero, List.set_cons_succ, List.getD_cons_zero, List.getD_cons_succ, Nat.reduceAdd, Nat.reduceSub, Nat.zero_add, true_and, and_true, Bool.not_true, Bool.not_false, if_true, if_false, Bool.false_eq_true, reduceIte, decide_eq_true_eq, Bool.not_eq_true', decide_eq_false_iff_not, eqV_int, eqV_str, eqV_bl, decide_true, reduceCtorEq, not_true_eq_false, not_false_eq_true, Bool.not_eq_true, List.not_mem_nil, false_implies, implies_true, Int.reduceNeg, Int.reduceToNat, Int.reducePow, Int.reduceMul, Int.reduceAdd, draw_i, ix_t0, ix_t1, ix_t2, ix_t3, ix_m3, ix_m4, sn_ball_box, sn_cell_box, sn_cell_ball, sn_ball_cell, sn_box_ball, sn_box_cell, decide_false]
    refine shown_i hx6 p8 (st_upB sb (by omega)) (ne_same ?_)
    try simp (disch := first | assumption | decide) only [wSeq, wNext, wAsg, wgName, wIfS, wB, wOp, wVar, wC, wCall, wCallK, wCons, wNil, wRet, wRetN, wDrop, wTup, wLst, wIf, wAnd, wOr, wNot, wAndV, wOrV, wNotV, wNeg, wChain, fI, fI0, addD, fLt, fLe, fGt, fGe, fIsB, wCB, fAbs, f2I, fInt, fIsq, wPar, wPar3, permD, startE, List.map_cons, List.map_nil, List.cons_append, List.nil_append, List.append_nil, List.length_cons, List.length_nil, List.replicate, List.getElem?_cons_zero, List.getElem?_cons_succ, List.set_cons_zero, List.set_cons_succ, List.getD_cons_zero, List.getD_cons_succ, Nat.reduceAdd, Nat.reduceSub, Nat.zero_add, true_and, and_true, Bool.not_true, Bool.not_false, if_true, if_false, Bool.false_eq_true, reduceIte, decide_eq_true_eq, Bool.not_eq_true', decide_eq_false_iff_not, eqV_int, eqV_str, eqV_bl, decide_true, reduceCtorEq, not_true_eq_false, not_false_eq_true, Bool.not_eq_true, List.not_mem_nil, false_implies, implies_true, Int.reduceNeg, Int.reduceToNat, Int.reducePow, Int.reduceMul, Int.reduceAdd, draw_i, ix_t0, ix_t1, ix_t2, ix_t3, ix_m3, ix_m4, sn_ball_box, sn_cell_box, sn_cell_ball, sn_ball_cell, sn_box_ball, sn_box_cell, decide_false]
    refine done_i (dic_at hx6) sb.1 (by have := sb.2.1; omega) fun y3 M7 up8 _ hy7 => ?_
    refine dc_same (p := p) (n := n + 1) (dic_at hy7) (dic_at (up8 _ _ hz6)) sP sS sPS ?_
    try simp (disch := first | assumption | decide) only [wSeq, wNext, wAsg, wgName, wIfS, wB, wOp, wVar, wC, wCall, wCallK, wCons, wNil, wRet, wRetN, wDrop, wTup, wLst, wIf, wAnd, wOr, wNot, wAndV, wOrV, wNotV, wNeg, wChain, fI, fI0, addD, fLt, fLe, fGt, fGe, fIsB, wCB, fAbs, f2I, fInt, fIsq, wPar, wPar3, permD, startE, List.map_cons, List.map_nil, List.cons_append, List.nil_append, List.append_nil, List.length_cons, List.length_nil, List.replicate, List.getElem?_cons_zero, List.getElem?_cons_succ, List.set_cons_zero, List.set_cons_succ, List.getD_cons_zero, List.getD_cons_succ, Nat.reduceAdd, Nat.reduceSub, Nat.zero_add, true_and, and_true, Bool.not_true, Bool.not_false, if_true, if_false, Bool.false_eq_true, reduceIte, decide_eq_true_eq, Bool.not_eq_true', decide_eq_false_iff_not, eqV_int, eqV_str, eqV_bl, decide_true, reduceCtorEq, not_true_eq_false, not_false_eq_true, Bool.not_eq_true, List.not_mem_nil, false_implies, implies_true, Int.reduceNeg, Int.reduceToNat, Int.reducePow, Int.reduceMul, Int.reduceAdd, draw_i, ix_t0, ix_t1, ix_t2, ix_t3, ix_m3, ix_m4, sn_ball_box, sn_cell_box, sn_cell_ball, sn_ball_cell, sn_box_ball, sn_box_cell, decide_false]
    subst hK4
    simp (disch := first | assumption | decide) only [wSeq, wNext, wAsg, wgName, wIfS, wB, wOp, wVar, wC, wCall, wCallK, wCons, wNil, wRet, wRetN, wDrop, wTup, wLst, wIf, wAnd, wOr, wNot, wAndV, wOrV, wNotV, wNeg, wChain, fI, fI0, addD, fLt, fLe, fGt, fGe, fIsB, wCB, fAbs, f2I, fInt, fIsq, wPar, wPar3, permD, startE, List.map_cons, List.map_nil, List.cons_append, List.nil_append, List.append_nil, List.length_cons, List.length_nil, List.replicate, List.getElem?_cons_zero, List.getElem?_cons_succ, List.set_cons_zero, List.set_cons_succ, List.getD_cons_zero, List.getD_cons_succ, Nat.reduceAdd, Nat.reduceSub, Nat.zero_add, true_and, and_true, Bool.not_true, Bool.not_false, if_true, if_false, Bool.false_eq_true, reduceIte, decide_eq_true_eq, Bool.not_eq_true', decide_eq_false_iff_not, eqV_int, eqV_str, eqV_bl, decide_true, reduceCtorEq, not_true_eq_false, not_false_eq_true, Bool.not_eq_true, List.not_mem_nil, false_implies, implies_true, Int.reduceNeg, Int.reduceToNat, Int.reducePow, Int.reduceMul, Int.reduceAdd, draw_i, ix_t0, ix_t1, ix_t2, ix_t3, ix_m3, ix_m4, sn_ball_box, sn_cell_box, sn_cell_ball, sn_ball_cell, sn_box_ball, sn_box_cell, decide_false]
    refine hK3 _ _ ⟨up7.trans up8, z, _, _, _, _, _, up8 _ _ hz6, sS, fun j => ?_, rfl⟩
    rw [List.take_add_one, hdn, List.foldl_append]
    exact fold_same stp_S stp_P sm j
  · obtain ⟨up, x, st, v2, v8, v9, v10, hx, sb, sm, rfl⟩ := hP
    rw [List.take_length] at sm
    refine ⟨True.intro, ?_⟩
    show K _ _
    subst hK
    refine seq_gen fun K hK => ?_
    have sP : stB p 60 (dd.foldl doneP []) := st_upB (stB_P hd (stB_nil (p := p) (n := 0))) (by omega)
    have sb : stB p 60 st := st_upB sb (by omega)
    have nil0 : stD [] = [] := rfl
    -- done_all of the empty dict
    have allN : ∀ {M3 : Mp} {e : Addr} {Q' : KD} {R' : XF}, M3 e = none → (∀ (y : Addr) (M4 : Mp), Up M3 M4 → M3 y = none → M4 y = some (.dic none (stD (dd.foldl doneP []))) → Q' (.tok y) M4) → F_done_all [.tok e, .tup (dd.map Dd.d)] (setM M3 e (.dic none [])) Q' R' := fun {M3 e Q' R'} he h =>
      all_i (st := []) (dic_at setM_same) List.nodup_nil (by simp only [List.length_nil]; omega) fun y M4 u4 hy hy4 => h y M4 ((up_new he).trans u4) (by
        cases z : M3 y with
        | none => rfl
        | some c =>
          rw [up_new he _ _ z] at hy
          cases hy) hy4
    simp (disch := first | assumption | decide) only [wSeq, wNext, wAsg, wgName, wIfS, wB, wOp, wVar, wC, wCall, wCallK, wCons, wNil, wRet, wRetN, wDrop, wTup, wLst, wIf, wAnd, wOr, wNot, wAndV, wOrV, wNotV, wNeg, wChain, fI, fI0, addD, fLt, fLe, fGt, fGe, fIsB, wCB, fAbs, f2I, fInt, fIsq, wPar, wPar3, permD, startE, List.map_cons, List.map_nil, List.cons_append, List.nil_append, List.append_nil, List.length_cons, List.length_nil, List.replicate, List.getElem?_cons_zero, List.getElem?_cons_succ, List.set_cons_zero, List.set_cons_succ, List.getD_cons_zero, List.getD_cons_succ, Nat.reduceAdd, Nat.reduceSub, Nat.zero_add, true_and, and_true, Bool.not_true, Bool.not_false, if_true, if_false, Bool.false_eq_true, reduceIte, decide_eq_true_eq, Bool.not_eq_true', decide_eq_false_iff_not, eqV_int, eqV_str, eqV_bl, decide_true, reduceCtorEq, not_true_eq_false, not_false_eq_true, Bool.not_eq_true, List.not_mem_nil, false_implies, implies_true, Int.reduceNeg, Int.reduceToNat, Int.reducePow, Int.reduceMul, Int.reduceAdd, draw_i, ix_t0, ix_t1, ix_t2, ix_t3, ix_m3, ix_m4, sn_ball_box, sn_cell_box, sn_cell_ball, sn_ball_cell, sn_box_ball, sn_box_cell, decide_false, wDNew]
    intro e he
    refine allN he fun y M2 up2 hy hy2 => ?_
    have up3 := up.trans up2
    have hx2 := up2 _ _ hx
    have my : M y = none := by
      cases z : M y with
      | none => rfl
      | some c =>
        rw [up _ _ z] at hy
        cases hy
    have xy : x ≠ y := fun z => by
      rw [← z, hx] at hy
      cases hy
    subst hK
    refine seq_gen fun K hK => ?_
    simp (disch := first | assumption | decide) only [wSeq, wNext, wAsg, wgName, wIfS, wB, wOp, wVar, wC, wCall, wCallK, wCons, wNil, wRet, wRetN, wDrop, wTup, wLst, wIf, wAnd, wOr, wNot, wAndV, wOrV, wNotV, wNeg, wChain, fI, fI0, addD, fLt, fLe, fGt, fGe, fIsB, wCB, fAbs, f2I, fInt, fIsq, wPar, wPar3, permD, startE, List.map_cons, List.map_nil, List.cons_append, List.nil_append, List.append_nil, List.length_cons, List.length_nil, List.replicate, List.getElem?_cons_zero, List.getElem?_cons_succ, List.set_cons_zero, List.set_cons_succ, List.getD_cons_zero, List.getD_cons_succ, Nat.reduceAdd, Nat.reduceSub, Nat.zero_add, true_and, and_true, Bool.not_true, Bool.not_false, if_true, if_false, Bool.false_eq_true, reduceIte, decide_eq_true_eq, Bool.not_eq_true', decide_eq_false_iff_not, eqV_int, eqV_str, eqV_bl, decide_true, reduceCtorEq, not_true_eq_false, not_false_eq_true, Bool.not_eq_true, List.not_mem_nil, false_implies, implies_true, Int.reduceNeg, Int.reduceToNat, Int.reducePow, Int.reduceMul, Int.reduceAdd, draw_i, ix_t0, ix_t1, ix_t2, ix_t3, ix_m3, ix_m4, sn_ball_box, sn_cell_box, sn_cell_ball, sn_ball_cell, sn_box_ball, sn_box_cell, decide_false, wDNew]
    refine shown_i hy2 p8 sP (shown_i hx2 p8 sb ?_)
    rw [shown_same sP.1 sb.1 fun j => (sm j).symm]
    refine ne_same ?_
    try simp (disch := first | assumption | decide) only [wSeq, wNext, wAsg, wgName, wIfS, wB, wOp, wVar, wC, wCall, wCallK, wCons, wNil, wRet, wRetN, wDrop, wTup, wLst, wIf, wAnd, wOr, wNot, wAndV, wOrV, wNotV, wNeg, wChain, fI, fI0, addD, fLt, fLe, fGt, fGe, fIsB, wCB, fAbs, f2I, fInt, fIsq, wPar, wPar3, permD, startE, List.map_cons, List.map_nil, List.cons_append, List.nil_append, List.append_nil, List.length_cons, List.length_nil, List.replicate, List.getElem?_cons_zero, List.getElem?_cons_succ, List.set_cons_zero, List.set_cons_succ, List.getD_cons_zero, List.getD_cons_succ, Nat.reduceAdd, Nat.reduceSub, Nat.zero_add, true_and, and_true, Bool.not_true, Bool.not_false, if_true, if_false, Bool.false_eq_true, reduceIte, decide_eq_true_eq, Bool.not_eq_true', decide_eq_false_iff_not, eqV_int, eqV_str, eqV_bl, decide_true, reduceCtorEq, not_true_eq_false, not_false_eq_true, Bool.not_eq_true, List.not_mem_nil, false_implies, implies_true, Int.reduceNeg, Int.reduceToNat, Int.reducePow, Int.reduceMul, Int.reduceAdd, draw_i, ix_t0, ix_t1, ix_t2, ix_t3, ix_m3, ix_m4, sn_ball_box, sn_cell_box, sn_cell_ball, sn_ball_cell, sn_box_ball, sn_box_cell, decide_false]
    intro e2 he2
    refine allN he2 fun y2 M4 up4 _ hy4 => ?_
    refine dc_same (p := p) (n := 60) (dic_at hy4) (dic_at (up4 _ _ hx2)) sP sb (fun j => (sm j).symm) ?_
    try simp (disch := first | assumption | decide) only [wSeq, wNext, wAsg, wgName, wIfS, wB, wOp, wVar, wC, wCall, wCallK, wCons, wNil, wRet, wRetN, wDrop, wTup, wLst, wIf, wAnd, wOr, wNot, wAndV, wOrV, wNotV, wNeg, wChain, fI, fI0, addD, fLt, fLe, fGt, fGe, fIsB, wCB, fAbs, f2I, fInt, fIsq, wPar, wPar3, permD, startE, List.map_cons, List.map_nil, List.cons_append, List.nil_append, List.append_nil, List.length_cons, List.length_nil, List.replicate, List.getElem?_cons_zero, List.getElem?_cons_succ, List.set_cons_zero, List.set_cons_succ, List.getD_cons_zero, List.getD_cons_succ, Nat.reduceAdd, Nat.reduceSub, Nat.zero_add, true_and, and_true, Bool.not_true, Bool.not_false, if_true, if_false, Bool.false_eq_true, reduceIte, decide_eq_true_eq, Bool.not_eq_true', decide_eq_false_iff_not, eqV_int, eqV_str, eqV_bl, decide_true, reduceCtorEq, not_true_eq_false, not_false_eq_true, Bool.not_eq_true, List.not_mem_nil, false_implies, implies_true, Int.reduceNeg, Int.reduceToNat, Int.reducePow, Int.reduceMul, Int.reduceAdd, draw_i, ix_t0, ix_t1, ix_t2, ix_t3, ix_m3, ix_m4, sn_ball_box, sn_cell_box, sn_cell_ball, sn_ball_cell, sn_box_ball, sn_box_cell, decide_false]
    have hx4 := up4 _ _ hx2
    have hy24 := up4 _ _ hy2
    have up5 := up3.trans up4
    subst hK
    refine seq_gen fun K hK => ?_
    simp (disch := first | assumption | decide) only [wSeq, wNext, wAsg, wgName, wIfS, wB, wOp, wVar, wC, wCall, wCallK, wCons, wNil, wRet, wRetN, wDrop, wTup, wLst, wIf, wAnd, wOr, wNot, wAndV, wOrV, wNotV, wNeg, wChain, fI, fI0, addD, fLt, fLe, fGt, fGe, fIsB, wCB, fAbs, f2I, fInt, fIsq, wPar, wPar3, permD, startE, List.map_cons, List.map_nil, List.cons_append, List.nil_append, List.append_nil, List.length_cons, List.length_nil, List.replicate, List.getElem?_cons_zero, List.getElem?_cons_succ, List.set_cons_zero, List.set_cons_succ, List.getD_cons_zero, List.getD_cons_succ, Nat.reduceAdd, Nat.reduceSub, Nat.zero_add, true_and, and_true, Bool.not_true, Bool.not_false, if_true, if_false, Bool.false_eq_true, reduceIte, decide_eq_true_eq, Bool.not_eq_true', decide_eq_false_iff_not, eqV_int, eqV_str, eqV_bl, decide_true, reduceCtorEq, not_true_eq_false, not_false_eq_true, Bool.not_eq_true, List.not_mem_nil, false_implies, implies_true, Int.reduceNeg, Int.reduceToNat, Int.reducePow, Int.reduceMul, Int.reduceAdd, draw_i, ix_t0, ix_t1, ix_t2, ix_t3, ix_m3, ix_m4, sn_ball_box, sn_cell_box, sn_cell_ball, sn_ball_cell, sn_box_ball, sn_box_cell, decide_false, wDPut]
    refine dic_put hy24 rfl (by rw [st_len]; have := sP.2.1; omega) ?_
    refine (fun (h : ∀ M6 : Mp, M6 x = some (.dic none (stD st)) → Up M M6 → K _ M6) => h _ (by rw [setM_ne xy]; exact hx4) (fun a c ha => by rw [setM_ne (fun z => by rw [z, my] at ha; cases ha)]; exact up5 _ _ ha)) fun M6 hx6 up6 => ?_
    clear hy24 hy4 hx4 hx2 hy2 up5 up4 up3 up2 hx up
    subst hK
    refine seq_gen fun K hK => ?_
    simp (disch := first | assumption | decide) only [wSeq, wNext, wAsg, wgName, wIfS, wB, wOp, wVar, wC, wCall, wCallK, wCons, wNil, wRet, wRetN, wDrop, wTup, wLst, wIf, wAnd, wOr, wNot, wAndV, wOrV, wNotV, wNeg, wChain, fI, fI0, addD, fLt, fLe, fGt, fGe, fIsB, wCB, fAbs, f2I, fInt, fIsq, wPar, wPar3, permD, startE, List.map_cons, List.map_nil, List.cons_append, List.nil_append, List.append_nil, List.length_cons, List.length_nil, List.replicate, List.getElem?_cons_zero, List.getElem?_cons_succ, List.set_cons_zero, List.set_cons_succ, List.getD_cons_zero, List.getD_cons_succ, Nat.reduceAdd, Nat.reduceSub, Nat.zero_add, true_and, and_true, Bool.not_true, Bool.not_false, if_true, if_false, Bool.false_eq_true, reduceIte, decide_eq_true_eq, Bool.not_eq_true', decide_eq_false_iff_not, eqV_int, eqV_str, eqV_bl, decide_true, reduceCtorEq, not_true_eq_false, not_false_eq_true, Bool.not_eq_true, List.not_mem_nil, false_implies, implies_true, Int.reduceNeg, Int.reduceToNat, Int.reducePow, Int.reduceMul, Int.reduceAdd, draw_i, ix_t0, ix_t1, ix_t2, ix_t3, ix_m3, ix_m4, sn_ball_box, sn_cell_box, sn_cell_ball, sn_ball_cell, sn_box_ball, sn_box_cell, decide_false, wDNew]
    intro e3 he3
    refine allN he3 fun y3 M7 up7 _ hy7 => ?_
    have hx7 := up7 _ _ hx6
    refine dc_same (p := p) (n := 60) (dic_at hy7) (dic_at hx7) sP sb (fun j => (sm j).symm) ?_
    try simp (disch := first | assumption | decide) only [wSeq, wNext, wAsg, wgName, wIfS, wB, wOp, wVar, wC, wCall, wCallK, wCons, wNil, wRet, wRetN, wDrop, wTup, wLst, wIf, wAnd, wOr, wNot, wAndV, wOrV, wNotV, wNeg, wChain, fI, fI0, addD, fLt, fLe, fGt, fGe, fIsB, wCB, fAbs, f2I, fInt, fIsq, wPar, wPar3, permD, startE, List.map_cons, List.map_nil, List.cons_append, List.nil_append, List.append_nil, List.length_cons, List.length_nil, List.replicate, List.getElem?_cons_zero, List.getElem?_cons_succ, List.set_cons_zero, List.set_cons_succ, List.getD_cons_zero, List.getD_cons_succ, Nat.reduceAdd, Nat.reduceSub, Nat.zero_add, true_and, and_true, Bool.not_true, Bool.not_false, if_true, if_false, Bool.false_eq_true, reduceIte, decide_eq_true_eq, Bool.not_eq_true', decide_eq_false_iff_not, eqV_int, eqV_str, eqV_bl, decide_true, reduceCtorEq, not_true_eq_false, not_false_eq_true, Bool.not_eq_true, List.not_mem_nil, false_implies, implies_true, Int.reduceNeg, Int.reduceToNat, Int.reducePow, Int.reduceMul, Int.reduceAdd, draw_i, ix_t0, ix_t1, ix_t2, ix_t3, ix_m3, ix_m4, sn_ball_box, sn_cell_box, sn_cell_ball, sn_ball_cell, sn_box_ball, sn_box_cell, decide_false]
    refine ⟨by decide, all_i (dd := []) (dic_at hx7) sb.1 (by have := sb.2.1; simp only [List.length_nil]; omega) fun y4 M8 up8 _ hy8 => ?_⟩
    refine dc_same (p := p) (n := 60) (dic_at hy8) (dic_at (up8 _ _ hx7)) sb sb (fun j => Iff.rfl) ?_
    try simp (disch := first | assumption | decide) only [wSeq, wNext, wAsg, wgName, wIfS, wB, wOp, wVar, wC, wCall, wCallK, wCons, wNil, wRet, wRetN, wDrop, wTup, wLst, wIf, wAnd, wOr, wNot, wAndV, wOrV, wNotV, wNeg, wChain, fI, fI0, addD, fLt, fLe, fGt, fGe, fIsB, wCB, fAbs, f2I, fInt, fIsq, wPar, wPar3, permD, startE, List.map_cons, List.map_nil, List.cons_append, List.nil_append, List.append_nil, List.length_cons, List.length_nil, List.replicate, List.getElem?_cons_zero, List.getElem?_cons_succ, List.set_cons_zero, List.set_cons_succ, List.getD_cons_zero, List.getD_cons_succ, Nat.reduceAdd, Nat.reduceSub, Nat.zero_add, true_and, and_true, Bool.not_true, Bool.not_false, if_true, if_false, Bool.false_eq_true, reduceIte, decide_eq_true_eq, Bool.not_eq_true', decide_eq_false_iff_not, eqV_int, eqV_str, eqV_bl, decide_true, reduceCtorEq, not_true_eq_false, not_false_eq_true, Bool.not_eq_true, List.not_mem_nil, false_implies, implies_true, Int.reduceNeg, Int.reduceToNat, Int.reducePow, Int.reduceMul, Int.reduceAdd, draw_i, ix_t0, ix_t1, ix_t2, ix_t3, ix_m3, ix_m4, sn_ball_box, sn_cell_box, sn_cell_ball, sn_ball_cell, sn_box_ball, sn_box_cell, decide_false]
    have hx8 := up8 _ _ hx7
    have upb := (up6.trans up7).trans up8
    subst hK
    refine seq_gen fun K hK => ?_
    simp (disch := first | assumption | decide) only [wSeq, wNext, wAsg, wgName, wIfS, wB, wOp, wVar, wC, wCall, wCallK, wCons, wNil, wRet, wRetN, wDrop, wTup, wLst, wIf, wAnd, wOr, wNot, wAndV, wOrV, wNotV, wNeg, wChain, fI, fI0, addD, fLt, fLe, fGt, fGe, fIsB, wCB, fAbs, f2I, fInt, fIsq, wPar, wPar3, permD, startE, List.map_cons, List.map_nil, List.cons_append, List.nil_append, List.append_nil, List.length_cons, List.length_nil, List.replicate, List.getElem?_cons_zero, List.getElem?_cons_succ, List.set_cons_zero, List.set_cons_succ, List.getD_cons_zero, List.getD_cons_succ, Nat.reduceAdd, Nat.reduceSub, Nat.zero_add, true_and, and_true, Bool.not_true, Bool.not_false, if_true, if_false, Bool.false_eq_true, reduceIte, decide_eq_true_eq, Bool.not_eq_true', decide_eq_false_iff_not, eqV_int, eqV_str, eqV_bl, decide_true, reduceCtorEq, not_true_eq_false, not_false_eq_true, Bool.not_eq_true, List.not_mem_nil, false_implies, implies_true, Int.reduceNeg, Int.reduceToNat, Int.reducePow, Int.reduceMul, Int.reduceAdd, draw_i, ix_t0, ix_t1, ix_t2, ix_t3, ix_m3, ix_m4, sn_ball_box, sn_cell_box, sn_cell_ball, sn_ball_cell, sn_box_ball, sn_box_cell, decide_false]
    refine ⟨by decide, all_i (dd := []) (dic_at hx8) sb.1 (by have := sb.2.1; simp only [List.length_nil]; omega) fun z M9 up9 hz hz9 => ?_⟩
    have hx9 := up9 _ _ hx8
    have upc := upb.trans up9
    have mz : M z = none := by
      cases w : M z with
      | none => rfl
      | some c =>
        rw [upb _ _ w] at hz
        cases hz
    have xz : x ≠ z := fun w => by
      rw [← w, hx8] at hz
      cases hz
    refine shown_i hx9 p8 sb ?_
    try simp (disch := first | assumption | decide) only [wSeq, wNext, wAsg, wgName, wIfS, wB, wOp, wVar, wC, wCall, wCallK, wCons, wNil, wRet, wRetN, wDrop, wTup, wLst, wIf, wAnd, wOr, wNot, wAndV, wOrV, wNotV, wNeg, wChain, fI, fI0, addD, fLt, fLe, fGt, fGe, fIsB, wCB, fAbs, f2I, fInt, fIsq, wPar, wPar3, permD, startE, List.map_cons, List.map_nil, List.cons_append, List.nil_append, List.append_nil, List.length_cons, List.length_nil, List.replicate, List.getElem?_cons_zero, List.getElem?_cons_succ, List.set_cons_zero, List.set_cons_succ, List.getD_cons_zero, List.getD_cons_succ, Nat.reduceAdd, Nat.reduceSub, Nat.zero_add, true_and, and_true, Bool.not_true, Bool.not_false, if_true, if_false, Bool.false_eq_true, reduceIte, decide_eq_true_eq, Bool.not_eq_true', decide_eq_false_iff_not, eqV_int, eqV_str, eqV_bl, decide_true, reduceCtorEq, not_true_eq_false, not_false_eq_true, Bool.not_eq_true, List.not_mem_nil, false_implies, implies_true, Int.reduceNeg, Int.reduceToNat, Int.reducePow, Int.reduceMul, Int.reduceAdd, draw_i, ix_t0, ix_t1, ix_t2, ix_t3, ix_m3, ix_m4, sn_ball_box, sn_cell_box, sn_cell_ball, sn_ball_cell, sn_box_ball, sn_box_cell, decide_false]
    subst hK
    refine seq_gen fun K hK => ?_
    simp (disch := first | assumption | decide) only [wSeq, wNext, wAsg, wgName, wIfS, wB, wOp, wVar, wC, wCall, wCallK, wCons, wNil, wRet, wRetN, wDrop, wTup, wLst, wIf, wAnd, wOr, wNot, wAndV, wOrV, wNotV, wNeg, wChain, fI, fI0, addD, fLt, fLe, fGt, fGe, fIsB, wCB, fAbs, f2I, fInt, fIsq, wPar, wPar3, permD, startE, List.map_cons, List.map_nil, List.cons_append, List.nil_append, List.append_nil, List.length_cons, List.length_nil, List.replicate, List.getElem?_cons_zero, List.getElem?_cons_succ, List.set_cons_zero, List.set_cons_succ, List.getD_cons_zero, List.getD_cons_succ, Nat.reduceAdd, Nat.reduceSub, Nat.zero_add, true_and, and_true, Bool.not_true, Bool.not_false, if_true, if_false, Bool.false_eq_true, reduceIte, decide_eq_true_eq, Bool.not_eq_true', decide_eq_false_iff_not, eqV_int, eqV_str, eqV_bl, decide_true, reduceCtorEq, not_true_eq_false, not_false_eq_true, Bool.not_eq_true, List.not_mem_nil, false_implies, implies_true, Int.reduceNeg, Int.reduceToNat, Int.reducePow, Int.reduceMul, Int.reduceAdd, draw_i, ix_t0, ix_t1, ix_t2, ix_t3, ix_m3, ix_m4, sn_ball_box, sn_cell_box, sn_cell_ball, sn_ball_cell, sn_box_ball, sn_box_cell, decide_false, wDPut]
    refine dic_put hz9 rfl (by rw [st_len]; have := sb.2.1; exact Nat.le_trans this (by decide)) ?_
    refine (fun (h : ∀ M6 : Mp, M6 x = some (.dic none (stD st)) → Up M M6 → K _ M6) => h _ (by rw [setM_ne xz]; exact hx9) (fun a c ha => by rw [setM_ne (fun w => by rw [w, mz] at ha; cases ha)]; exact upc _ _ ha)) fun Ma hxa upa => ?_
    subst hK
    refine seq_gen fun K hK => ?_
    simp (disch := first | assumption | decide) only [wSeq, wNext, wAsg, wgName, wIfS, wB, wOp, wVar, wC, wCall, wCallK, wCons, wNil, wRet, wRetN, wDrop, wTup, wLst, wIf, wAnd, wOr, wNot, wAndV, wOrV, wNotV, wNeg, wChain, fI, fI0, addD, fLt, fLe, fGt, fGe, fIsB, wCB, fAbs, f2I, fInt, fIsq, wPar, wPar3, permD, startE, List.map_cons, List.map_nil, List.cons_append, List.nil_append, List.append_nil, List.length_cons, List.length_nil, List.replicate, List.getElem?_cons_zero, List.getElem?_cons_succ, List.set_cons_zero, List.set_cons_succ, List.getD_cons_zero, List.getD_cons_succ, Nat.reduceAdd, Nat.reduceSub, Nat.zero_add, true_and, and_true, Bool.not_true, Bool.not_false, if_true, if_false, Bool.false_eq_true, reduceIte, decide_eq_true_eq, Bool.not_eq_true', decide_eq_false_iff_not, eqV_int, eqV_str, eqV_bl, decide_true, reduceCtorEq, not_true_eq_false, not_false_eq_true, Bool.not_eq_true, List.not_mem_nil, false_implies, implies_true, Int.reduceNeg, Int.reduceToNat, Int.reducePow, Int.reduceMul, Int.reduceAdd, draw_i, ix_t0, ix_t1, ix_t2, ix_t3, ix_m3, ix_m4, sn_ball_box, sn_cell_box, sn_cell_ball, sn_ball_cell, sn_box_ball, sn_box_cell, decide_false]
    refine shown_i hxa p8 sb (ne_same ?_)
    try simp (disch := first | assumption | decide) only [wSeq, wNext, wAsg, wgName, wIfS, wB, wOp, wVar, wC, wCall, wCallK, wCons, wNil, wRet, wRetN, wDrop, wTup, wLst, wIf, wAnd, wOr, wNot, wAndV, wOrV, wNotV, wNeg, wChain, fI, fI0, addD, fLt, fLe, fGt, fGe, fIsB, wCB, fAbs, f2I, fInt, fIsq, wPar, wPar3, permD, startE, List.map_cons, List.map_nil, List.cons_append, List.nil_append, List.append_nil, List.length_cons, List.length_nil, List.replicate, List.getElem?_cons_zero, List.getElem?_cons_succ, List.set_cons_zero, List.set_cons_succ, List.getD_cons_zero, List.getD_cons_succ, Nat.reduceAdd, Nat.reduceSub, Nat.zero_add, true_and, and_true, Bool.not_true, Bool.not_false, if_true, if_false, Bool.false_eq_true, reduceIte, decide_eq_true_eq, Bool.not_eq_true', decide_eq_false_iff_not, eqV_int, eqV_str, eqV_bl, decide_true, reduceCtorEq, not_true_eq_false, not_false_eq_true, Bool.not_eq_true, List.not_mem_nil, false_implies, implies_true, Int.reduceNeg, Int.reduceToNat, Int.reducePow, Int.reduceMul, Int.reduceAdd, draw_i, ix_t0, ix_t1, ix_t2, ix_t3, ix_m3, ix_m4, sn_ball_box, sn_cell_box, sn_cell_ball, sn_ball_cell, sn_box_ball, sn_box_cell, decide_false]
    subst hK
    refine seq_gen fun K hK => ?_
    simp (disch := first | assumption | decide) only [wSeq, wNext, wAsg, wgName, wIfS, wB, wOp, wVar, wC, wCall, wCallK, wCons, wNil, wRet, wRetN, wDrop, wTup, wLst, wIf, wAnd, wOr, wNot, wAndV, wOrV, wNotV, wNeg, wChain, fI, fI0, addD, fLt, fLe, fGt, fGe, fIsB, wCB, fAbs, f2I, fInt, fIsq, wPar, wPar3, permD, startE, List.map_cons, List.map_nil, List.cons_append, List.nil_append, List.append_nil, List.length_cons, List.length_nil, List.replicate, List.getElem?_cons_zero, List.getElem?_cons_succ, List.set_cons_zero, List.set_cons_succ, List.getD_cons_zero, List.getD_cons_succ, Nat.reduceAdd, Nat.reduceSub, Nat.zero_add, true_and, and_true, Bool.not_true, Bool.not_false, if_true, if_false, Bool.false_eq_true, reduceIte, decide_eq_true_eq, Bool.not_eq_true', decide_eq_false_iff_not, eqV_int, eqV_str, eqV_bl, decide_true, reduceCtorEq, not_true_eq_false, not_false_eq_true, Bool.not_eq_true, List.not_mem_nil, false_implies, implies_true, Int.reduceNeg, Int.reduceToNat, Int.reducePow, Int.reduceMul, Int.reduceAdd, draw_i, ix_t0, ix_t1, ix_t2, ix_t3, ix_m3, ix_m4, sn_ball_box, sn_cell_box, sn_cell_ball, sn_ball_cell, sn_box_ball, sn_box_cell, decide_false, wLc, wiSeq, wipeE]
    obtain ⟨is, his, hib⟩ := puts_of hd
    have isl : is.length ≤ 9 := by
      have := congrArg List.length his
      rw [List.length_map] at this
      have := List.length_filter_le isPut dd
      omega
    have dputs : ∀ d ∈ is.map Dd.put, ddB p ks d := fun d h => by
      obtain ⟨i, hi, rfl⟩ := List.mem_map.mp h
      exact hib i hi
    have sA : stB p 60 (is.foldl putS []) := by
      rw [← put_fold]
      exact st_upB (stB_P dputs (stB_nil (p := p) (n := 0))) (by rw [List.length_map]; omega)
    have sB2 : stB p 60 ((is.map Dd.put).foldl doneS []) := st_upB (stB_S dputs (stB_nil (p := p) (n := 0))) (by rw [List.length_map]; omega)
    have sAB : sameS (is.foldl putS []) ((is.map Dd.put).foldl doneS []) := by
      rw [← put_fold]
      exact fold_same stp_P stp_S fun j => Iff.rfl
    refine lc_filt Dd.d (fun d => match d with | .put i => i.d | .take k => .int k) isPut (show AnyM Ma from True.intro) dd [] (by simp only [List.length_nil]; omega) (fun d hdm A B hA hB => ?_) ?_
    · simp (disch := first | assumption | decide) only [wSeq, wNext, wAsg, wgName, wIfS, wB, wOp, wVar, wC, wCall, wCallK, wCons, wNil, wRet, wRetN, wDrop, wTup, wLst, wIf, wAnd, wOr, wNot, wAndV, wOrV, wNotV, wNeg, wChain, fI, fI0, addD, fLt, fLe, fGt, fGe, fIsB, wCB, fAbs, f2I, fInt, fIsq, wPar, wPar3, permD, startE, List.map_cons, List.map_nil, List.cons_append, List.nil_append, List.append_nil, List.length_cons, List.length_nil, List.replicate, List.getElem?_cons_zero, List.getElem?_cons_succ, List.set_cons_zero, List.set_cons_succ, List.getD_cons_zero, List.getD_cons_succ, Nat.reduceAdd, Nat.reduceSub, Nat.zero_add, true_and, and_true, Bool.not_true, Bool.not_false, if_true, if_false, Bool.false_eq_true, reduceIte, decide_eq_true_eq, Bool.not_eq_true', decide_eq_false_iff_not, eqV_int, eqV_str, eqV_bl, decide_true, reduceCtorEq, not_true_eq_false, not_false_eq_true, Bool.not_eq_true, List.not_mem_nil, false_implies, implies_true, Int.reduceNeg, Int.reduceToNat, Int.reducePow, Int.reduceMul, Int.reduceAdd, draw_i, ix_t0, ix_t1, ix_t2, ix_t3, ix_m3, ix_m4, sn_ball_box, sn_cell_box, sn_cell_ball, sn_ball_cell, sn_box_ball, sn_box_cell, decide_false]
      refine dd_ix0.mpr ?_
      cases d with
      | take k =>
        simp (disch := first | assumption | decide) only [wSeq, wNext, wAsg, wgName, wIfS, wB, wOp, wVar, wC, wCall, wCallK, wCons, wNil, wRet, wRetN, wDrop, wTup, wLst, wIf, wAnd, wOr, wNot, wAndV, wOrV, wNotV, wNeg, wChain, fI, fI0, addD, fLt, fLe, fGt, fGe, fIsB, wCB, fAbs, f2I, fInt, fIsq, wPar, wPar3, permD, startE, List.map_cons, List.map_nil, List.cons_append, List.nil_append, List.append_nil, List.length_cons, List.length_nil, List.replicate, List.getElem?_cons_zero, List.getElem?_cons_succ, List.set_cons_zero, List.set_cons_succ, List.getD_cons_zero, List.getD_cons_succ, Nat.reduceAdd, Nat.reduceSub, Nat.zero_add, true_and, and_true, Bool.not_true, Bool.not_false, if_true, if_false, Bool.false_eq_true, reduceIte, decide_eq_true_eq, Bool.not_eq_true', decide_eq_false_iff_not, eqV_int, eqV_str, eqV_bl, decide_true, reduceCtorEq, not_true_eq_false, not_false_eq_true, Bool.not_eq_true, List.not_mem_nil, false_implies, implies_true, Int.reduceNeg, Int.reduceToNat, Int.reducePow, Int.reduceMul, Int.reduceAdd, draw_i, ix_t0, ix_t1, ix_t2, ix_t3, ix_m3, ix_m4, sn_ball_box, sn_cell_box, sn_cell_ball, sn_ball_cell, sn_box_ball, sn_box_cell, decide_false, put_take]
        exact hB rfl
      | put i =>
        simp (disch := first | assumption | decide) only [wSeq, wNext, wAsg, wgName, wIfS, wB, wOp, wVar, wC, wCall, wCallK, wCons, wNil, wRet, wRetN, wDrop, wTup, wLst, wIf, wAnd, wOr, wNot, wAndV, wOrV, wNotV, wNeg, wChain, fI, fI0, addD, fLt, fLe, fGt, fGe, fIsB, wCB, fAbs, f2I, fInt, fIsq, wPar, wPar3, permD, startE, List.map_cons, List.map_nil, List.cons_append, List.nil_append, List.append_nil, List.length_cons, List.length_nil, List.replicate, List.getElem?_cons_zero, List.getElem?_cons_succ, List.set_cons_zero, List.set_cons_succ, List.getD_cons_zero, List.getD_cons_succ, Nat.reduceAdd, Nat.reduceSub, Nat.zero_add, true_and, and_true, Bool.not_true, Bool.not_false, if_true, if_false, Bool.false_eq_true, reduceIte, decide_eq_true_eq, Bool.not_eq_true', decide_eq_false_iff_not, eqV_int, eqV_str, eqV_bl, decide_true, reduceCtorEq, not_true_eq_false, not_false_eq_true, Bool.not_eq_true, List.not_mem_nil, false_implies, implies_true, Int.reduceNeg, Int.reduceToNat, Int.reducePow, Int.reduceMul, Int.reduceAdd, draw_i, ix_t0, ix_t1, ix_t2, ix_t3, ix_m3, ix_m4, sn_ball_box, sn_cell_box, sn_cell_ball, sn_ball_cell, sn_box_ball, sn_box_cell, decide_false]
        exact dd_ix1.mpr (hA rfl)
    rw [List.nil_append, his, List.map_map]
    have ei : List.map ((fun d => match d with | Dd.put i => i.d | Dd.take k => D.int k) ∘ Dd.put) is = is.map Itm.d := rfl
    rw [ei]
    subst hK
    refine seq_gen fun K hK => ?_
    simp (disch := first | assumption | decide) only [wSeq, wNext, wAsg, wgName, wIfS, wB, wOp, wVar, wC, wCall, wCallK, wCons, wNil, wRet, wRetN, wDrop, wTup, wLst, wIf, wAnd, wOr, wNot, wAndV, wOrV, wNotV, wNeg, wChain, fI, fI0, addD, fLt, fLe, fGt, fGe, fIsB, wCB, fAbs, f2I, fInt, fIsq, wPar, wPar3, permD, startE, List.map_cons, List.map_nil, List.cons_append, List.nil_append, List.append_nil, List.length_cons, List.length_nil, List.replicate, List.getElem?_cons_zero, List.getElem?_cons_succ, List.set_cons_zero, List.set_cons_succ, List.getD_cons_zero, List.getD_cons_succ, Nat.reduceAdd, Nat.reduceSub, Nat.zero_add, true_and, and_true, Bool.not_true, Bool.not_false, if_true, if_false, Bool.false_eq_true, reduceIte, decide_eq_true_eq, Bool.not_eq_true', decide_eq_false_iff_not, eqV_int, eqV_str, eqV_bl, decide_true, reduceCtorEq, not_true_eq_false, not_false_eq_true, Bool.not_eq_true, List.not_mem_nil, false_implies, implies_true, Int.reduceNeg, Int.reduceToNat, Int.reducePow, Int.reduceMul, Int.reduceAdd, draw_i, ix_t0, ix_t1, ix_t2, ix_t3, ix_m3, ix_m4, sn_ball_box, sn_cell_box, sn_cell_ball, sn_ball_cell, sn_box_ball, sn_box_cell, decide_false, fTuple, wDNew, wLc, wiSeq, wipeE]
    refine ⟨_, rfl, is, rfl, by omega, fun y5 Mb upb5 hy5 hyb => ?_⟩
    refine shown_i hyb p8 sA ?_
    intro e4 he4
    refine lc_map Itm.d (fun i => (Dd.put i).d) (ok_any _) is [] (by simp only [List.length_nil]; omega) (fun i hi K2 hK2 => ?_) ?_
    · simp (disch := first | assumption | decide) only [wSeq, wNext, wAsg, wgName, wIfS, wB, wOp, wVar, wC, wCall, wCallK, wCons, wNil, wRet, wRetN, wDrop, wTup, wLst, wIf, wAnd, wOr, wNot, wAndV, wOrV, wNotV, wNeg, wChain, fI, fI0, addD, fLt, fLe, fGt, fGe, fIsB, wCB, fAbs, f2I, fInt, fIsq, wPar, wPar3, permD, startE, List.map_cons, List.map_nil, List.cons_append, List.nil_append, List.append_nil, List.length_cons, List.length_nil, List.replicate, List.getElem?_cons_zero, List.getElem?_cons_succ, List.set_cons_zero, List.set_cons_succ, List.getD_cons_zero, List.getD_cons_succ, Nat.reduceAdd, Nat.reduceSub, Nat.zero_add, true_and, and_true, Bool.not_true, Bool.not_false, if_true, if_false, Bool.false_eq_true, reduceIte, decide_eq_true_eq, Bool.not_eq_true', decide_eq_false_iff_not, eqV_int, eqV_str, eqV_bl, decide_true, reduceCtorEq, not_true_eq_false, not_false_eq_true, Bool.not_eq_true, List.not_mem_nil, false_implies, implies_true, Int.reduceNeg, Int.reduceToNat, Int.reducePow, Int.reduceMul, Int.reduceAdd, draw_i, ix_t0, ix_t1, ix_t2, ix_t3, ix_m3, ix_m4, sn_ball_box, sn_cell_box, sn_cell_ball, sn_ball_cell, sn_box_ball, sn_box_cell, decide_false]
      exact ⟨by decide, hK2⟩
    rw [List.nil_append]
    have ep : is.map (fun i => (Dd.put i).d) = (is.map Dd.put).map Dd.d := by
      rw [List.map_map]
      rfl
    rw [ep]
    refine ⟨e4, _, [], is.map Dd.put, rfl, setM_same, .inr rfl, List.nodup_nil, by rw [List.length_map]; simp only [List.length_nil]; omega, fun y6 Mc upc6 hy6 hyc => ?_⟩
    refine shown_i hyc p8 sB2 ?_
    rw [shown_same sA.1 sB2.1 sAB]
    refine ne_same ?_
    try simp (disch := first | assumption | decide) only [wSeq, wNext, wAsg, wgName, wIfS, wB, wOp, wVar, wC, wCall, wCallK, wCons, wNil, wRet, wRetN, wDrop, wTup, wLst, wIf, wAnd, wOr, wNot, wAndV, wOrV, wNotV, wNeg, wChain, fI, fI0, addD, fLt, fLe, fGt, fGe, fIsB, wCB, fAbs, f2I, fInt, fIsq, wPar, wPar3, permD, startE, List.map_cons, List.map_nil, List.cons_append, List.nil_append, List.append_nil, List.length_cons, List.length_nil, List.replicate, List.getElem?_cons_zero, List.getElem?_cons_succ, List.set_cons_zero, List.set_cons_succ, List.getD_cons_zero, List.getD_cons_succ, Nat.reduceAdd, Nat.reduceSub, Nat.zero_add, true_and, and_true, Bool.not_true, Bool.not_false, if_true, if_false, Bool.false_eq_true, reduceIte, decide_eq_true_eq, Bool.not_eq_true', decide_eq_false_iff_not, eqV_int, eqV_str, eqV_bl, decide_true, reduceCtorEq, not_true_eq_false, not_false_eq_true, Bool.not_eq_true, List.not_mem_nil, false_implies, implies_true, Int.reduceNeg, Int.reduceToNat, Int.reducePow, Int.reduceMul, Int.reduceAdd, draw_i, ix_t0, ix_t1, ix_t2, ix_t3, ix_m3, ix_m4, sn_ball_box, sn_cell_box, sn_cell_ball, sn_ball_cell, sn_box_ball, sn_box_cell, decide_false]
    subst hK
    simp (disch := first | assumption | decide) only [wSeq, wNext, wAsg, wgName, wIfS, wB, wOp, wVar, wC, wCall, wCallK, wCons, wNil, wRet, wRetN, wDrop, wTup, wLst, wIf, wAnd, wOr, wNot, wAndV, wOrV, wNotV, wNeg, wChain, fI, fI0, addD, fLt, fLe, fGt, fGe, fIsB, wCB, fAbs, f2I, fInt, fIsq, wPar, wPar3, permD, startE, List.map_cons, List.map_nil, List.cons_append, List.nil_append, List.append_nil, List.length_cons, List.length_nil, List.replicate, List.getElem?_cons_zero, List.getElem?_cons_succ, List.set_cons_zero, List.set_cons_succ, List.getD_cons_zero, List.getD_cons_succ, Nat.reduceAdd, Nat.reduceSub, Nat.zero_add, true_and, and_true, Bool.not_true, Bool.not_false, if_true, if_false, Bool.false_eq_true, reduceIte, decide_eq_true_eq, Bool.not_eq_true', decide_eq_false_iff_not, eqV_int, eqV_str, eqV_bl, decide_true, reduceCtorEq, not_true_eq_false, not_false_eq_true, Bool.not_eq_true, List.not_mem_nil, false_implies, implies_true, Int.reduceNeg, Int.reduceToNat, Int.reducePow, Int.reduceMul, Int.reduceAdd, draw_i, ix_t0, ix_t1, ix_t2, ix_t3, ix_m3, ix_m4, sn_ball_box, sn_cell_box, sn_cell_ball, sn_ball_cell, sn_box_ball, sn_box_cell, decide_false, fTuple, wAndV, wDct0]
    refine ⟨_, rfl, is, rfl, by omega, fun y7 Md upd7 hy7 hyd => ?_⟩
    refine ⟨_, rfl, is, rfl, by omega, fun y8 Me upe8 hy8 hye => ?_⟩
    refine dc_same2 (p := p) (n := 60) (dic_at (upe8 _ _ hyd)) (dic_at hye) sA sA (fun j => Iff.rfl) ?_
    dsimp only
    refine ⟨by decide, [], rfl, by decide, fun y9 Mf upf9 hy9 hyf => ?_⟩
    refine dc_same2 (p := p) (n := 60) (dic_at hyf) (show dicOf Mf (.dct [] []) = some (stD []) from rfl) stB_nil stB_nil (fun j => Iff.rfl) ?_
    exact q _ (((((((upa.trans upb5).trans (up_new he4)).trans upc6).trans upd7).trans upe8)).trans upf9)
end K16
namespace K16
open PySem L2 L3
theorem dd_fit {n p : Nat} {ks : List Int} {d : Dd} (h : ddB p ks d) : fit (n + 4) d.d := by
  cases d with
  | take k =>
    show fit (n + 4) (.tup [.str "take", .int k])
    rw [fit]
    intro e he
    simp only [List.mem_cons, List.not_mem_nil, or_false] at he
    rcases he with rfl | rfl
    · simp only [fit]
      decide +kernel
    · simp only [fit]
  | put i =>
    show fit (n + 4) (.tup [.str "put", i.d])
    rw [fit]
    intro e he
    simp only [List.mem_cons, List.not_mem_nil, or_false] at he
    rcases he with rfl | rfl
    · simp only [fit]
      decide +kernel
    · exact fit_itm h.1
theorem dds_fit {n p : Nat} {ks : List Int} {dd : List Dd} (h : ∀ d ∈ dd, ddB p ks d) : fit (n + 5) (.tup (dd.map Dd.d)) := by
  rw [fit]
  intro e he
  obtain ⟨d, hd, rfl⟩ := List.mem_map.mp he
  exact dd_fit (h d hd)
theorem ne_dds {M : Mp} {p : Nat} {ks : List Int} {dd : List Dd} {Q : KD} (h : ∀ d ∈ dd, ddB p ks d) (q : Q (.bl false) M) : eqV true (.tup (dd.map Dd.d)) (.tup (dd.map Dd.d)) M Q := eqV_self (n := 5) (by decide) (dds_fit (n := 0) h) q
theorem eq_dds {M : Mp} {p : Nat} {ks : List Int} {a b : List Dd} {Q : KD} (ha : ∀ d ∈ a, ddB p ks d) (hb : ∀ d ∈ b, ddB p ks d) (q : Q (.bl (decide (a = b))) M) : eqV false (.tup (a.map Dd.d)) (.tup (b.map Dd.d)) M Q := by
  have main : eqD2 false (.tup (a.map Dd.d)) (.tup (b.map Dd.d)) M Q := by
    refine ⟨⟨5, by decide, dds_fit (n := 0) ha, dds_fit (n := 0) hb⟩, ?_⟩
    have e : eqD (res M (.tup (a.map Dd.d))) (res M (.tup (b.map Dd.d))) = decide (a = b) := eqD_dds a b
    rw [e]
    exact q
  exact main
theorem dd_shw {p : Nat} {ks : List Int} {d : Dd} (p8 : p ≤ 8) (hk : ∀ k ∈ ks, 0 ≤ k ∧ k ≤ 2000000000) (h : ddB p ks d) : shw 4 d.d ∧ cost d.d ≤ 4300 := by
  have ht : PySem.PyData.strOk ("take" : Str) = true := by decide +kernel
  have hp : PySem.PyData.strOk ("put" : Str) = true := by decide +kernel
  cases d with
  | take k =>
    have b := hk k h
    constructor
    · show shw 4 (.tup [.str "take", .int k])
      rw [shw]
      intro e he
      simp only [List.mem_cons, List.not_mem_nil, or_false] at he
      rcases he with rfl | rfl
      · rw [shw]
        exact ht
      · rw [shw]
        omega
    · show cost (.tup [.str "take", .int k]) ≤ _
      rw [cost, costL, costL, costL, cost, cost, show ("take" : Str).length = 4 from by decide +kernel]
      decide
  | put i =>
    obtain ⟨a, c⟩ := itm_shw p8 h.1
    constructor
    · show shw 4 (.tup [.str "put", i.d])
      rw [shw]
      intro e he
      simp only [List.mem_cons, List.not_mem_nil, or_false] at he
      rcases he with rfl | rfl
      · rw [shw]
        exact hp
      · exact a
    · show cost (.tup [.str "put", i.d]) ≤ _
      rw [cost, costL, costL, costL, cost, show ("put" : Str).length = 3 from by decide +kernel]
      omega
theorem rep_dds {M : Mp} {p : Nat} {ks : List Int} {dd : List Dd} {Q : KD} (p8 : p ≤ 8) (hk : ∀ k ∈ ks, 0 ≤ k ∧ k ≤ 2000000000) (hl : dd.length ≤ 100) (h : ∀ d ∈ dd, ddB p ks d) (q : Q (.str (shown (.tup (dd.map Dd.d)))) M) : fRepr [.tup (dd.map Dd.d)] M Q := by
  obtain ⟨s1, s2⟩ := many_shw (l := dd) (g := Dd.d) (n := 4) (c := 4300) fun d hd => dd_shw p8 hk (h d hd)
  refine ⟨⟨5, by decide, ?_⟩, ?_, q⟩
  · show shw 5 (.tup (dd.map Dd.d))
    rw [shw]
    exact s1
  · show cost (.tup (dd.map Dd.d)) ≤ _
    rw [cost]
    have : 4302 * dd.length ≤ 4302 * 100 := Nat.mul_le_mul_left _ hl
    omega
def fullI (p : Nat) (k : Int) : Itm := ⟨k, List.replicate p 7, []⟩
theorem full_ok {p : Nat} {ks : List Int} (hl : ks.length ≤ 40) (hp : ks.Pairwise (· < ·)) (hk : ∀ k ∈ ks, 0 ≤ k ∧ k ≤ 1000000000) : stB p 40 (ks.map (fullI p)) := by
  refine ⟨?_, by rw [List.length_map]; exact hl, fun i hi => ?_⟩
  · have e : keysS (ks.map (fullI p)) = ks := by
      unfold keysS
      rw [List.map_map]
      exact List.map_id _
    rw [e]
    exact hp.imp fun h => Int.ne_of_lt h
  · obtain ⟨k, hkm, rfl⟩ := List.mem_map.mp hi
    have b := hk k hkm
    refine ⟨⟨List.length_replicate, fun a ha => ?_⟩, List.nodup_nil, Nat.zero_le _, (by intro x hx; cases hx), b.1, by show k ≤ 2000000000; omega⟩
    rw [List.eq_of_mem_replicate ha]
    decide
theorem wp__law_effects_right : ∀ ds M Q R, F__law_effects_right ds M Q R → W__law_effects_right { nx := fun _ M' => Q .non M', rt := Q, xr := lx R } (startE 13 ds) M := by
  rintro ds M Q R ⟨b, t, p, ks, ns, rfl, W, q⟩
  have p8 : p ≤ 8 := by have := W.p3; omega
  have kb2 : ∀ k ∈ ks, 0 ≤ k ∧ k ≤ 2000000000 := fun k hk => by have := W.kb k hk; omega
  unfold W__law_effects_right
  refine seq_gen fun K hK => ?_
  unfold wldD
  simp (disch := first | assumption | decide) only [wSeq, wNext, wAsg, wgName, wIfS, wB, wOp, wVar, wC, wCall, wCallK, wCons, wNil, wRet, wRetN, wDrop, wTup, wLst, wIf, wAnd, wOr, wNot, wAndV, wOrV, wNotV, wNeg, wChain, fI, fI0, addD, fLt, fLe, fGt, fGe, fIsB, wCB, fAbs, f2I, fInt, fIsq, wPar, wPar3, permD, startE, List.map_cons, List.map_nil, List.cons_append, List.nil_append, List.append_nil, List.length_cons, List.length_nil, List.replicate, List.getElem?_cons_zero, List.getElem?_cons_succ, List.set_cons_zero, List.set_cons_succ, List.getD_cons_zero, List.getD_cons_succ, Nat.reduceAdd, Nat.reduceSub, Nat.zero_add, true_and, and_true, Bool.not_true, Bool.not_false, if_true, if_false, Bool.false_eq_true, reduceIte, decide_eq_true_eq, Bool.not_eq_true', decide_eq_false_iff_not, eqV_int, eqV_str, eqV_bl, decide_true, reduceCtorEq, not_true_eq_false, not_false_eq_true, Bool.not_eq_true, List.not_mem_nil, false_implies, implies_true, Int.reduceNeg, Int.reduceToNat, Int.reducePow, Int.reduceMul, Int.reduceAdd, draw_i, ix_t0, ix_t1, ix_t2, ix_t3, ix_m3, ix_m4, sn_ball_box, sn_cell_box, sn_cell_ball, sn_ball_cell, sn_box_ball, sn_box_cell, decide_false, wgTup, wgCons, wgNil]
  subst hK
  refine seq_gen fun K hK => ?_
  simp (disch := first | assumption | decide) only [wSeq, wNext, wAsg, wgName, wIfS, wB, wOp, wVar, wC, wCall, wCallK, wCons, wNil, wRet, wRetN, wDrop, wTup, wLst, wIf, wAnd, wOr, wNot, wAndV, wOrV, wNotV, wNeg, wChain, fI, fI0, addD, fLt, fLe, fGt, fGe, fIsB, wCB, fAbs, f2I, fInt, fIsq, wPar, wPar3, permD, startE, List.map_cons, List.map_nil, List.cons_append, List.nil_append, List.append_nil, List.length_cons, List.length_nil, List.replicate, List.getElem?_cons_zero, List.getElem?_cons_succ, List.set_cons_zero, List.set_cons_succ, List.getD_cons_zero, List.getD_cons_succ, Nat.reduceAdd, Nat.reduceSub, Nat.zero_add, true_and, and_true, Bool.not_true, Bool.not_false, if_true, if_false, Bool.false_eq_true, reduceIte, decide_eq_true_eq, Bool.not_eq_true', decide_eq_false_iff_not, eqV_int, eqV_str, eqV_bl, decide_true, reduceCtorEq, not_true_eq_false, not_false_eq_true, Bool.not_eq_true, List.not_mem_nil, false_implies, implies_true, Int.reduceNeg, Int.reduceToNat, Int.reducePow, Int.reduceMul, Int.reduceAdd, draw_i, ix_t0, ix_t1, ix_t2, ix_t3, ix_m3, ix_m4, sn_ball_box, sn_cell_box, sn_cell_ball, sn_ball_cell, sn_box_ball, sn_box_cell, decide_false]
  refine (take_i W.box (by decide) (by decide)).mpr fun w w0 w1 => ?_
  obtain ⟨w, rfl⟩ := Int.eq_ofNat_of_zero_le w0
  have ew : 1 + (w : Int) = ((1 + w : Nat) : Int) := by omega
  try simp (disch := first | assumption | decide) only [wSeq, wNext, wAsg, wgName, wIfS, wB, wOp, wVar, wC, wCall, wCallK, wCons, wNil, wRet, wRetN, wDrop, wTup, wLst, wIf, wAnd, wOr, wNot, wAndV, wOrV, wNotV, wNeg, wChain, fI, fI0, addD, fLt, fLe, fGt, fGe, fIsB, wCB, fAbs, f2I, fInt, fIsq, wPar, wPar3, permD, startE, List.map_cons, List.map_nil, List.cons_append, List.nil_append, List.append_nil, List.length_cons, List.length_nil, List.replicate, List.getElem?_cons_zero, List.getElem?_cons_succ, List.set_cons_zero, List.set_cons_succ, List.getD_cons_zero, List.getD_cons_succ, Nat.reduceAdd, Nat.reduceSub, Nat.zero_add, true_and, and_true, Bool.not_true, Bool.not_false, if_true, if_false, Bool.false_eq_true, reduceIte, decide_eq_true_eq, Bool.not_eq_true', decide_eq_false_iff_not, eqV_int, eqV_str, eqV_bl, decide_true, reduceCtorEq, not_true_eq_false, not_false_eq_true, Bool.not_eq_true, List.not_mem_nil, false_implies, implies_true, Int.reduceNeg, Int.reduceToNat, Int.reducePow, Int.reduceMul, Int.reduceAdd, draw_i, ix_t0, ix_t1, ix_t2, ix_t3, ix_m3, ix_m4, sn_ball_box, sn_cell_box, sn_cell_ball, sn_ball_cell, sn_box_ball, sn_box_cell, decide_false]
  rw [ew]
  refine ⟨b, t, p, 1 + w, ks, ns, rfl, W, by omega, fun one M1 up1 ll h1 => ?_⟩
  have W1 : WldOk M1 b t p ks ns := { W with box := up1 _ _ W.box, keys := up1 _ _ W.keys }
  subst hK
  refine seq_gen fun K hK => ?_
  simp (disch := first | assumption | decide) only [wSeq, wNext, wAsg, wgName, wIfS, wB, wOp, wVar, wC, wCall, wCallK, wCons, wNil, wRet, wRetN, wDrop, wTup, wLst, wIf, wAnd, wOr, wNot, wAndV, wOrV, wNotV, wNeg, wChain, fI, fI0, addD, fLt, fLe, fGt, fGe, fIsB, wCB, fAbs, f2I, fInt, fIsq, wPar, wPar3, permD, startE, List.map_cons, List.map_nil, List.cons_append, List.nil_append, List.append_nil, List.length_cons, List.length_nil, List.replicate, List.getElem?_cons_zero, List.getElem?_cons_succ, List.set_cons_zero, List.set_cons_succ, List.getD_cons_zero, List.getD_cons_succ, Nat.reduceAdd, Nat.reduceSub, Nat.zero_add, true_and, and_true, Bool.not_true, Bool.not_false, if_true, if_false, Bool.false_eq_true, reduceIte, decide_eq_true_eq, Bool.not_eq_true', decide_eq_false_iff_not, eqV_int, eqV_str, eqV_bl, decide_true, reduceCtorEq, not_true_eq_false, not_false_eq_true, Bool.not_eq_true, List.not_mem_nil, false_implies, implies_true, Int.reduceNeg, Int.reduceToNat, Int.reducePow, Int.reduceMul, Int.reduceAdd, draw_i, ix_t0, ix_t1, ix_t2, ix_t3, ix_m3, ix_m4, sn_ball_box, sn_cell_box, sn_cell_ball, sn_ball_cell, sn_box_ball, sn_box_cell, decide_false]
  refine ⟨b, t, p, ks, ns, one, rfl, W1, by omega, by omega, h1, fun other M2 up2 lo h2 => ?_⟩
  have W2 : WldOk M2 b t p ks ns := { W with box := up2 _ _ W1.box, keys := up2 _ _ W1.keys }
  subst hK
  refine seq_gen fun K hK => ?_
  simp (disch := first | assumption | decide) only [wSeq, wNext, wAsg, wgName, wIfS, wB, wOp, wVar, wC, wCall, wCallK, wCons, wNil, wRet, wRetN, wDrop, wTup, wLst, wIf, wAnd, wOr, wNot, wAndV, wOrV, wNotV, wNeg, wChain, fI, fI0, addD, fLt, fLe, fGt, fGe, fIsB, wCB, fAbs, f2I, fInt, fIsq, wPar, wPar3, permD, startE, List.map_cons, List.map_nil, List.cons_append, List.nil_append, List.append_nil, List.length_cons, List.length_nil, List.replicate, List.getElem?_cons_zero, List.getElem?_cons_succ, List.set_cons_zero, List.set_cons_succ, List.getD_cons_zero, List.getD_cons_succ, Nat.reduceAdd, Nat.reduceSub, Nat.zero_add, true_and, and_true, Bool.not_true, Bool.not_false, if_true, if_false, Bool.false_eq_true, reduceIte, decide_eq_true_eq, Bool.not_eq_true', decide_eq_false_iff_not, eqV_int, eqV_str, eqV_bl, decide_true, reduceCtorEq, not_true_eq_false, not_false_eq_true, Bool.not_eq_true, List.not_mem_nil, false_implies, implies_true, Int.reduceNeg, Int.reduceToNat, Int.reducePow, Int.reduceMul, Int.reduceAdd, draw_i, ix_t0, ix_t1, ix_t2, ix_t3, ix_m3, ix_m4, sn_ball_box, sn_cell_box, sn_cell_ball, sn_ball_cell, sn_box_ball, sn_box_cell, decide_false]
  refine ⟨one, rfl, by omega, fun M3 up3 => ⟨other, rfl, by omega, fun M4 up4 => ?_⟩⟩
  try simp (disch := first | assumption | decide) only [wSeq, wNext, wAsg, wgName, wIfS, wB, wOp, wVar, wC, wCall, wCallK, wCons, wNil, wRet, wRetN, wDrop, wTup, wLst, wIf, wAnd, wOr, wNot, wAndV, wOrV, wNotV, wNeg, wChain, fI, fI0, addD, fLt, fLe, fGt, fGe, fIsB, wCB, fAbs, f2I, fInt, fIsq, wPar, wPar3, permD, startE, List.map_cons, List.map_nil, List.cons_append, List.nil_append, List.append_nil, List.length_cons, List.length_nil, List.replicate, List.getElem?_cons_zero, List.getElem?_cons_succ, List.set_cons_zero, List.set_cons_succ, List.getD_cons_zero, List.getD_cons_succ, Nat.reduceAdd, Nat.reduceSub, Nat.zero_add, true_and, and_true, Bool.not_true, Bool.not_false, if_true, if_false, Bool.false_eq_true, reduceIte, decide_eq_true_eq, Bool.not_eq_true', decide_eq_false_iff_not, eqV_int, eqV_str, eqV_bl, decide_true, reduceCtorEq, not_true_eq_false, not_false_eq_true, Bool.not_eq_true, List.not_mem_nil, false_implies, implies_true, Int.reduceNeg, Int.reduceToNat, Int.reducePow, Int.reduceMul, Int.reduceAdd, draw_i, ix_t0, ix_t1, ix_t2, ix_t3, ix_m3, ix_m4, sn_ball_box, sn_cell_box, sn_cell_ball, sn_ball_cell, sn_box_ball, sn_box_cell, decide_false]
  have up := ((up1.trans up2).trans up3).trans up4
  have l1 : ∀ d ∈ lastL one, ddB p ks d := fun d h => h1 d (last_sub one d (mem_lastL.mp h))
  have l2 : ∀ d ∈ lastL other, ddB p ks d := fun d h => h2 d (last_sub other d (mem_lastL.mp h))
  have n1 := lastL_len one
  have n2 := lastL_len other
  subst hK
  refine seq_gen fun K hK => ?_
  simp (disch := first | assumption | decide) only [wSeq, wNext, wAsg, wgName, wIfS, wB, wOp, wVar, wC, wCall, wCallK, wCons, wNil, wRet, wRetN, wDrop, wTup, wLst, wIf, wAnd, wOr, wNot, wAndV, wOrV, wNotV, wNeg, wChain, fI, fI0, addD, fLt, fLe, fGt, fGe, fIsB, wCB, fAbs, f2I, fInt, fIsq, wPar, wPar3, permD, startE, List.map_cons, List.map_nil, List.cons_append, List.nil_append, List.append_nil, List.length_cons, List.length_nil, List.replicate, List.getElem?_cons_zero, List.getElem?_cons_succ, List.set_cons_zero, List.set_cons_succ, List.getD_cons_zero, List.getD_cons_succ, Nat.reduceAdd, Nat.reduceSub, Nat.zero_add, true_and, and_true, Bool.not_true, Bool.not_false, if_true, if_false, Bool.false_eq_true, reduceIte, decide_eq_true_eq, Bool.not_eq_true', decide_eq_false_iff_not, eqV_int, eqV_str, eqV_bl, decide_true, reduceCtorEq, not_true_eq_false, not_false_eq_true, Bool.not_eq_true, List.not_mem_nil, false_implies, implies_true, Int.reduceNeg, Int.reduceToNat, Int.reducePow, Int.reduceMul, Int.reduceAdd, draw_i, ix_t0, ix_t1, ix_t2, ix_t3, ix_m3, ix_m4, sn_ball_box, sn_cell_box, sn_cell_ball, sn_ball_cell, sn_box_ball, sn_box_cell, decide_false]
  refine rep_dds p8 kb2 (by omega) l1 ⟨one, rfl, by omega, fun M5 up5 => rep_dds p8 kb2 (by omega) l1 (ne_same ?_)⟩
  try simp (disch := first | assumption | decide) only [wSeq, wNext, wAsg, wgName, wIfS, wB, wOp, wVar, wC, wCall, wCallK, wCons, wNil, wRet, wRetN, wDrop, wTup, wLst, wIf, wAnd, wOr, wNot, wAndV, wOrV, wNotV, wNeg, wChain, fI, fI0, addD, fLt, fLe, fGt, fGe, fIsB, wCB, fAbs, f2I, fInt, fIsq, wPar, wPar3, permD, startE, List.map_cons, List.map_nil, List.cons_append, List.nil_append, List.append_nil, List.length_cons, List.length_nil, List.replicate, List.getElem?_cons_zero, List.getElem?_cons_succ, List.set_cons_zero, List.set_cons_succ, List.getD_cons_zero, List.getD_cons_succ, Nat.reduceAdd, Nat.reduceSub, Nat.zero_add, true_and, and_true, Bool.not_true, Bool.not_false, if_true, if_false, Bool.false_eq_true, reduceIte, decide_eq_true_eq, Bool.not_eq_true', decide_eq_false_iff_not, eqV_int, eqV_str, eqV_bl, decide_true, reduceCtorEq, not_true_eq_false, not_false_eq_true, Bool.not_eq_true, List.not_mem_nil, false_implies, implies_true, Int.reduceNeg, Int.reduceToNat, Int.reducePow, Int.reduceMul, Int.reduceAdd, draw_i, ix_t0, ix_t1, ix_t2, ix_t3, ix_m3, ix_m4, sn_ball_box, sn_cell_box, sn_cell_ball, sn_ball_cell, sn_box_ball, sn_box_cell, decide_false]
  refine rep_dds p8 kb2 (by omega) l2 ⟨other, rfl, by omega, fun M6 up6 => rep_dds p8 kb2 (by omega) l2 (ne_same ?_)⟩
  try simp (disch := first | assumption | decide) only [wSeq, wNext, wAsg, wgName, wIfS, wB, wOp, wVar, wC, wCall, wCallK, wCons, wNil, wRet, wRetN, wDrop, wTup, wLst, wIf, wAnd, wOr, wNot, wAndV, wOrV, wNotV, wNeg, wChain, fI, fI0, addD, fLt, fLe, fGt, fGe, fIsB, wCB, fAbs, f2I, fInt, fIsq, wPar, wPar3, permD, startE, List.map_cons, List.map_nil, List.cons_append, List.nil_append, List.append_nil, List.length_cons, List.length_nil, List.replicate, List.getElem?_cons_zero, List.getElem?_cons_succ, List.set_cons_zero, List.set_cons_succ, List.getD_cons_zero, List.getD_cons_succ, Nat.reduceAdd, Nat.reduceSub, Nat.zero_add, true_and, and_true, Bool.not_true, Bool.not_false, if_true, if_false, Bool.false_eq_true, reduceIte, decide_eq_true_eq, Bool.not_eq_true', decide_eq_false_iff_not, eqV_int, eqV_str, eqV_bl, decide_true, reduceCtorEq, not_true_eq_false, not_false_eq_true, Bool.not_eq_true, List.not_mem_nil, false_implies, implies_true, Int.reduceNeg, Int.reduceToNat, Int.reducePow, Int.reduceMul, Int.reduceAdd, draw_i, ix_t0, ix_t1, ix_t2, ix_t3, ix_m3, ix_m4, sn_ball_box, sn_cell_box, sn_cell_ball, sn_ball_cell, sn_box_ball, sn_box_cell, decide_false]
  refine ⟨lastL one, rfl, by omega, fun M7 up7 => ?_⟩
  rw [lastL_idem]
  refine ne_dds l1 ?_
  try simp (disch := first | assumption | decide) only [wSeq, wNext, wAsg, wgName, wIfS, wB, wOp, wVar, wC, wCall, wCallK, wCons, wNil, wRet, wRetN, wDrop, wTup, wLst, wIf, wAnd, wOr, wNot, wAndV, wOrV, wNotV, wNeg, wChain, fI, fI0, addD, fLt, fLe, fGt, fGe, fIsB, wCB, fAbs, f2I, fInt, fIsq, wPar, wPar3, permD, startE, List.map_cons, List.map_nil, List.cons_append, List.nil_append, List.append_nil, List.length_cons, List.length_nil, List.replicate, List.getElem?_cons_zero, List.getElem?_cons_succ, List.set_cons_zero, List.set_cons_succ, List.getD_cons_zero, List.getD_cons_succ, Nat.reduceAdd, Nat.reduceSub, Nat.zero_add, true_and, and_true, Bool.not_true, Bool.not_false, if_true, if_false, Bool.false_eq_true, reduceIte, decide_eq_true_eq, Bool.not_eq_true', decide_eq_false_iff_not, eqV_int, eqV_str, eqV_bl, decide_true, reduceCtorEq, not_true_eq_false, not_false_eq_true, Bool.not_eq_true, List.not_mem_nil, false_implies, implies_true, Int.reduceNeg, Int.reduceToNat, Int.reducePow, Int.reduceMul, Int.reduceAdd, draw_i, ix_t0, ix_t1, ix_t2, ix_t3, ix_m3, ix_m4, sn_ball_box, sn_cell_box, sn_cell_ball, sn_ball_cell, sn_box_ball, sn_box_cell, decide_false]
  replace up := ((up.trans up5).trans up6).trans up7
  subst hK
  refine seq_gen fun K hK => ?_
  simp (disch := first | assumption | decide) only [wSeq, wNext, wAsg, wgName, wIfS, wB, wOp, wVar, wC, wCall, wCallK, wCons, wNil, wRet, wRetN, wDrop, wTup, wLst, wIf, wAnd, wOr, wNot, wAndV, wOrV, wNotV, wNeg, wChain, fI, fI0, addD, fLt, fLe, fGt, fGe, fIsB, wCB, fAbs, f2I, fInt, fIsq, wPar, wPar3, permD, startE, List.map_cons, List.map_nil, List.cons_append, List.nil_append, List.append_nil, List.length_cons, List.length_nil, List.replicate, List.getElem?_cons_zero, List.getElem?_cons_succ, List.set_cons_zero, List.set_cons_succ, List.getD_cons_zero, List.getD_cons_succ, Nat.reduceAdd, Nat.reduceSub, Nat.zero_add, true_and, and_true, Bool.not_true, Bool.not_false, if_true, if_false, Bool.false_eq_true, reduceIte, decide_eq_true_eq, Bool.not_eq_true', decide_eq_false_iff_not, eqV_int, eqV_str, eqV_bl, decide_true, reduceCtorEq, not_true_eq_false, not_false_eq_true, Bool.not_eq_true, List.not_mem_nil, false_implies, implies_true, Int.reduceNeg, Int.reduceToNat, Int.reducePow, Int.reduceMul, Int.reduceAdd, draw_i, ix_t0, ix_t1, ix_t2, ix_t3, ix_m3, ix_m4, sn_ball_box, sn_cell_box, sn_cell_ball, sn_ball_cell, sn_box_ball, sn_box_cell, decide_false, wLc, wiSeq, wipeE, fDictA]
  have hk7 := up _ _ W.keys
  refine ⟨_, hk7, ?_⟩
  refine lc_map D.int (fun k => D.tup [.int k, (fullI p k).d]) (show M7 t = some (.lst (ks.map .int)) from hk7) ks [] (by have := W.k20; simp only [List.length_nil]; omega) (fun k hk K2 hK2 => ?_) ?_
  · simp (disch := first | assumption | decide) only [wSeq, wNext, wAsg, wgName, wIfS, wB, wOp, wVar, wC, wCall, wCallK, wCons, wNil, wRet, wRetN, wDrop, wTup, wLst, wIf, wAnd, wOr, wNot, wAndV, wOrV, wNotV, wNeg, wChain, fI, fI0, addD, fLt, fLe, fGt, fGe, fIsB, wCB, fAbs, f2I, fInt, fIsq, wPar, wPar3, permD, startE, List.map_cons, List.map_nil, List.cons_append, List.nil_append, List.append_nil, List.length_cons, List.length_nil, List.replicate, List.getElem?_cons_zero, List.getElem?_cons_succ, List.set_cons_zero, List.set_cons_succ, List.getD_cons_zero, List.getD_cons_succ, Nat.reduceAdd, Nat.reduceSub, Nat.zero_add, true_and, and_true, Bool.not_true, Bool.not_false, if_true, if_false, Bool.false_eq_true, reduceIte, decide_eq_true_eq, Bool.not_eq_true', decide_eq_false_iff_not, eqV_int, eqV_str, eqV_bl, decide_true, reduceCtorEq, not_true_eq_false, not_false_eq_true, Bool.not_eq_true, List.not_mem_nil, false_implies, implies_true, Int.reduceNeg, Int.reduceToNat, Int.reducePow, Int.reduceMul, Int.reduceAdd, draw_i, ix_t0, ix_t1, ix_t2, ix_t3, ix_m3, ix_m4, sn_ball_box, sn_cell_box, sn_cell_ball, sn_ball_cell, sn_box_ball, sn_box_cell, decide_false]
    refine ⟨by decide, by simp, by have := W.p1; omega, by omega, by decide, by decide, by decide, by decide, ?_⟩
    have e : (List.replicate (p : Int).toNat [D.int 7]).flatten = (List.replicate p (7 : Int)).map D.int := by
      rw [Int.toNat_natCast, List.flatten_replicate_singleton, List.map_replicate]
    rw [e]
    exact hK2
  rw [List.nil_append]
  have fo : stB p 40 (ks.map (fullI p)) := full_ok (by have := W.k20; omega) W.kpw W.kb
  have ef : ks.map (fun k => D.tup [.int k, (fullI p k).d]) = ditems (stD (ks.map (fullI p))) := by
    unfold ditems stD
    rw [List.map_map, List.map_map]
    rfl
  rw [ef]
  simp (disch := first | assumption | decide) only [wSeq, wNext, wAsg, wgName, wIfS, wB, wOp, wVar, wC, wCall, wCallK, wCons, wNil, wRet, wRetN, wDrop, wTup, wLst, wIf, wAnd, wOr, wNot, wAndV, wOrV, wNotV, wNeg, wChain, fI, fI0, addD, fLt, fLe, fGt, fGe, fIsB, wCB, fAbs, f2I, fInt, fIsq, wPar, wPar3, permD, startE, List.map_cons, List.map_nil, List.cons_append, List.nil_append, List.append_nil, List.length_cons, List.length_nil, List.replicate, List.getElem?_cons_zero, List.getElem?_cons_succ, List.set_cons_zero, List.set_cons_succ, List.getD_cons_zero, List.getD_cons_succ, Nat.reduceAdd, Nat.reduceSub, Nat.zero_add, true_and, and_true, Bool.not_true, Bool.not_false, if_true, if_false, Bool.false_eq_true, reduceIte, decide_eq_true_eq, Bool.not_eq_true', decide_eq_false_iff_not, eqV_int, eqV_str, eqV_bl, decide_true, reduceCtorEq, not_true_eq_false, not_false_eq_true, Bool.not_eq_true, List.not_mem_nil, false_implies, implies_true, Int.reduceNeg, Int.reduceToNat, Int.reducePow, Int.reduceMul, Int.reduceAdd, draw_i, ix_t0, ix_t1, ix_t2, ix_t3, ix_m3, ix_m4, sn_ball_box, sn_cell_box, sn_cell_ball, sn_ball_cell, sn_box_ball, sn_box_cell, decide_false, dicOf]
  refine ⟨stD (ks.map (fullI p)), ⟨0, .inr rfl⟩, rfl, fun f hf => ?_⟩
  rw [merge_st fo.1]
  have hf8 : setM M7 f (.dic none (stD (ks.map (fullI p)))) f = some (.dic none (stD (ks.map (fullI p)))) := setM_same
  have up8 := up.trans (up_new (c := .dic none (stD (ks.map (fullI p)))) hf)
  generalize setM M7 f (.dic none (stD (ks.map (fullI p)))) = M8 at hf8 up8
  have hcov : ∀ d ∈ one ++ other, ∃ i ∈ ks.map (fullI p), i.key = d.key := fun d h => by
    have db : ddB p ks d := (List.mem_append.mp h).elim (h1 d) (h2 d)
    have dk : d.key ∈ ks := by
      cases d with
      | take k => exact db
      | put i => exact db.2
    exact ⟨_, List.mem_map_of_mem dk, rfl⟩
  generalize ks.map (fullI p) = full at fo hf8 hcov
  subst hK
  refine seq_gen fun K hK => ?_
  simp (disch := first | assumption | decide) only [wSeq, wNext, wAsg, wgName, wIfS, wB, wOp, wVar, wC, wCall, wCallK, wCons, wNil, wRet, wRetN, wDrop, wTup, wLst, wIf, wAnd, wOr, wNot, wAndV, wOrV, wNotV, wNeg, wChain, fI, fI0, addD, fLt, fLe, fGt, fGe, fIsB, wCB, fAbs, f2I, fInt, fIsq, wPar, wPar3, permD, startE, List.map_cons, List.map_nil, List.cons_append, List.nil_append, List.append_nil, List.length_cons, List.length_nil, List.replicate, List.getElem?_cons_zero, List.getElem?_cons_succ, List.set_cons_zero, List.set_cons_succ, List.getD_cons_zero, List.getD_cons_succ, Nat.reduceAdd, Nat.reduceSub, Nat.zero_add, true_and, and_true, Bool.not_true, Bool.not_false, if_true, if_false, Bool.false_eq_true, reduceIte, decide_eq_true_eq, Bool.not_eq_true', decide_eq_false_iff_not, eqV_int, eqV_str, eqV_bl, decide_true, reduceCtorEq, not_true_eq_false, not_false_eq_true, Bool.not_eq_true, List.not_mem_nil, false_implies, implies_true, Int.reduceNeg, Int.reduceToNat, Int.reducePow, Int.reduceMul, Int.reduceAdd, draw_i, ix_t0, ix_t1, ix_t2, ix_t3, ix_m3, ix_m4, sn_ball_box, sn_cell_box, sn_cell_ball, sn_ball_cell, sn_box_ball, sn_box_cell, decide_false]
  subst hK
  refine seq_gen fun K hK => ?_
  refine for_gen fun B hB => ?_
  simp (disch := first | assumption | decide) only [wSeq, wNext, wAsg, wgName, wIfS, wB, wOp, wVar, wC, wCall, wCallK, wCons, wNil, wRet, wRetN, wDrop, wTup, wLst, wIf, wAnd, wOr, wNot, wAndV, wOrV, wNotV, wNeg, wChain, fI, fI0, addD, fLt, fLe, fGt, fGe, fIsB, wCB, fAbs, f2I, fInt, fIsq, wPar, wPar3, permD, startE, List.map_cons, List.map_nil, List.cons_append, List.nil_append, List.append_nil, List.length_cons, List.length_nil, List.replicate, List.getElem?_cons_zero, List.getElem?_cons_succ, List.set_cons_zero, List.set_cons_succ, List.getD_cons_zero, List.getD_cons_succ, Nat.reduceAdd, Nat.reduceSub, Nat.zero_add, true_and, and_true, Bool.not_true, Bool.not_false, if_true, if_false, Bool.false_eq_true, reduceIte, decide_eq_true_eq, Bool.not_eq_true', decide_eq_false_iff_not, eqV_int, eqV_str, eqV_bl, decide_true, reduceCtorEq, not_true_eq_false, not_false_eq_true, Bool.not_eq_true, List.not_mem_nil, false_implies, implies_true, Int.reduceNeg, Int.reduceToNat, Int.reducePow, Int.reduceMul, Int.reduceAdd, draw_i, ix_t0, ix_t1, ix_t2, ix_t3, ix_m3, ix_m4, sn_ball_box, sn_cell_box, sn_cell_ball, sn_ball_cell, sn_box_ball, sn_box_cell, decide_false, wFor, wiSeq, wDct0, wDNew]
  intro e he
  have ue := up_new (c := .dic none []) he
  have we := ue _ _ (up8 _ _ W.box)
  refine ⟨b, t, p, 4, ks, ns, rfl, { W with box := ue _ _ (up8 _ _ W.box), keys := ue _ _ (up8 _ _ W.keys) }, by decide, fun dd M9 up9 l9 h9 => ?_⟩
  have he9 := up9 _ _ (setM_same (M := M8) (a := e) (c := .dic none []))
  try simp (disch := first | assumption | decide) only [wSeq, wNext, wAsg, wgName, wIfS, wB, wOp, wVar, wC, wCall, wCallK, wCons, wNil, wRet, wRetN, wDrop, wTup, wLst, wIf, wAnd, wOr, wNot, wAndV, wOrV, wNotV, wNeg, wChain, fI, fI0, addD, fLt, fLe, fGt, fGe, fIsB, wCB, fAbs, f2I, fInt, fIsq, wPar, wPar3, permD, startE, List.map_cons, List.map_nil, List.cons_append, List.nil_append, List.append_nil, List.length_cons, List.length_nil, List.replicate, List.getElem?_cons_zero, List.getElem?_cons_succ, List.set_cons_zero, List.set_cons_succ, List.getD_cons_zero, List.getD_cons_succ, Nat.reduceAdd, Nat.reduceSub, Nat.zero_add, true_and, and_true, Bool.not_true, Bool.not_false, if_true, if_false, Bool.false_eq_true, reduceIte, decide_eq_true_eq, Bool.not_eq_true', decide_eq_false_iff_not, eqV_int, eqV_str, eqV_bl, decide_true, reduceCtorEq, not_true_eq_false, not_false_eq_true, Bool.not_eq_true, List.not_mem_nil, false_implies, implies_true, Int.reduceNeg, Int.reduceToNat, Int.reducePow, Int.reduceMul, Int.reduceAdd, draw_i, ix_t0, ix_t1, ix_t2, ix_t3, ix_m3, ix_m4, sn_ball_box, sn_cell_box, sn_cell_ball, sn_ball_cell, sn_box_ball, sn_box_cell, decide_false]
  refine ⟨e, _, [], dd, rfl, he9, .inl rfl, List.nodup_nil, by simp only [List.length_nil]; omega, fun x Ma upa hx hxa => ?_⟩
  try simp (disch := first | assumption | decide) only [wSeq, wNext, wAsg, wgName, wIfS, wB, wOp, wVar, wC, wCall, wCallK, wCons, wNil, wRet, wRetN, wDrop, wTup, wLst, wIf, wAnd, wOr, wNot, wAndV, wOrV, wNotV, wNeg, wChain, fI, fI0, addD, fLt, fLe, fGt, fGe, fIsB, wCB, fAbs, f2I, fInt, fIsq, wPar, wPar3, permD, startE, List.map_cons, List.map_nil, List.cons_append, List.nil_append, List.append_nil, List.length_cons, List.length_nil, List.replicate, List.getElem?_cons_zero, List.getElem?_cons_succ, List.set_cons_zero, List.set_cons_succ, List.getD_cons_zero, List.getD_cons_succ, Nat.reduceAdd, Nat.reduceSub, Nat.zero_add, true_and, and_true, Bool.not_true, Bool.not_false, if_true, if_false, Bool.false_eq_true, reduceIte, decide_eq_true_eq, Bool.not_eq_true', decide_eq_false_iff_not, eqV_int, eqV_str, eqV_bl, decide_true, reduceCtorEq, not_true_eq_false, not_false_eq_true, Bool.not_eq_true, List.not_mem_nil, false_implies, implies_true, Int.reduceNeg, Int.reduceToNat, Int.reducePow, Int.reduceMul, Int.reduceAdd, draw_i, ix_t0, ix_t1, ix_t2, ix_t3, ix_m3, ix_m4, sn_ball_box, sn_cell_box, sn_cell_ball, sn_ball_cell, sn_box_ball, sn_box_cell, decide_false]
  have so : stB p 60 (dd.foldl doneS []) := st_upB (stB_S h9 (stB_nil (p := p) (n := 0))) (by omega)
  have upM := ((up8.trans ue).trans up9).trans upa
  have hfa := upa _ _ (up9 _ _ (ue _ _ hf8))
  generalize dd.foldl doneS [] = st at hxa so
  refine ⟨by decide, ?_⟩
  have conv : [D.dct [] [], .tok f, .tok x] = [(D.dct [] [], ([] : List Itm)), (.tok f, full), (.tok x, st)].map Prod.fst := rfl
  rw [conv]
  have tk : ∀ (y : D × List Itm), y ∈ [(D.dct [] [], ([] : List Itm)), (.tok f, full), (.tok x, st)] → stB p 60 y.2 ∧ ∀ M', Up Ma M' → dicOf M' y.1 = some (stD y.2) := fun y hy => by
    simp only [List.mem_cons, List.not_mem_nil, or_false] at hy
    rcases hy with rfl | rfl | rfl
    · exact ⟨stB_nil, fun M' u => rfl⟩
    · exact ⟨st_upB fo (by decide), fun M' u => dic_at (u _ _ hfa)⟩
    · exact ⟨so, fun M' u => dic_at (u _ _ hxa)⟩
  have eE : ∀ s : List Itm, stB p 60 s → (eqDc (stD (one.foldl doneP s)) (stD (other.foldl doneP s)) = true ↔ sameS (one.foldl doneP s) (other.foldl doneP s)) := fun s hs => eqDc_st (fold_P one s hs.1).1 (fold_P other s hs.1).1
  have fin : ([(D.dct [] [], ([] : List Itm)), (.tok f, full), (.tok x, st)].all fun y => eqDc (stD (one.foldl doneP y.2)) (stD (other.foldl doneP y.2))) = decide (lastL one = lastL other) := by
    rw [Bool.eq_iff_iff, decide_eq_true_eq, ← effects stp_P (st := st) hcov]
    simp only [List.all_cons, List.all_nil, Bool.and_true, Bool.and_eq_true]
    rw [eE [] stB_nil, eE full (st_upB fo (by decide)), eE st so]
  generalize [(D.dct [] [], ([] : List Itm)), (.tok f, full), (.tok x, st)] = xs at tk fin
  refine loop_map Prod.fst xs (fun n ρ' M' => Up Ma M' ∧ ∃ v6, ρ' = [some (.tok b), some (.tup [.int (p : Int), .tok t, .lst (ns.map .str)]), some (.tup (one.map Dd.d)), some (.tup (other.map Dd.d)), some (.tok f), some (.bl ((xs.take n).all fun y => eqDc (stD (one.foldl doneP y.2)) (stD (other.foldl doneP y.2)))), v6, some (.int (p : Int)), some (.tok t), some (.lst (ns.map .str)), some (.tup ((lastL one).map Dd.d)), some (.tup ((lastL other).map Dd.d)), none]) (fun n y ρ' M' hy hn hP => ?_) (fun ρ' M' hP => ?_) ⟨Up.refl _, none, rfl⟩
  · obtain ⟨u, v6, rfl⟩ := hP
    obtain ⟨sy, dy⟩ := tk y (List.mem_of_getElem? hy)
    have d0 := dy M' u
    have ly := sy.2.1
    have big1 := st_upB (stB_P h1 sy) (by omega : 60 + one.length ≤ 200)
    have big2 := st_upB (stB_P h2 sy) (by omega : 60 + other.length ≤ 200)
    have big3 := st_upB (stB_P l1 sy) (by omega : 60 + (lastL one).length ≤ 200)
    have big4 := st_upB (stB_P l2 sy) (by omega : 60 + (lastL other).length ≤ 200)
    refine ⟨True.intro, fun K3 hK3 => ?_⟩
    simp only [wgName, List.set_cons_succ, List.set_cons_zero]
    subst hB
    refine seq_gen fun K4 hK4 => ?_
    simp (disch := first | assumption | decide) only [wSeq, wNext, wAsg, wgName, wIfS, wB, wOp, wVar, wC, wCall, wCallK, wCons, wNil, wRet, wRetN, wDrop, wTup, wLst, wIf, wAnd, wOr, wNot, wAndV, wOrV, wNotV, wNeg, wChain, fI, fI0, addD, fLt, fLe, fGt, fGe, fIsB, wCB, fAbs, f2I, fInt, fIsq, wPar, wPar3, permD, startE, List.map_cons, List.map_nil, List.cons_append, List.nil_append, List.append_nil, List.length_cons, List.length_nil, List.replicate, List.getElem?_cons_zero, List.getElem?_cons_succ, List.set_cons_zero, List.set_cons_succ, List.getD_cons_zero, List.getD_cons_succ, Nat.reduceAdd, Nat.reduceSub, Nat.zero_add, true_and, and_true, Bool.not_true, Bool.not_false, if_true, if_false, Bool.false_eq_true, reduceIte, decide_eq_true_eq, Bool.not_eq_true', decide_eq_false_iff_not, eqV_int, eqV_str, eqV_bl, decide_true, reduceCtorEq, not_true_eq_false, not_false_eq_true, Bool.not_eq_true, List.not_mem_nil, false_implies, implies_true, Int.reduceNeg, Int.reduceToNat, Int.reducePow, Int.reduceMul, Int.reduceAdd, draw_i, ix_t0, ix_t1, ix_t2, ix_t3, ix_m3, ix_m4, sn_ball_box, sn_cell_box, sn_cell_ball, sn_ball_cell, sn_box_ball, sn_box_cell, decide_false]
    refine all_i d0 sy.1 (by omega) fun y1 N1 u1 _ q1 => all_i (dy N1 (u.trans u1)) sy.1 (by omega) fun y2 N2 u2 _ q2 => ?_
    refine dc_same (dic_at (u2 _ _ q1)) (dic_at q2) big1 big3 (fold_last stp_P stp_P one y.2) ?_
    try simp (disch := first | assumption | decide) only [wSeq, wNext, wAsg, wgName, wIfS, wB, wOp, wVar, wC, wCall, wCallK, wCons, wNil, wRet, wRetN, wDrop, wTup, wLst, wIf, wAnd, wOr, wNot, wAndV, wOrV, wNotV, wNeg, wChain, fI, fI0, addD, fLt, fLe, fGt, fGe, fIsB, wCB, fAbs, f2I, fInt, fIsq, wPar, wPar3, permD, startE, List.map_cons, List.map_nil, List.cons_append, List.nil_append, List.append_nil, List.length_cons, List.length_nil, List.replicate, List.getElem?_cons_zero, List.getElem?_cons_succ, List.set_cons_zero, List.set_cons_succ, List.getD_cons_zero, List.getD_cons_succ, Nat.reduceAdd, Nat.reduceSub, Nat.zero_add, true_and, and_true, Bool.not_true, Bool.not_false, if_true, if_false, Bool.false_eq_true, reduceIte, decide_eq_true_eq, Bool.not_eq_true', decide_eq_false_iff_not, eqV_int, eqV_str, eqV_bl, decide_true, reduceCtorEq, not_true_eq_false, not_false_eq_true, Bool.not_eq_true, List.not_mem_nil, false_implies, implies_true, Int.reduceNeg, Int.reduceToNat, Int.reducePow, Int.reduceMul, Int.reduceAdd, draw_i, ix_t0, ix_t1, ix_t2, ix_t3, ix_m3, ix_m4, sn_ball_box, sn_cell_box, sn_cell_ball, sn_ball_cell, sn_box_ball, sn_box_cell, decide_false]
    refine all_i (dy N2 ((u.trans u1).trans u2)) sy.1 (by omega) fun y3 N3 u3 _ q3 => all_i (dy N3 (((u.trans u1).trans u2).trans u3)) sy.1 (by omega) fun y4 N4 u4 _ q4 => ?_
    refine dc_same (dic_at (u4 _ _ q3)) (dic_at q4) big2 big4 (fold_last stp_P stp_P other y.2) ?_
    try simp (disch := first | assumption | decide) only [wSeq, wNext, wAsg, wgName, wIfS, wB, wOp, wVar, wC, wCall, wCallK, wCons, wNil, wRet, wRetN, wDrop, wTup, wLst, wIf, wAnd, wOr, wNot, wAndV, wOrV, wNotV, wNeg, wChain, fI, fI0, addD, fLt, fLe, fGt, fGe, fIsB, wCB, fAbs, f2I, fInt, fIsq, wPar, wPar3, permD, startE, List.map_cons, List.map_nil, List.cons_append, List.nil_append, List.append_nil, List.length_cons, List.length_nil, List.replicate, List.getElem?_cons_zero, List.getElem?_cons_succ, List.set_cons_zero, List.set_cons_succ, List.getD_cons_zero, List.getD_cons_succ, Nat.reduceAdd, Nat.reduceSub, Nat.zero_add, true_and, and_true, Bool.not_true, Bool.not_false, if_true, if_false, Bool.false_eq_true, reduceIte, decide_eq_true_eq, Bool.not_eq_true', decide_eq_false_iff_not, eqV_int, eqV_str, eqV_bl, decide_true, reduceCtorEq, not_true_eq_false, not_false_eq_true, Bool.not_eq_true, List.not_mem_nil, false_implies, implies_true, Int.reduceNeg, Int.reduceToNat, Int.reducePow, Int.reduceMul, Int.reduceAdd, draw_i, ix_t0, ix_t1, ix_t2, ix_t3, ix_m3, ix_m4, sn_ball_box, sn_cell_box, sn_cell_ball, sn_ball_cell, sn_box_ball, sn_box_cell, decide_false]
    have uN := (((u.trans u1).trans u2).trans u3).trans u4
    have et : (xs.take (n + 1)).all (fun y => eqDc (stD (one.foldl doneP y.2)) (stD (other.foldl doneP y.2))) = ((xs.take n).all (fun y => eqDc (stD (one.foldl doneP y.2)) (stD (other.foldl doneP y.2))) && eqDc (stD (one.foldl doneP y.2)) (stD (other.foldl doneP y.2))) := by
      rw [List.take_add_one, hy, List.all_append]
      simp
    subst hK4
    simp (disch := first | assumption | decide) only [wSeq, wNext, wAsg, wgName, wIfS, wB, wOp, wVar, wC, wCall, wCallK, wCons, wNil, wRet, wRetN, wDrop, wTup, wLst, wIf, wAnd, wOr, wNot, wAndV, wOrV, wNotV, wNeg, wChain, fI, fI0, addD, fLt, fLe, fGt, fGe, fIsB, wCB, fAbs, f2I, fInt, fIsq, wPar, wPar3, permD, startE, List.map_cons, List.map_nil, List.cons_append, List.nil_append, List.append_nil, List.length_cons, List.length_nil, List.replicate, List.getElem?_cons_zero, List.getElem?_cons_succ, List.set_cons_zero, List.set_cons_succ, List.getD_cons_zero, List.getD_cons_succ, Nat.reduceAdd, Nat.reduceSub, Nat.zero_add, true_and, and_true, Bool.not_true, Bool.not_false, if_true, if_false, Bool.false_eq_true, reduceIte, decide_eq_true_eq, Bool.not_eq_true', decide_eq_false_iff_not, eqV_int, eqV_str, eqV_bl, decide_true, reduceCtorEq, not_true_eq_false, not_false_eq_true, Bool.not_eq_true, List.not_mem_nil, false_implies, implies_true, Int.reduceNeg, Int.reduceToNat, Int.reducePow, Int.reduceMul, Int.reduceAdd, draw_i, ix_t0, ix_t1, ix_t2, ix_t3, ix_m3, ix_m4, sn_ball_box, sn_cell_box, sn_cell_ball, sn_ball_cell, sn_box_ball, sn_box_cell, decide_false, wAndV]
    cases hc : (xs.take n).all fun y => eqDc (stD (one.foldl doneP y.2)) (stD (other.foldl doneP y.2)) with
    | false =>
      rw [hc, Bool.false_and] at et
      dsimp only
      refine hK3 _ _ ⟨uN, some y.1, ?_⟩
      rw [et]
    | true =>
      rw [hc, Bool.true_and] at et
      dsimp only
      refine all_i (dy N4 uN) sy.1 (by omega) fun y5 N5 u5 _ q5 => all_i (dy N5 (uN.trans u5)) sy.1 (by omega) fun y6 N6 u6 _ q6 => ?_
      refine dc_i (dic_at (u6 _ _ q5)) (dic_at q6) big1 big2 ?_
      refine hK3 _ _ ⟨(uN.trans u5).trans u6, some y.1, ?_⟩
      rw [et]
      rfl
  · obtain ⟨u, v6, rfl⟩ := hP
    rw [List.take_length, fin]
    refine ⟨True.intro, ?_⟩
    show K _ _
    subst hK
    simp (disch := first | assumption | decide) only [wSeq, wNext, wAsg, wgName, wIfS, wB, wOp, wVar, wC, wCall, wCallK, wCons, wNil, wRet, wRetN, wDrop, wTup, wLst, wIf, wAnd, wOr, wNot, wAndV, wOrV, wNotV, wNeg, wChain, fI, fI0, addD, fLt, fLe, fGt, fGe, fIsB, wCB, fAbs, f2I, fInt, fIsq, wPar, wPar3, permD, startE, List.map_cons, List.map_nil, List.cons_append, List.nil_append, List.append_nil, List.length_cons, List.length_nil, List.replicate, List.getElem?_cons_zero, List.getElem?_cons_succ, List.set_cons_zero, List.set_cons_succ, List.getD_cons_zero, List.getD_cons_succ, Nat.reduceAdd, Nat.reduceSub, Nat.zero_add, true_and, and_true, Bool.not_true, Bool.not_false, if_true, if_false, Bool.false_eq_true, reduceIte, decide_eq_true_eq, Bool.not_eq_true', decide_eq_false_iff_not, eqV_int, eqV_str, eqV_bl, decide_true, reduceCtorEq, not_true_eq_false, not_false_eq_true, Bool.not_eq_true, List.not_mem_nil, false_implies, implies_true, Int.reduceNeg, Int.reduceToNat, Int.reducePow, Int.reduceMul, Int.reduceAdd, draw_i, ix_t0, ix_t1, ix_t2, ix_t3, ix_m3, ix_m4, sn_ball_box, sn_cell_box, sn_cell_ball, sn_ball_cell, sn_box_ball, sn_box_cell, decide_false]
    refine eq_dds l1 l2 ?_
    refine eqV_bl.mpr ?_
    rw [if_neg Bool.false_ne_true, decide_eq_true rfl]
    exact q _ (upM.trans u)
end K16
namespace K16
open PySem L2 L3
theorem lc_mapU {α : Type} {wg : WG} {we : WE} {Ok : Mp → Prop} {ρ : En} {Q : KD} (f g : α → D) : ∀ (xs : List α) (acc : List D) (M : Mp), (∀ M', Up M M' → Ok M') → acc.length + xs.length ≤ 1000000 → (∀ a ∈ xs, ∀ M', Up M M' → ∀ K : KD, (∀ M'', Up M' M'' → K (g a) M'') → wg (f a) ρ M' fun ρ1 M1 => we ρ1 M1 K) →
    (∀ M', Up M M' → Q (.lst (acc ++ xs.map g)) M') → wLcL wg wYes we Ok ρ (xs.map f) acc M Q
  | [], acc, M, ok, _, _, q => ⟨ok M (Up.refl M), by have q := q M (Up.refl M); rw [List.map_nil, List.append_nil] at q; exact q⟩
  | a :: xs, acc, M, ok, hl, hs, q => by
    rw [List.length_cons] at hl
    refine ⟨ok M (Up.refl M), Nat.lt_of_lt_of_le (by omega : acc.length < 1000000) (by decide), ?_⟩
    have z := hs a List.mem_cons_self M (Up.refl M) (fun y M3 => wLcL wg wYes we Ok ρ (xs.map f) (acc ++ [y]) M3 Q)
      (fun M2 u2 => lc_mapU f g xs (acc ++ [g a]) M2 (fun M' u => ok M' (u2.trans u)) (by rw [List.length_append, List.length_singleton]; omega) (fun d' h' M' u => hs d' (List.mem_cons_of_mem _ h') M' (u2.trans u)) (fun M' u => by rw [List.append_assoc]; exact q M' (u2.trans u)))
    exact z
theorem srtK_ints (zs : List Int) : srtK (zs.map Sum.inl) = (zs.mergeSort fun a b => decide (a ≤ b)).map Sum.inl := by
  unfold srtK
  refine (List.map_mergeSort (r := fun a b : Int => decide (a ≤ b)) (s := PySem.W.dataLe false keyPy) (f := Sum.inl) (l := zs) fun a _ b _ => ?_).symm
  have h := congrFun (congrFun (PySem.W.dataLe_int (fun b : Int => b)) a) b
  exact h.symm
theorem keys_int : ∀ l : List Key, (∀ k ∈ l, ∃ x, k = .inl x) → ∃ ns : List Int, l = ns.map Sum.inl
  | [], _ => ⟨[], rfl⟩
  | k :: l, h => by
    obtain ⟨x, rfl⟩ := h k List.mem_cons_self
    obtain ⟨ns, rfl⟩ := keys_int l fun y hy => h y (List.mem_cons_of_mem _ hy)
    exact ⟨x :: ns, rfl⟩
/-- sorted(set(..)) of whole numbers -/
theorem set_ints {ρ : En} {M : Mp} {we : WE} {Q : KD} {ns : List Int} (hl : ns.length ≤ 4000) (h : ∀ K : KD, K (.lst (ns.map .int)) M → we ρ M K) (q : ∀ zs : List Int, zs.Pairwise (· < ·) → (∀ k, k ∈ zs ↔ k ∈ ns) → zs.length ≤ ns.length → Q (.lst (zs.map .int)) M) : wSortSet we ρ M Q := by
  refine h _ ⟨ns.map Sum.inl, ?_, by rw [List.length_map]; exact hl, .inl fun k hk => ?_, fun us nd hm hu => ?_⟩
  · show some _ = some _
    rw [List.map_map]
    rfl
  · obtain ⟨x, _, rfl⟩ := List.mem_map.mp hk
    exact ⟨x, rfl⟩
  · obtain ⟨vs, rfl⟩ := keys_int us fun k hk => by
      obtain ⟨x, _, rfl⟩ := List.mem_map.mp ((hm k).1 hk)
      exact ⟨x, rfl⟩
    rw [srtK_ints, List.map_map]
    have ndv : vs.Nodup := (List.pairwise_map.mp nd).imp fun hne e => hne (congrArg Sum.inl e)
    have pm := ks_perm (fun a : Int => a) vs
    have so := ks_sorted (fun a : Int => a) vs
    refine q _ ((so.and (pm.nodup_iff.mpr ndv)).imp fun {a b} ⟨h1, h2⟩ => by omega) (fun k => ?_) ?_
    · refine pm.mem_iff.trans ?_
      have := hm (.inl k)
      simpa using this
    · have := pm.length_eq
      rw [List.length_map, List.length_map] at hu
      omega
def dueF (a b : List Itm) (k : Int) : Option Dd := match b.find? fun i => decide (i.key = k) with
  | none => some (.take k)
  | some i => if i ∈ a then none else some (.put i)
theorem find_key {b : List Itm} (nb : (keysS b).Nodup) {i : Itm} (h : i ∈ b) : b.find? (fun j => decide (j.key = i.key)) = some i := by
  cases z : b.find? fun j => decide (j.key = i.key) with
  | none => exact absurd (decide_eq_true rfl) (List.find?_eq_none.mp z i h)
  | some j =>
    have h1 := List.mem_of_find?_eq_some z
    have h2 : j.key = i.key := by simpa using List.find?_some z
    rw [item_one nb h1 h h2]
theorem find_no {b : List Itm} {k : Int} (h : k ∉ keysS b) : b.find? (fun j => decide (j.key = k)) = none := List.find?_eq_none.mpr fun j hj e => h (by have := of_decide_eq_true e; rw [← this]; exact List.mem_map_of_mem hj)
theorem due_key {a b : List Itm} {k : Int} {d : Dd} (h : dueF a b k = some d) : d.key = k := by
  unfold dueF at h
  cases z : b.find? fun i => decide (i.key = k) with
  | none =>
    rw [z] at h
    cases h
    rfl
  | some i =>
    rw [z] at h
    dsimp only at h
    split at h
    · cases h
    · cases h
      show i.key = k
      simpa using List.find?_some z
theorem due_is {a b : List Itm} (ha : (keysS a).Nodup) (hb : (keysS b).Nodup) {zs : List Int} (hz : zs.Pairwise (· < ·)) (hm : ∀ k, k ∈ zs ↔ k ∈ keysS a ++ keysS b) : zs.filterMap (dueF a b) = betw a b := by
  have pw : (zs.filterMap (dueF a b)).Pairwise fun x y => x.key < y.key := List.Pairwise.filterMap (dueF a b) (fun x y h d hd e he => by rw [due_key hd, due_key he]; exact h) hz
  refine betw_is ha hb (pw.imp fun h => Int.le_of_lt h) (List.pairwise_map.mpr (pw.imp fun h => Int.ne_of_lt h)) fun d => ?_
  rw [List.mem_filterMap]
  constructor
  · rintro ⟨k, hk, hd⟩
    have hk := (hm k).mp hk
    unfold dueF at hd
    cases z : b.find? fun i => decide (i.key = k) with
    | none =>
      rw [z] at hd
      cases hd
      have nk : k ∉ keysS b := fun h => by
        obtain ⟨i, hi, e⟩ := List.mem_map.mp h
        exact List.find?_eq_none.mp z i hi (decide_eq_true e)
      rcases List.mem_append.mp hk with h | h
      · obtain ⟨i, hi, rfl⟩ := List.mem_map.mp h
        exact .inl ⟨i, hi, nk, rfl⟩
      · exact absurd h nk
    | some i =>
      rw [z] at hd
      dsimp only at hd
      split at hd
      · cases hd
      · rename_i hia
        cases hd
        exact .inr ⟨i, List.mem_of_find?_eq_some z, hia, rfl⟩
  · rintro (⟨i, h1, h2, rfl⟩ | ⟨i, h1, h2, rfl⟩)
    · refine ⟨i.key, (hm _).mpr (List.mem_append_left _ (List.mem_map_of_mem h1)), ?_⟩
      unfold dueF
      rw [find_no h2]
    · refine ⟨i.key, (hm _).mpr (List.mem_append_right _ (List.mem_map_of_mem h1)), ?_⟩
      unfold dueF
      rw [find_key hb h1]
      exact if_neg h2
theorem betw_ok {p n : Nat} {a b : List Itm} (ha : stB p n a) (hb : stB p n b) : (∀ d ∈ betw a b, ddB p (keysS a ++ keysS b) d) := fun d hd => by
  rcases mem_betw.mp hd with ⟨i, h1, _, rfl⟩ | ⟨i, h1, _, rfl⟩
  · exact List.mem_append_left _ (List.mem_map_of_mem h1)
  · exact ⟨hb.2.2 i h1, List.mem_append_right _ (List.mem_map_of_mem h1)⟩
theorem betw_kb {p n : Nat} {a b : List Itm} (ha : stB p n a) (hb : stB p n b) : ∀ k ∈ keysS a ++ keysS b, 0 ≤ k ∧ k ≤ 2000000000 := fun k hk => by
  rcases List.mem_append.mp hk with h | h
  · obtain ⟨i, hi, rfl⟩ := List.mem_map.mp h
    exact (ha.2.2 i hi).2.2.2.2
  · obtain ⟨i, hi, rfl⟩ := List.mem_map.mp h
    exact (hb.2.2 i hi).2.2.2.2
theorem dd_cut (l : List Dd) (i : Nat) : cutD (l.map Dd.d) none (some (i : Int)) ++ cutD (l.map Dd.d) (some ((i + 1 : Nat) : Int)) none = (l.eraseIdx i).map Dd.d := by
  rw [cut_takeN, cut_dropN, List.eraseIdx_eq_take_drop_succ, List.map_append, List.map_take, List.map_drop]
theorem nums_d (n : Nat) : intsD 0 n = (List.range n).map fun (i : Nat) => D.int (i : Int) := nums_range n
theorem wp__law_between_right : ∀ ds M Q R, F__law_between_right ds M Q R → W__law_between_right { nx := fun _ M' => Q .non M', rt := Q, xr := lx R } (startE 9 ds) M := by
  rintro ds M Q R ⟨b, t, p, ks, ns, rfl, W, q⟩
  have p8 : p ≤ 8 := by have := W.p3; omega
  unfold W__law_between_right
  refine seq_gen fun K hK => ?_
  simp (disch := first | assumption | decide) only [wSeq, wNext, wAsg, wgName, wIfS, wB, wOp, wVar, wC, wCall, wCallK, wCons, wNil, wRet, wRetN, wDrop, wTup, wLst, wIf, wAnd, wOr, wNot, wAndV, wOrV, wNotV, wNeg, wChain, fI, fI0, addD, fLt, fLe, fGt, fGe, fIsB, wCB, fAbs, f2I, fInt, fIsq, wPar, wPar3, permD, startE, List.map_cons, List.map_nil, List.cons_append, List.nil_append, List.append_nil, List.length_cons, List.length_nil, List.replicate, List.getElem?_cons_zero, List.getElem?_cons_succ, List.set_cons_zero, List.set_cons_succ, List.getD_cons_zero, List.getD_cons_succ, Nat.reduceAdd, Nat.reduceSub, Nat.zero_add, true_and, and_true, Bool.not_true, Bool.not_false, if_true, if_false, Bool.false_eq_true, reduceIte, decide_eq_true_eq, Bool.not_eq_true', decide_eq_false_iff_not, eqV_int, eqV_str, eqV_bl, decide_true, reduceCtorEq, not_true_eq_false, not_false_eq_true, Bool.not_eq_true, List.not_mem_nil, false_implies, implies_true, Int.reduceNeg, Int.reduceToNat, Int.reducePow, Int.reduceMul, Int.reduceAdd, draw_i, ix_t0, ix_t1, ix_t2, ix_t3, ix_m3, ix_m4, sn_ball_box, sn_cell_box, sn_cell_ball, sn_ball_cell, sn_box_ball, sn_box_cell, decide_false, wDNew]
  intro e he
  have ue := up_new (c := .dic none []) he
  refine (take_i (ue _ _ W.box) (by decide) (by decide)).mpr fun w w0 w1 => ?_
  obtain ⟨w, rfl⟩ := Int.eq_ofNat_of_zero_le w0
  try simp (disch := first | assumption | decide) only [wSeq, wNext, wAsg, wgName, wIfS, wB, wOp, wVar, wC, wCall, wCallK, wCons, wNil, wRet, wRetN, wDrop, wTup, wLst, wIf, wAnd, wOr, wNot, wAndV, wOrV, wNotV, wNeg, wChain, fI, fI0, addD, fLt, fLe, fGt, fGe, fIsB, wCB, fAbs, f2I, fInt, fIsq, wPar, wPar3, permD, startE, List.map_cons, List.map_nil, List.cons_append, List.nil_append, List.append_nil, List.length_cons, List.length_nil, List.replicate, List.getElem?_cons_zero, List.getElem?_cons_succ, List.set_cons_zero, List.set_cons_succ, List.getD_cons_zero, List.getD_cons_succ, Nat.reduceAdd, Nat.reduceSub, Nat.zero_add, true_and, and_true, Bool.not_true, Bool.not_false, if_true, if_false, Bool.false_eq_true, reduceIte, decide_eq_true_eq, Bool.not_eq_true', decide_eq_false_iff_not, eqV_int, eqV_str, eqV_bl, decide_true, reduceCtorEq, not_true_eq_false, not_false_eq_true, Bool.not_eq_true, List.not_mem_nil, false_implies, implies_true, Int.reduceNeg, Int.reduceToNat, Int.reducePow, Int.reduceMul, Int.reduceAdd, draw_i, ix_t0, ix_t1, ix_t2, ix_t3, ix_m3, ix_m4, sn_ball_box, sn_cell_box, sn_cell_ball, sn_ball_cell, sn_box_ball, sn_box_cell, decide_false]
  refine ⟨b, t, p, w, ks, ns, rfl, { W with box := ue _ _ W.box, keys := ue _ _ W.keys }, by omega, fun d1 M1 up1 l1 h1 => ?_⟩
  try simp (disch := first | assumption | decide) only [wSeq, wNext, wAsg, wgName, wIfS, wB, wOp, wVar, wC, wCall, wCallK, wCons, wNil, wRet, wRetN, wDrop, wTup, wLst, wIf, wAnd, wOr, wNot, wAndV, wOrV, wNotV, wNeg, wChain, fI, fI0, addD, fLt, fLe, fGt, fGe, fIsB, wCB, fAbs, f2I, fInt, fIsq, wPar, wPar3, permD, startE, List.map_cons, List.map_nil, List.cons_append, List.nil_append, List.append_nil, List.length_cons, List.length_nil, List.replicate, List.getElem?_cons_zero, List.getElem?_cons_succ, List.set_cons_zero, List.set_cons_succ, List.getD_cons_zero, List.getD_cons_succ, Nat.reduceAdd, Nat.reduceSub, Nat.zero_add, true_and, and_true, Bool.not_true, Bool.not_false, if_true, if_false, Bool.false_eq_true, reduceIte, decide_eq_true_eq, Bool.not_eq_true', decide_eq_false_iff_not, eqV_int, eqV_str, eqV_bl, decide_true, reduceCtorEq, not_true_eq_false, not_false_eq_true, Bool.not_eq_true, List.not_mem_nil, false_implies, implies_true, Int.reduceNeg, Int.reduceToNat, Int.reducePow, Int.reduceMul, Int.reduceAdd, draw_i, ix_t0, ix_t1, ix_t2, ix_t3, ix_m3, ix_m4, sn_ball_box, sn_cell_box, sn_cell_ball, sn_ball_cell, sn_box_ball, sn_box_cell, decide_false]
  refine ⟨e, _, [], d1, rfl, up1 _ _ setM_same, .inl rfl, List.nodup_nil, by simp only [List.length_nil]; omega, fun x M2 up2 _ hx => ?_⟩
  try simp (disch := first | assumption | decide) only [wSeq, wNext, wAsg, wgName, wIfS, wB, wOp, wVar, wC, wCall, wCallK, wCons, wNil, wRet, wRetN, wDrop, wTup, wLst, wIf, wAnd, wOr, wNot, wAndV, wOrV, wNotV, wNeg, wChain, fI, fI0, addD, fLt, fLe, fGt, fGe, fIsB, wCB, fAbs, f2I, fInt, fIsq, wPar, wPar3, permD, startE, List.map_cons, List.map_nil, List.cons_append, List.nil_append, List.append_nil, List.length_cons, List.length_nil, List.replicate, List.getElem?_cons_zero, List.getElem?_cons_succ, List.set_cons_zero, List.set_cons_succ, List.getD_cons_zero, List.getD_cons_succ, Nat.reduceAdd, Nat.reduceSub, Nat.zero_add, true_and, and_true, Bool.not_true, Bool.not_false, if_true, if_false, Bool.false_eq_true, reduceIte, decide_eq_true_eq, Bool.not_eq_true', decide_eq_false_iff_not, eqV_int, eqV_str, eqV_bl, decide_true, reduceCtorEq, not_true_eq_false, not_false_eq_true, Bool.not_eq_true, List.not_mem_nil, false_implies, implies_true, Int.reduceNeg, Int.reduceToNat, Int.reducePow, Int.reduceMul, Int.reduceAdd, draw_i, ix_t0, ix_t1, ix_t2, ix_t3, ix_m3, ix_m4, sn_ball_box, sn_cell_box, sn_cell_ball, sn_ball_cell, sn_box_ball, sn_box_cell, decide_false]
  have sA : stB p 10 (d1.foldl doneS []) := st_upB (stB_S h1 (stB_nil (p := p) (n := 0))) (by omega)
  have up := (ue.trans up1).trans up2
  generalize d1.foldl doneS [] = A at hx sA
  subst hK
  refine seq_gen fun K hK => ?_
  simp (disch := first | assumption | decide) only [wSeq, wNext, wAsg, wgName, wIfS, wB, wOp, wVar, wC, wCall, wCallK, wCons, wNil, wRet, wRetN, wDrop, wTup, wLst, wIf, wAnd, wOr, wNot, wAndV, wOrV, wNotV, wNeg, wChain, fI, fI0, addD, fLt, fLe, fGt, fGe, fIsB, wCB, fAbs, f2I, fInt, fIsq, wPar, wPar3, permD, startE, List.map_cons, List.map_nil, List.cons_append, List.nil_append, List.append_nil, List.length_cons, List.length_nil, List.replicate, List.getElem?_cons_zero, List.getElem?_cons_succ, List.set_cons_zero, List.set_cons_succ, List.getD_cons_zero, List.getD_cons_succ, Nat.reduceAdd, Nat.reduceSub, Nat.zero_add, true_and, and_true, Bool.not_true, Bool.not_false, if_true, if_false, Bool.false_eq_true, reduceIte, decide_eq_true_eq, Bool.not_eq_true', decide_eq_false_iff_not, eqV_int, eqV_str, eqV_bl, decide_true, reduceCtorEq, not_true_eq_false, not_false_eq_true, Bool.not_eq_true, List.not_mem_nil, false_implies, implies_true, Int.reduceNeg, Int.reduceToNat, Int.reducePow, Int.reduceMul, Int.reduceAdd, draw_i, ix_t0, ix_t1, ix_t2, ix_t3, ix_m3, ix_m4, sn_ball_box, sn_cell_box, sn_cell_ball, sn_ball_cell, sn_box_ball, sn_box_cell, decide_false]
  refine (take_i (up _ _ W.box) (by decide) (by decide)).mpr fun v v0 v1 => ?_
  obtain ⟨v, rfl⟩ := Int.eq_ofNat_of_zero_le v0
  try simp (disch := first | assumption | decide) only [wSeq, wNext, wAsg, wgName, wIfS, wB, wOp, wVar, wC, wCall, wCallK, wCons, wNil, wRet, wRetN, wDrop, wTup, wLst, wIf, wAnd, wOr, wNot, wAndV, wOrV, wNotV, wNeg, wChain, fI, fI0, addD, fLt, fLe, fGt, fGe, fIsB, wCB, fAbs, f2I, fInt, fIsq, wPar, wPar3, permD, startE, List.map_cons, List.map_nil, List.cons_append, List.nil_append, List.append_nil, List.length_cons, List.length_nil, List.replicate, List.getElem?_cons_zero, List.getElem?_cons_succ, List.set_cons_zero, List.set_cons_succ, List.getD_cons_zero, List.getD_cons_succ, Nat.reduceAdd, Nat.reduceSub, Nat.zero_add, true_and, and_true, Bool.not_true, Bool.not_false, if_true, if_false, Bool.false_eq_true, reduceIte, decide_eq_true_eq, Bool.not_eq_true', decide_eq_false_iff_not, eqV_int, eqV_str, eqV_bl, decide_true, reduceCtorEq, not_true_eq_false, not_false_eq_true, Bool.not_eq_true, List.not_mem_nil, false_implies, implies_true, Int.reduceNeg, Int.reduceToNat, Int.reducePow, Int.reduceMul, Int.reduceAdd, draw_i, ix_t0, ix_t1, ix_t2, ix_t3, ix_m3, ix_m4, sn_ball_box, sn_cell_box, sn_cell_ball, sn_ball_cell, sn_box_ball, sn_box_cell, decide_false]
  refine ⟨b, t, p, v, ks, ns, rfl, { W with box := up _ _ W.box, keys := up _ _ W.keys }, by omega, fun d2 M3 up3 l2 h2 => ?_⟩
  try simp (disch := first | assumption | decide) only [wSeq, wNext, wAsg, wgName, wIfS, wB, wOp, wVar, wC, wCall, wCallK, wCons, wNil, wRet, wRetN, wDrop, wTup, wLst, wIf, wAnd, wOr, wNot, wAndV, wOrV, wNotV, wNeg, wChain, fI, fI0, addD, fLt, fLe, fGt, fGe, fIsB, wCB, fAbs, f2I, fInt, fIsq, wPar, wPar3, permD, startE, List.map_cons, List.map_nil, List.cons_append, List.nil_append, List.append_nil, List.length_cons, List.length_nil, List.replicate, List.getElem?_cons_zero, List.getElem?_cons_succ, List.set_cons_zero, List.set_cons_succ, List.getD_cons_zero, List.getD_cons_succ, Nat.reduceAdd, Nat.reduceSub, Nat.zero_add, true_and, and_true, Bool.not_true, Bool.not_false, if_true, if_false, Bool.false_eq_true, reduceIte, decide_eq_true_eq, Bool.not_eq_true', decide_eq_false_iff_not, eqV_int, eqV_str, eqV_bl, decide_true, reduceCtorEq, not_true_eq_false, not_false_eq_true, Bool.not_eq_true, List.not_mem_nil, false_implies, implies_true, Int.reduceNeg, Int.reduceToNat, Int.reducePow, Int.reduceMul, Int.reduceAdd, draw_i, ix_t0, ix_t1, ix_t2, ix_t3, ix_m3, ix_m4, sn_ball_box, sn_cell_box, sn_cell_ball, sn_ball_cell, sn_box_ball, sn_box_cell, decide_false]
  refine ⟨x, _, A, d2, rfl, up3 _ _ hx, .inl rfl, sA.1, by have := sA.2.1; omega, fun y M4 up4 _ hy => ?_⟩
  try simp (disch := first | assumption | decide) only [wSeq, wNext, wAsg, wgName, wIfS, wB, wOp, wVar, wC, wCall, wCallK, wCons, wNil, wRet, wRetN, wDrop, wTup, wLst, wIf, wAnd, wOr, wNot, wAndV, wOrV, wNotV, wNeg, wChain, fI, fI0, addD, fLt, fLe, fGt, fGe, fIsB, wCB, fAbs, f2I, fInt, fIsq, wPar, wPar3, permD, startE, List.map_cons, List.map_nil, List.cons_append, List.nil_append, List.append_nil, List.length_cons, List.length_nil, List.replicate, List.getElem?_cons_zero, List.getElem?_cons_succ, List.set_cons_zero, List.set_cons_succ, List.getD_cons_zero, List.getD_cons_succ, Nat.reduceAdd, Nat.reduceSub, Nat.zero_add, true_and, and_true, Bool.not_true, Bool.not_false, if_true, if_false, Bool.false_eq_true, reduceIte, decide_eq_true_eq, Bool.not_eq_true', decide_eq_false_iff_not, eqV_int, eqV_str, eqV_bl, decide_true, reduceCtorEq, not_true_eq_false, not_false_eq_true, Bool.not_eq_true, List.not_mem_nil, false_implies, implies_true, Int.reduceNeg, Int.reduceToNat, Int.reducePow, Int.reduceMul, Int.reduceAdd, draw_i, ix_t0, ix_t1, ix_t2, ix_t3, ix_m3, ix_m4, sn_ball_box, sn_cell_box, sn_cell_ball, sn_ball_cell, sn_box_ball, sn_box_cell, decide_false]
  have sB : stB p 20 (d2.foldl doneS A) := st_upB (stB_S h2 sA) (by omega)
  have hx4 := up4 _ _ (up3 _ _ hx)
  replace up := (up.trans up3).trans up4
  generalize d2.foldl doneS A = B at hy sB
  have a40 := st_upB sA (by decide : 10 ≤ 40)
  have b40 := st_upB sB (by decide : 20 ≤ 40)
  have a60 := st_upB sA (by decide : 10 ≤ 60)
  have b60 := st_upB sB (by decide : 20 ≤ 60)
  have bl := betw_len (a := A) (b := B)
  have bl2 := betw_len (a := B) (b := A)
  have la := sA.2.1
  have lb := sB.2.1
  subst hK
  refine seq_gen fun K hK => ?_
  simp (disch := first | assumption | decide) only [wSeq, wNext, wAsg, wgName, wIfS, wB, wOp, wVar, wC, wCall, wCallK, wCons, wNil, wRet, wRetN, wDrop, wTup, wLst, wIf, wAnd, wOr, wNot, wAndV, wOrV, wNotV, wNeg, wChain, fI, fI0, addD, fLt, fLe, fGt, fGe, fIsB, wCB, fAbs, f2I, fInt, fIsq, wPar, wPar3, permD, startE, List.map_cons, List.map_nil, List.cons_append, List.nil_append, List.append_nil, List.length_cons, List.length_nil, List.replicate, List.getElem?_cons_zero, List.getElem?_cons_succ, List.set_cons_zero, List.set_cons_succ, List.getD_cons_zero, List.getD_cons_succ, Nat.reduceAdd, Nat.reduceSub, Nat.zero_add, true_and, and_true, Bool.not_true, Bool.not_false, if_true, if_false, Bool.false_eq_true, reduceIte, decide_eq_true_eq, Bool.not_eq_true', decide_eq_false_iff_not, eqV_int, eqV_str, eqV_bl, decide_true, reduceCtorEq, not_true_eq_false, not_false_eq_true, Bool.not_eq_true, List.not_mem_nil, false_implies, implies_true, Int.reduceNeg, Int.reduceToNat, Int.reducePow, Int.reduceMul, Int.reduceAdd, draw_i, ix_t0, ix_t1, ix_t2, ix_t3, ix_m3, ix_m4, sn_ball_box, sn_cell_box, sn_cell_ball, sn_ball_cell, sn_box_ball, sn_box_cell, decide_false, wLstM]
  refine ⟨_, _, A, B, p, rfl, ⟨x, rfl, hx4⟩, ⟨y, rfl, hy⟩, a40, b40, ?_⟩
  refine ⟨by decide, fun a ha => ?_⟩
  have ua := up_new (c := .lst []) ha
  refine shown_i (ua _ _ hx4) p8 a60 (shown_i (ua _ _ hy) p8 b60 ?_)
  refine ⟨by decide, by decide, ?_⟩
  simp (disch := first | assumption | decide) only [wSeq, wNext, wAsg, wgName, wIfS, wB, wOp, wVar, wC, wCall, wCallK, wCons, wNil, wRet, wRetN, wDrop, wTup, wLst, wIf, wAnd, wOr, wNot, wAndV, wOrV, wNotV, wNeg, wChain, fI, fI0, addD, fLt, fLe, fGt, fGe, fIsB, wCB, fAbs, f2I, fInt, fIsq, wPar, wPar3, permD, startE, List.map_cons, List.map_nil, List.cons_append, List.nil_append, List.append_nil, List.length_cons, List.length_nil, List.replicate, List.getElem?_cons_zero, List.getElem?_cons_succ, List.set_cons_zero, List.set_cons_succ, List.getD_cons_zero, List.getD_cons_succ, Nat.reduceAdd, Nat.reduceSub, Nat.zero_add, true_and, and_true, Bool.not_true, Bool.not_false, if_true, if_false, Bool.false_eq_true, reduceIte, decide_eq_true_eq, Bool.not_eq_true', decide_eq_false_iff_not, eqV_int, eqV_str, eqV_bl, decide_true, reduceCtorEq, not_true_eq_false, not_false_eq_true, Bool.not_eq_true, List.not_mem_nil, false_implies, implies_true, Int.reduceNeg, Int.reduceToNat, Int.reducePow, Int.reduceMul, Int.reduceAdd, draw_i, ix_t0, ix_t1, ix_t2, ix_t3, ix_m3, ix_m4, sn_ball_box, sn_cell_box, sn_cell_ball, sn_ball_cell, sn_box_ball, sn_box_cell, decide_false, wgTup, wgCons, wgNil]
  have hxa := ua _ _ hx4
  have hya := ua _ _ hy
  have upa := up.trans ua
  have hma : setM M4 a (.lst []) a = some (.lst []) := setM_same
  have na : M a = none := by
    cases z : M a with
    | none => rfl
    | some c =>
      rw [up _ _ z] at ha
      cases ha
  have xa : x ≠ a := fun z => by
    rw [z, ha] at hx4
    cases hx4
  have ya : y ≠ a := fun z => by
    rw [z, ha] at hy
    cases hy
  generalize setM M4 a (.lst []) = M5 at hxa hya upa hma
  subst hK
  refine seq_gen fun K hK => ?_
  refine for_gen fun Bd hB => ?_
  simp (disch := first | assumption | decide) only [wSeq, wNext, wAsg, wgName, wIfS, wB, wOp, wVar, wC, wCall, wCallK, wCons, wNil, wRet, wRetN, wDrop, wTup, wLst, wIf, wAnd, wOr, wNot, wAndV, wOrV, wNotV, wNeg, wChain, fI, fI0, fLt, fLe, fGt, fGe, fIsB, wCB, fAbs, f2I, fInt, fIsq, wPar, wPar3, permD, startE, List.map_cons, List.map_nil, List.cons_append, List.nil_append, List.append_nil, List.length_cons, List.length_nil, List.replicate, List.getElem?_cons_zero, List.getElem?_cons_succ, List.set_cons_zero, List.set_cons_succ, List.getD_cons_zero, List.getD_cons_succ, Nat.reduceAdd, Nat.reduceSub, Nat.zero_add, true_and, and_true, Bool.not_true, Bool.not_false, if_true, if_false, Bool.false_eq_true, reduceIte, decide_eq_true_eq, Bool.not_eq_true', decide_eq_false_iff_not, eqV_int, eqV_str, eqV_bl, decide_true, reduceCtorEq, not_true_eq_false, not_false_eq_true, Bool.not_eq_true, List.not_mem_nil, false_implies, implies_true, Int.reduceNeg, Int.reduceToNat, Int.reducePow, Int.reduceMul, Int.reduceAdd, draw_i, ix_t0, ix_t1, ix_t2, ix_t3, ix_m3, ix_m4, sn_ball_box, sn_cell_box, sn_cell_ball, sn_ball_cell, sn_box_ball, sn_box_cell, decide_false, wFor, wiSeq]
  refine set_ints (ns := keysS A ++ keysS B) ?_ (fun K2 hK2 => ?_) fun zs hz hm hl => ?_
  · unfold keysS
    rw [List.length_append, List.length_map, List.length_map]
    omega
  · have ek : ∀ st : List Itm, dkeys (stD st) = (keysS st).map D.int := fun st => by
      rw [dkeys_st]
      unfold keysS
      rw [List.map_map]
      rfl
    simp (disch := first | assumption | decide) only [wSeq, wNext, wAsg, wgName, wIfS, wB, wOp, wVar, wC, wCall, wCallK, wCons, wNil, wRet, wRetN, wDrop, wTup, wLst, wIf, wAnd, wOr, wNot, wAndV, wOrV, wNotV, wNeg, wChain, fI, fI0, addD, fLt, fLe, fGt, fGe, fIsB, wCB, fAbs, f2I, fInt, fIsq, wPar, wPar3, permD, startE, List.map_cons, List.map_nil, List.cons_append, List.nil_append, List.append_nil, List.length_cons, List.length_nil, List.replicate, List.getElem?_cons_zero, List.getElem?_cons_succ, List.set_cons_zero, List.set_cons_succ, List.getD_cons_zero, List.getD_cons_succ, Nat.reduceAdd, Nat.reduceSub, Nat.zero_add, true_and, and_true, Bool.not_true, Bool.not_false, if_true, if_false, Bool.false_eq_true, reduceIte, decide_eq_true_eq, Bool.not_eq_true', decide_eq_false_iff_not, eqV_int, eqV_str, eqV_bl, decide_true, reduceCtorEq, not_true_eq_false, not_false_eq_true, Bool.not_eq_true, List.not_mem_nil, false_implies, implies_true, Int.reduceNeg, Int.reduceToNat, Int.reducePow, Int.reduceMul, Int.reduceAdd, draw_i, ix_t0, ix_t1, ix_t2, ix_t3, ix_m3, ix_m4, sn_ball_box, sn_cell_box, sn_cell_ball, sn_ball_cell, sn_box_ball, sn_box_cell, decide_false, fListK]
    rw [dic_at hxa]
    simp (disch := first | assumption | decide) only [wSeq, wNext, wAsg, wgName, wIfS, wB, wOp, wVar, wC, wCall, wCallK, wCons, wNil, wRet, wRetN, wDrop, wTup, wLst, wIf, wAnd, wOr, wNot, wAndV, wOrV, wNotV, wNeg, wChain, fI, fI0, addD, fLt, fLe, fGt, fGe, fIsB, wCB, fAbs, f2I, fInt, fIsq, wPar, wPar3, permD, startE, List.map_cons, List.map_nil, List.cons_append, List.nil_append, List.append_nil, List.length_cons, List.length_nil, List.replicate, List.getElem?_cons_zero, List.getElem?_cons_succ, List.set_cons_zero, List.set_cons_succ, List.getD_cons_zero, List.getD_cons_succ, Nat.reduceAdd, Nat.reduceSub, Nat.zero_add, true_and, and_true, Bool.not_true, Bool.not_false, if_true, if_false, Bool.false_eq_true, reduceIte, decide_eq_true_eq, Bool.not_eq_true', decide_eq_false_iff_not, eqV_int, eqV_str, eqV_bl, decide_true, reduceCtorEq, not_true_eq_false, not_false_eq_true, Bool.not_eq_true, List.not_mem_nil, false_implies, implies_true, Int.reduceNeg, Int.reduceToNat, Int.reducePow, Int.reduceMul, Int.reduceAdd, draw_i, ix_t0, ix_t1, ix_t2, ix_t3, ix_m3, ix_m4, sn_ball_box, sn_cell_box, sn_cell_ball, sn_ball_cell, sn_box_ball, sn_box_cell, decide_false, ek]
    rw [dic_at hya]
    simp (disch := first | assumption | decide) only [wSeq, wNext, wAsg, wgName, wIfS, wB, wOp, wVar, wC, wCall, wCallK, wCons, wNil, wRet, wRetN, wDrop, wTup, wLst, wIf, wAnd, wOr, wNot, wAndV, wOrV, wNotV, wNeg, wChain, fI, fI0, addD, fLt, fLe, fGt, fGe, fIsB, wCB, fAbs, f2I, fInt, fIsq, wPar, wPar3, permD, startE, List.map_cons, List.map_nil, List.cons_append, List.nil_append, List.append_nil, List.length_cons, List.length_nil, List.replicate, List.getElem?_cons_zero, List.getElem?_cons_succ, List.set_cons_zero, List.set_cons_succ, List.getD_cons_zero, List.getD_cons_succ, Nat.reduceAdd, Nat.reduceSub, Nat.zero_add, true_and, and_true, Bool.not_true, Bool.not_false, if_true, if_false, Bool.false_eq_true, reduceIte, decide_eq_true_eq, Bool.not_eq_true', decide_eq_false_iff_not, eqV_int, eqV_str, eqV_bl, decide_true, reduceCtorEq, not_true_eq_false, not_false_eq_true, Bool.not_eq_true, List.not_mem_nil, false_implies, implies_true, Int.reduceNeg, Int.reduceToNat, Int.reducePow, Int.reduceMul, Int.reduceAdd, draw_i, ix_t0, ix_t1, ix_t2, ix_t3, ix_m3, ix_m4, sn_ball_box, sn_cell_box, sn_cell_ball, sn_ball_cell, sn_box_ball, sn_box_cell, decide_false, ek]
    refine ⟨_, _, ⟨0, .inr rfl⟩, ⟨0, .inr rfl⟩, rfl, rfl, ?_, ?_⟩
    · unfold keysS
      rw [List.length_map, List.length_map, List.length_map, List.length_map]
      exact Nat.le_trans (by omega : _ ≤ 100) (by decide)
    · rw [← List.map_append]
      exact hK2
  dsimp only
  have zl : zs.length ≤ 30 := by
    unfold keysS at hl
    rw [List.length_append, List.length_map, List.length_map] at hl
    omega
  refine loop_map D.int zs (fun n ρ' M' => (∀ c d, c ≠ a → M5 c = some d → M' c = some d) ∧ M' a = some (.lst (((zs.take n).filterMap (dueF A B)).map Dd.d)) ∧ ∃ v4, ρ' = [some (.tok b), some (wldD p t ns), some (.tok x), some (.tok y), v4, some (.tup ((betw A B).map Dd.d)), some (.tok a), some (.tup [.str (shownS A), .str (shownS B)]), none]) (fun n k ρ' M' hk hn hP => ?_) (fun ρ' M' hP => ?_) ⟨fun c d _ h => h, hma, none, rfl⟩
  · obtain ⟨u, hm', v4, rfl⟩ := hP
    have hx' := u _ _ xa hxa
    have hy' := u _ _ ya hya
    refine ⟨True.intro, fun K3 hK3 => ?_⟩
    simp only [wgName, List.set_cons_succ, List.set_cons_zero]
    have et : (zs.take (n + 1)).filterMap (dueF A B) = (zs.take n).filterMap (dueF A B) ++ (dueF A B k).toList := by
      rw [List.take_add_one, hk, List.filterMap_append]
      congr 1
    have lf : ((zs.take n).filterMap (dueF A B)).length ≤ 30 := Nat.le_trans (List.length_filterMap_le _ _) (by rw [List.length_take]; omega)
    have put : ∀ d : Dd, dueF A B k = some d → ∃ es, M' a = some (.lst es) ∧ es.length < sizeLine ∧ K3 [some (.tok b), some (wldD p t ns), some (.tok x), some (.tok y), some (.int k), some (.tup ((betw A B).map Dd.d)), some (.tok a), some (.tup [.str (shownS A), .str (shownS B)]), none] (setM M' a (.lst (es ++ [d.d]))) := fun d hd => by
      refine ⟨_, hm', by rw [List.length_map]; exact Nat.lt_of_le_of_lt lf (by decide), hK3 _ _ ⟨fun c e hc h => by rw [setM_ne hc]; exact u c e hc h, ?_, _, rfl⟩⟩
      rw [setM_same, et, hd, List.map_append]
      rfl
    have kin := (hm k).mp (List.mem_of_getElem? hk)
    subst hB
    simp (disch := first | assumption | decide) only [wSeq, wNext, wAsg, wgName, wIfS, wB, wOp, wVar, wC, wCall, wCallK, wCons, wNil, wRet, wRetN, wDrop, wTup, wLst, wIf, wAnd, wOr, wNot, wAndV, wOrV, wNotV, wNeg, wChain, fI, fI0, addD, fLt, fLe, fGt, fGe, fIsB, wCB, fAbs, f2I, fInt, fIsq, wPar, wPar3, permD, startE, List.map_cons, List.map_nil, List.cons_append, List.nil_append, List.append_nil, List.length_cons, List.length_nil, List.replicate, List.getElem?_cons_zero, List.getElem?_cons_succ, List.set_cons_zero, List.set_cons_succ, List.getD_cons_zero, List.getD_cons_succ, Nat.reduceAdd, Nat.reduceSub, Nat.zero_add, true_and, and_true, Bool.not_true, Bool.not_false, if_true, if_false, Bool.false_eq_true, reduceIte, decide_eq_true_eq, Bool.not_eq_true', decide_eq_false_iff_not, eqV_int, eqV_str, eqV_bl, decide_true, reduceCtorEq, not_true_eq_false, not_false_eq_true, Bool.not_eq_true, List.not_mem_nil, false_implies, implies_true, Int.reduceNeg, Int.reduceToNat, Int.reducePow, Int.reduceMul, Int.reduceAdd, draw_i, ix_t0, ix_t1, ix_t2, ix_t3, ix_m3, ix_m4, sn_ball_box, sn_cell_box, sn_cell_ball, sn_ball_cell, sn_box_ball, sn_box_cell, decide_false, fDIn, dKey, wApp]
    rw [dic_at hy']
    simp (disch := first | assumption | decide) only [wSeq, wNext, wAsg, wgName, wIfS, wB, wOp, wVar, wC, wCall, wCallK, wCons, wNil, wRet, wRetN, wDrop, wTup, wLst, wIf, wAnd, wOr, wNot, wAndV, wOrV, wNotV, wNeg, wChain, fI, fI0, addD, fLt, fLe, fGt, fGe, fIsB, wCB, fAbs, f2I, fInt, fIsq, wPar, wPar3, permD, startE, List.map_cons, List.map_nil, List.cons_append, List.nil_append, List.append_nil, List.length_cons, List.length_nil, List.replicate, List.getElem?_cons_zero, List.getElem?_cons_succ, List.set_cons_zero, List.set_cons_succ, List.getD_cons_zero, List.getD_cons_succ, Nat.reduceAdd, Nat.reduceSub, Nat.zero_add, true_and, and_true, Bool.not_true, Bool.not_false, if_true, if_false, Bool.false_eq_true, reduceIte, decide_eq_true_eq, Bool.not_eq_true', decide_eq_false_iff_not, eqV_int, eqV_str, eqV_bl, decide_true, reduceCtorEq, not_true_eq_false, not_false_eq_true, Bool.not_eq_true, List.not_mem_nil, false_implies, implies_true, Int.reduceNeg, Int.reduceToNat, Int.reducePow, Int.reduceMul, Int.reduceAdd, draw_i, ix_t0, ix_t1, ix_t2, ix_t3, ix_m3, ix_m4, sn_ball_box, sn_cell_box, sn_cell_ball, sn_ball_cell, sn_box_ball, sn_box_cell, decide_false, st_some]
    by_cases hkB : k ∈ keysS B
    · rw [if_neg (by simpa using hkB)]
      obtain ⟨i, hi, rfl⟩ := List.mem_map.mp hkB
      have hd : dueF A B i.key = if i ∈ A then none else some (.put i) := by
        unfold dueF
        rw [find_key sB.1 hi]
      have vb : valD (stD B) (.inl i.key) = some i.d := st_val sB.1 hi rfl
      simp (disch := first | assumption | decide) only [wSeq, wNext, wAsg, wgName, wIfS, wB, wOp, wVar, wC, wCall, wCallK, wCons, wNil, wRet, wRetN, wDrop, wTup, wLst, wIf, wAnd, wOr, wNot, wAndV, wOrV, wNotV, wNeg, wChain, fI, fI0, addD, fLt, fLe, fGt, fGe, fIsB, wCB, fAbs, f2I, fInt, fIsq, wPar, wPar3, permD, startE, List.map_cons, List.map_nil, List.cons_append, List.nil_append, List.append_nil, List.length_cons, List.length_nil, List.replicate, List.getElem?_cons_zero, List.getElem?_cons_succ, List.set_cons_zero, List.set_cons_succ, List.getD_cons_zero, List.getD_cons_succ, Nat.reduceAdd, Nat.reduceSub, Nat.zero_add, true_and, and_true, Bool.not_true, Bool.not_false, if_true, if_false, Bool.false_eq_true, reduceIte, decide_eq_true_eq, Bool.not_eq_true', decide_eq_false_iff_not, eqV_int, eqV_str, eqV_bl, decide_true, reduceCtorEq, not_true_eq_false, not_false_eq_true, Bool.not_eq_true, List.not_mem_nil, false_implies, implies_true, Int.reduceNeg, Int.reduceToNat, Int.reducePow, Int.reduceMul, Int.reduceAdd, draw_i, ix_t0, ix_t1, ix_t2, ix_t3, ix_m3, ix_m4, sn_ball_box, sn_cell_box, sn_cell_ball, sn_ball_cell, sn_box_ball, sn_box_cell, decide_false, wDGet, fDGet, dKey]
      rw [dic_at hx']
      simp (disch := first | assumption | decide) only [wSeq, wNext, wAsg, wgName, wIfS, wB, wOp, wVar, wC, wCall, wCallK, wCons, wNil, wRet, wRetN, wDrop, wTup, wLst, wIf, wAnd, wOr, wNot, wAndV, wOrV, wNotV, wNeg, wChain, fI, fI0, addD, fLt, fLe, fGt, fGe, fIsB, wCB, fAbs, f2I, fInt, fIsq, wPar, wPar3, permD, startE, List.map_cons, List.map_nil, List.cons_append, List.nil_append, List.append_nil, List.length_cons, List.length_nil, List.replicate, List.getElem?_cons_zero, List.getElem?_cons_succ, List.set_cons_zero, List.set_cons_succ, List.getD_cons_zero, List.getD_cons_succ, Nat.reduceAdd, Nat.reduceSub, Nat.zero_add, true_and, and_true, Bool.not_true, Bool.not_false, if_true, if_false, Bool.false_eq_true, reduceIte, decide_eq_true_eq, Bool.not_eq_true', decide_eq_false_iff_not, eqV_int, eqV_str, eqV_bl, decide_true, reduceCtorEq, not_true_eq_false, not_false_eq_true, Bool.not_eq_true, List.not_mem_nil, false_implies, implies_true, Int.reduceNeg, Int.reduceToNat, Int.reducePow, Int.reduceMul, Int.reduceAdd, draw_i, ix_t0, ix_t1, ix_t2, ix_t3, ix_m3, ix_m4, sn_ball_box, sn_cell_box, sn_cell_ball, sn_ball_cell, sn_box_ball, sn_box_cell, decide_false, st_some]
      by_cases hkA : i.key ∈ keysS A
      · rw [if_neg (by simpa using hkA)]
        obtain ⟨j, hj, ej⟩ := List.mem_map.mp hkA
        rw [dic_at hy']
        dsimp only
        refine ⟨j.d, st_val sA.1 hj ej, i.d, vb, ne_itm (sA.2.2 j hj) (sB.2.2 i hi) ?_⟩
        by_cases e : j = i
        · subst e
          rw [if_pos hj] at hd
          rw [decide_eq_true rfl]
          refine hK3 _ _ ⟨u, ?_, _, rfl⟩
          rw [et, hd, hm']
          simp
        · rw [if_neg (fun z => e (item_one sA.1 hj z ej))] at hd
          rw [decide_eq_false e]
          simp (disch := first | assumption | decide) only [wSeq, wNext, wAsg, wgName, wIfS, wB, wOp, wVar, wC, wCall, wCallK, wCons, wNil, wRet, wRetN, wDrop, wTup, wLst, wIf, wAnd, wOr, wNot, wAndV, wOrV, wNotV, wNeg, wChain, fI, fI0, addD, fLt, fLe, fGt, fGe, fIsB, wCB, fAbs, f2I, fInt, fIsq, wPar, wPar3, permD, startE, List.map_cons, List.map_nil, List.cons_append, List.nil_append, List.append_nil, List.length_cons, List.length_nil, List.replicate, List.getElem?_cons_zero, List.getElem?_cons_succ, List.set_cons_zero, List.set_cons_succ, List.getD_cons_zero, List.getD_cons_succ, Nat.reduceAdd, Nat.reduceSub, Nat.zero_add, true_and, and_true, Bool.not_true, Bool.not_false, if_true, if_false, Bool.false_eq_true, reduceIte, decide_eq_true_eq, Bool.not_eq_true', decide_eq_false_iff_not, eqV_int, eqV_str, eqV_bl, decide_true, reduceCtorEq, not_true_eq_false, not_false_eq_true, Bool.not_eq_true, List.not_mem_nil, false_implies, implies_true, Int.reduceNeg, Int.reduceToNat, Int.reducePow, Int.reduceMul, Int.reduceAdd, draw_i, ix_t0, ix_t1, ix_t2, ix_t3, ix_m3, ix_m4, sn_ball_box, sn_cell_box, sn_cell_ball, sn_ball_cell, sn_box_ball, sn_box_cell, decide_false]
          rw [dic_at hy']
          refine ⟨⟨_, hm'⟩, i.d, vb, by decide, ?_⟩
          exact put _ hd
      · rw [if_neg (fun z => hkA (List.mem_map_of_mem z))] at hd
        rw [if_pos (by simpa using hkA), dic_at hy']
        refine ⟨⟨_, hm'⟩, i.d, vb, by decide, ?_⟩
        exact put _ hd
    · have hd : dueF A B k = some (.take k) := by
        unfold dueF
        rw [find_no hkB]
      rw [if_pos (by simpa using hkB)]
      refine ⟨⟨_, hm'⟩, by decide, ?_⟩
      exact put _ hd
  · obtain ⟨u, hm', v4, rfl⟩ := hP
    rw [List.take_length, due_is sA.1 sB.1 hz hm] at hm'
    have hx' := u _ _ xa hxa
    have hy' := u _ _ ya hya
    have upz : Up M M' := fun c d h => by
      refine u c d (fun z => ?_) (upa c d h)
      rw [z, na] at h
      cases h
    refine ⟨True.intro, ?_⟩
    show K _ _
    subst hK
    refine seq_gen fun K hK => ?_
    simp (disch := first | assumption | decide) only [wSeq, wNext, wAsg, wgName, wIfS, wB, wOp, wVar, wC, wCall, wCallK, wCons, wNil, wRet, wRetN, wDrop, wTup, wLst, wIf, wAnd, wOr, wNot, wAndV, wOrV, wNotV, wNeg, wChain, fI, fI0, addD, fLt, fLe, fGt, fGe, fIsB, wCB, fAbs, f2I, fInt, fIsq, wPar, wPar3, permD, startE, List.map_cons, List.map_nil, List.cons_append, List.nil_append, List.append_nil, List.length_cons, List.length_nil, List.replicate, List.getElem?_cons_zero, List.getElem?_cons_succ, List.set_cons_zero, List.set_cons_succ, List.getD_cons_zero, List.getD_cons_succ, Nat.reduceAdd, Nat.reduceSub, Nat.zero_add, true_and, and_true, Bool.not_true, Bool.not_false, if_true, if_false, Bool.false_eq_true, reduceIte, decide_eq_true_eq, Bool.not_eq_true', decide_eq_false_iff_not, eqV_int, eqV_str, eqV_bl, decide_true, reduceCtorEq, not_true_eq_false, not_false_eq_true, Bool.not_eq_true, List.not_mem_nil, false_implies, implies_true, Int.reduceNeg, Int.reduceToNat, Int.reducePow, Int.reduceMul, Int.reduceAdd, draw_i, ix_t0, ix_t1, ix_t2, ix_t3, ix_m3, ix_m4, sn_ball_box, sn_cell_box, sn_cell_ball, sn_ball_cell, sn_box_ball, sn_box_cell, decide_false, fTuple]
    have ok1 := betw_ok a40 b40
    have ok2 := betw_ok b40 a40
    have kb1 := betw_kb a40 b40
    refine rep_dds p8 kb1 (by omega) ok1 ⟨_, by show (match M' a with | some (.lst ds) => some ds | _ => none) = _; rw [hm'], rep_dds p8 kb1 (by omega) ok1 (ne_same ?_)⟩
    try simp (disch := first | assumption | decide) only [wSeq, wNext, wAsg, wgName, wIfS, wB, wOp, wVar, wC, wCall, wCallK, wCons, wNil, wRet, wRetN, wDrop, wTup, wLst, wIf, wAnd, wOr, wNot, wAndV, wOrV, wNotV, wNeg, wChain, fI, fI0, addD, fLt, fLe, fGt, fGe, fIsB, wCB, fAbs, f2I, fInt, fIsq, wPar, wPar3, permD, startE, List.map_cons, List.map_nil, List.cons_append, List.nil_append, List.append_nil, List.length_cons, List.length_nil, List.replicate, List.getElem?_cons_zero, List.getElem?_cons_succ, List.set_cons_zero, List.set_cons_succ, List.getD_cons_zero, List.getD_cons_succ, Nat.reduceAdd, Nat.reduceSub, Nat.zero_add, true_and, and_true, Bool.not_true, Bool.not_false, if_true, if_false, Bool.false_eq_true, reduceIte, decide_eq_true_eq, Bool.not_eq_true', decide_eq_false_iff_not, eqV_int, eqV_str, eqV_bl, decide_true, reduceCtorEq, not_true_eq_false, not_false_eq_true, Bool.not_eq_true, List.not_mem_nil, false_implies, implies_true, Int.reduceNeg, Int.reduceToNat, Int.reducePow, Int.reduceMul, Int.reduceAdd, draw_i, ix_t0, ix_t1, ix_t2, ix_t3, ix_m3, ix_m4, sn_ball_box, sn_cell_box, sn_cell_ball, sn_ball_cell, sn_box_ball, sn_box_cell, decide_false]
    refine ⟨_, _, A, B, p, rfl, ⟨x, rfl, hx'⟩, ⟨y, rfl, hy'⟩, a40, b40, ne_dds ok1 ?_⟩
    try simp (disch := first | assumption | decide) only [wSeq, wNext, wAsg, wgName, wIfS, wB, wOp, wVar, wC, wCall, wCallK, wCons, wNil, wRet, wRetN, wDrop, wTup, wLst, wIf, wAnd, wOr, wNot, wAndV, wOrV, wNotV, wNeg, wChain, fI, fI0, addD, fLt, fLe, fGt, fGe, fIsB, wCB, fAbs, f2I, fInt, fIsq, wPar, wPar3, permD, startE, List.map_cons, List.map_nil, List.cons_append, List.nil_append, List.append_nil, List.length_cons, List.length_nil, List.replicate, List.getElem?_cons_zero, List.getElem?_cons_succ, List.set_cons_zero, List.set_cons_succ, List.getD_cons_zero, List.getD_cons_succ, Nat.reduceAdd, Nat.reduceSub, Nat.zero_add, true_and, and_true, Bool.not_true, Bool.not_false, if_true, if_false, Bool.false_eq_true, reduceIte, decide_eq_true_eq, Bool.not_eq_true', decide_eq_false_iff_not, eqV_int, eqV_str, eqV_bl, decide_true, reduceCtorEq, not_true_eq_false, not_false_eq_true, Bool.not_eq_true, List.not_mem_nil, false_implies, implies_true, Int.reduceNeg, Int.reduceToNat, Int.reducePow, Int.reduceMul, Int.reduceAdd, draw_i, ix_t0, ix_t1, ix_t2, ix_t3, ix_m3, ix_m4, sn_ball_box, sn_cell_box, sn_cell_ball, sn_ball_cell, sn_box_ball, sn_box_cell, decide_false]
    refine all_i (dic_at hx') sA.1 (by omega) fun z N1 u1 _ q1 => ?_
    have hy1 := u1 _ _ hy'
    have hx1 := u1 _ _ hx'
    have zB : stB p 200 ((betw A B).foldl doneP A) := st_upB (stB_P ok1 sA) (by omega)
    refine dc_same (dic_at q1) (dic_at hy1) zB (st_upB sB (by decide)) (betw_done stp_P sA.1 sB.1) ?_
    try simp (disch := first | assumption | decide) only [wSeq, wNext, wAsg, wgName, wIfS, wB, wOp, wVar, wC, wCall, wCallK, wCons, wNil, wRet, wRetN, wDrop, wTup, wLst, wIf, wAnd, wOr, wNot, wAndV, wOrV, wNotV, wNeg, wChain, fI, fI0, addD, fLt, fLe, fGt, fGe, fIsB, wCB, fAbs, f2I, fInt, fIsq, wPar, wPar3, permD, startE, List.map_cons, List.map_nil, List.cons_append, List.nil_append, List.append_nil, List.length_cons, List.length_nil, List.replicate, List.getElem?_cons_zero, List.getElem?_cons_succ, List.set_cons_zero, List.set_cons_succ, List.getD_cons_zero, List.getD_cons_succ, Nat.reduceAdd, Nat.reduceSub, Nat.zero_add, true_and, and_true, Bool.not_true, Bool.not_false, if_true, if_false, Bool.false_eq_true, reduceIte, decide_eq_true_eq, Bool.not_eq_true', decide_eq_false_iff_not, eqV_int, eqV_str, eqV_bl, decide_true, reduceCtorEq, not_true_eq_false, not_false_eq_true, Bool.not_eq_true, List.not_mem_nil, false_implies, implies_true, Int.reduceNeg, Int.reduceToNat, Int.reducePow, Int.reduceMul, Int.reduceAdd, draw_i, ix_t0, ix_t1, ix_t2, ix_t3, ix_m3, ix_m4, sn_ball_box, sn_cell_box, sn_cell_ball, sn_ball_cell, sn_box_ball, sn_box_cell, decide_false]
    subst hK
    refine seq_gen fun K hK => ?_
    simp (disch := first | assumption | decide) only [wSeq, wNext, wAsg, wgName, wIfS, wB, wOp, wVar, wC, wCall, wCallK, wCons, wNil, wRet, wRetN, wDrop, wTup, wLst, wIf, wAnd, wOr, wNot, wAndV, wOrV, wNotV, wNeg, wChain, fI, fI0, addD, fLt, fLe, fGt, fGe, fIsB, wCB, fAbs, f2I, fInt, fIsq, wPar, wPar3, permD, startE, List.map_cons, List.map_nil, List.cons_append, List.nil_append, List.append_nil, List.length_cons, List.length_nil, List.replicate, List.getElem?_cons_zero, List.getElem?_cons_succ, List.set_cons_zero, List.set_cons_succ, List.getD_cons_zero, List.getD_cons_succ, Nat.reduceAdd, Nat.reduceSub, Nat.zero_add, true_and, and_true, Bool.not_true, Bool.not_false, if_true, if_false, Bool.false_eq_true, reduceIte, decide_eq_true_eq, Bool.not_eq_true', decide_eq_false_iff_not, eqV_int, eqV_str, eqV_bl, decide_true, reduceCtorEq, not_true_eq_false, not_false_eq_true, Bool.not_eq_true, List.not_mem_nil, false_implies, implies_true, Int.reduceNeg, Int.reduceToNat, Int.reducePow, Int.reduceMul, Int.reduceAdd, draw_i, ix_t0, ix_t1, ix_t2, ix_t3, ix_m3, ix_m4, sn_ball_box, sn_cell_box, sn_cell_ball, sn_ball_cell, sn_box_ball, sn_box_cell, decide_false]
    refine ⟨_, _, A, A, p, rfl, ⟨x, rfl, hx1⟩, ⟨x, rfl, hx1⟩, a40, a40, ?_⟩
    rw [betw_self]
    refine ⟨by decide, ?_⟩
    refine ne_dds (p := p) (ks := []) (dd := []) (fun d h => nomatch h) ?_
    try simp (disch := first | assumption | decide) only [wSeq, wNext, wAsg, wgName, wIfS, wB, wOp, wVar, wC, wCall, wCallK, wCons, wNil, wRet, wRetN, wDrop, wTup, wLst, wIf, wAnd, wOr, wNot, wAndV, wOrV, wNotV, wNeg, wChain, fI, fI0, addD, fLt, fLe, fGt, fGe, fIsB, wCB, fAbs, f2I, fInt, fIsq, wPar, wPar3, permD, startE, List.map_cons, List.map_nil, List.cons_append, List.nil_append, List.append_nil, List.length_cons, List.length_nil, List.replicate, List.getElem?_cons_zero, List.getElem?_cons_succ, List.set_cons_zero, List.set_cons_succ, List.getD_cons_zero, List.getD_cons_succ, Nat.reduceAdd, Nat.reduceSub, Nat.zero_add, true_and, and_true, Bool.not_true, Bool.not_false, if_true, if_false, Bool.false_eq_true, reduceIte, decide_eq_true_eq, Bool.not_eq_true', decide_eq_false_iff_not, eqV_int, eqV_str, eqV_bl, decide_true, reduceCtorEq, not_true_eq_false, not_false_eq_true, Bool.not_eq_true, List.not_mem_nil, false_implies, implies_true, Int.reduceNeg, Int.reduceToNat, Int.reducePow, Int.reduceMul, Int.reduceAdd, draw_i, ix_t0, ix_t1, ix_t2, ix_t3, ix_m3, ix_m4, sn_ball_box, sn_cell_box, sn_cell_ball, sn_ball_cell, sn_box_ball, sn_box_cell, decide_false]
    refine ⟨_, _, B, A, p, rfl, ⟨y, rfl, hy1⟩, ⟨x, rfl, hx1⟩, b40, a40, ?_⟩
    refine all_i (dic_at hy1) sB.1 (by omega) fun z2 N2 u2 _ q2 => ?_
    have hy2 := u2 _ _ hy1
    have hx2 := u2 _ _ hx1
    refine dc_same (dic_at q2) (dic_at hx2) (st_upB (stB_P ok2 sB) (by omega : 20 + (betw B A).length ≤ 200)) (st_upB sA (by decide)) (betw_done stp_P sB.1 sA.1) ?_
    try simp (disch := first | assumption | decide) only [wSeq, wNext, wAsg, wgName, wIfS, wB, wOp, wVar, wC, wCall, wCallK, wCons, wNil, wRet, wRetN, wDrop, wTup, wLst, wIf, wAnd, wOr, wNot, wAndV, wOrV, wNotV, wNeg, wChain, fI, fI0, addD, fLt, fLe, fGt, fGe, fIsB, wCB, fAbs, f2I, fInt, fIsq, wPar, wPar3, permD, startE, List.map_cons, List.map_nil, List.cons_append, List.nil_append, List.append_nil, List.length_cons, List.length_nil, List.replicate, List.getElem?_cons_zero, List.getElem?_cons_succ, List.set_cons_zero, List.set_cons_succ, List.getD_cons_zero, List.getD_cons_succ, Nat.reduceAdd, Nat.reduceSub, Nat.zero_add, true_and, and_true, Bool.not_true, Bool.not_false, if_true, if_false, Bool.false_eq_true, reduceIte, decide_eq_true_eq, Bool.not_eq_true', decide_eq_false_iff_not, eqV_int, eqV_str, eqV_bl, decide_true, reduceCtorEq, not_true_eq_false, not_false_eq_true, Bool.not_eq_true, List.not_mem_nil, false_implies, implies_true, Int.reduceNeg, Int.reduceToNat, Int.reducePow, Int.reduceMul, Int.reduceAdd, draw_i, ix_t0, ix_t1, ix_t2, ix_t3, ix_m3, ix_m4, sn_ball_box, sn_cell_box, sn_cell_ball, sn_ball_cell, sn_box_ball, sn_box_cell, decide_false]
    refine shown_i hx2 p8 a60 (shown_i hy2 p8 b60 ?_)
    refine ⟨by decide, ?_⟩
    have nes : ∀ (s1 s2 : Str) (M : Mp) (Q' : KD), Q' (.bl false) M → eqPV true (.tup [.str s1, .str s2]) (.tup [.str s1, .str s2]) M Q' := fun s1 s2 M Q' h => by
      have f : fitT 1 (.tup [.str s1, .str s2]) := by
        rw [fitT]
        intro e he
        simp only [List.mem_cons, List.not_mem_nil, or_false] at he
        rcases he with rfl | rfl <;> simp only [fitT]
      refine ⟨1, by decide, f, f, ?_⟩
      have e : eqD (res M (.tup [.str s1, .str s2])) (res M (.tup [.str s1, .str s2])) = true := by
        show PyData.eqv (.tuple [.str s1, .str s2]) (.tuple [.str s1, .str s2]) = true
        rw [PyData.eqv, PyData.eqvAll, PyData.eqvAll, PyData.eqvAll, eqv_str2, eqv_str2, decide_eq_true rfl, decide_eq_true rfl]
        rfl
      rw [e]
      exact h
    refine nes _ _ _ _ ?_
    try simp (disch := first | assumption | decide) only [wSeq, wNext, wAsg, wgName, wIfS, wB, wOp, wVar, wC, wCall, wCallK, wCons, wNil, wRet, wRetN, wDrop, wTup, wLst, wIf, wAnd, wOr, wNot, wAndV, wOrV, wNotV, wNeg, wChain, fI, fI0, addD, fLt, fLe, fGt, fGe, fIsB, wCB, fAbs, f2I, fInt, fIsq, wPar, wPar3, permD, startE, List.map_cons, List.map_nil, List.cons_append, List.nil_append, List.append_nil, List.length_cons, List.length_nil, List.replicate, List.getElem?_cons_zero, List.getElem?_cons_succ, List.set_cons_zero, List.set_cons_succ, List.getD_cons_zero, List.getD_cons_succ, Nat.reduceAdd, Nat.reduceSub, Nat.zero_add, true_and, and_true, Bool.not_true, Bool.not_false, if_true, if_false, Bool.false_eq_true, reduceIte, decide_eq_true_eq, Bool.not_eq_true', decide_eq_false_iff_not, eqV_int, eqV_str, eqV_bl, decide_true, reduceCtorEq, not_true_eq_false, not_false_eq_true, Bool.not_eq_true, List.not_mem_nil, false_implies, implies_true, Int.reduceNeg, Int.reduceToNat, Int.reducePow, Int.reduceMul, Int.reduceAdd, draw_i, ix_t0, ix_t1, ix_t2, ix_t3, ix_m3, ix_m4, sn_ball_box, sn_cell_box, sn_cell_ball, sn_ball_cell, sn_box_ball, sn_box_cell, decide_false]
    subst hK
    simp (disch := first | assumption | decide) only [wSeq, wNext, wAsg, wgName, wIfS, wB, wOp, wVar, wC, wCall, wCallK, wCons, wNil, wRet, wRetN, wDrop, wTup, wLst, wIf, wAnd, wOr, wNot, wAndV, wOrV, wNotV, wNeg, wChain, fI, fI0, addD, fLt, fLe, fGt, fGe, fIsB, wCB, fAbs, f2I, fInt, fIsq, wPar, wPar3, permD, startE, List.map_cons, List.map_nil, List.cons_append, List.nil_append, List.append_nil, List.length_cons, List.length_nil, List.replicate, List.getElem?_cons_zero, List.getElem?_cons_succ, List.set_cons_zero, List.set_cons_succ, List.getD_cons_zero, List.getD_cons_succ, Nat.reduceAdd, Nat.reduceSub, Nat.zero_add, true_and, and_true, Bool.not_true, Bool.not_false, if_true, if_false, Bool.false_eq_true, reduceIte, decide_eq_true_eq, Bool.not_eq_true', decide_eq_false_iff_not, eqV_int, eqV_str, eqV_bl, decide_true, reduceCtorEq, not_true_eq_false, not_false_eq_true, Bool.not_eq_true, List.not_mem_nil, false_implies, implies_true, Int.reduceNeg, Int.reduceToNat, Int.reducePow, Int.reduceMul, Int.reduceAdd, draw_i, ix_t0, ix_t1, ix_t2, ix_t3, ix_m3, ix_m4, sn_ball_box, sn_cell_box, sn_cell_ball, sn_ball_cell, sn_box_ball, sn_box_cell, decide_false, wNotV, wLc, wiRange1, wipeE, len_tup, wSl, wPart, wNoP, slD]
    refine ⟨by rw [List.length_map]; omega, by omega, ?_⟩
    rw [Int.toNat_natCast, List.length_map, nums_d]
    refine lc_mapU (fun (i : Nat) => D.int (i : Int)) (fun _ => D.bl false) (List.range (betw A B).length) [] N2 (fun M' _ => True.intro) (by rw [List.length_range]; simp only [List.length_nil]; omega) (fun i hi M3 u3 K3 hK3 => ?_) fun M3 u3 => ?_
    · have hi := List.mem_range.mp hi
      simp (disch := first | assumption | decide) only [wSeq, wNext, wAsg, wgName, wIfS, wB, wOp, wVar, wC, wCall, wCallK, wCons, wNil, wRet, wRetN, wDrop, wTup, wLst, wIf, wAnd, wOr, wNot, wAndV, wOrV, wNotV, wNeg, wChain, fI, fI0, addD, fLt, fLe, fGt, fGe, fIsB, wCB, fAbs, f2I, fInt, fIsq, wPar, wPar3, permD, startE, List.map_cons, List.map_nil, List.cons_append, List.nil_append, List.append_nil, List.length_cons, List.length_nil, List.replicate, List.getElem?_cons_zero, List.getElem?_cons_succ, List.set_cons_zero, List.set_cons_succ, List.getD_cons_zero, List.getD_cons_succ, Nat.reduceAdd, Nat.reduceSub, Nat.zero_add, true_and, and_true, Bool.not_true, Bool.not_false, if_true, if_false, Bool.false_eq_true, reduceIte, decide_eq_true_eq, Bool.not_eq_true', decide_eq_false_iff_not, eqV_int, eqV_str, eqV_bl, decide_true, reduceCtorEq, not_true_eq_false, not_false_eq_true, Bool.not_eq_true, List.not_mem_nil, false_implies, implies_true, Int.reduceNeg, Int.reduceToNat, Int.reducePow, Int.reduceMul, Int.reduceAdd, draw_i, ix_t0, ix_t1, ix_t2, ix_t3, ix_m3, ix_m4, sn_ball_box, sn_cell_box, sn_cell_ball, sn_ball_cell, sn_box_ball, sn_box_cell, decide_false, wSl, wPart, wNoP, slD]
      have e1 : (i : Int) + 1 = ((i + 1 : Nat) : Int) := by omega
      rw [e1, dd_cut]
      have sub : ∀ d ∈ (betw A B).eraseIdx i, ddB p (keysS A ++ keysS B) d := fun d h => ok1 d ((List.eraseIdx_sublist _ i).subset h)
      have le := List.length_eraseIdx_le (betw A B) i
      refine ⟨?_, all_i (dic_at (u3 _ _ hx2)) sA.1 (by omega) fun z3 N4 u4 _ q4 => ?_⟩
      · have := congrArg List.length (dd_cut (betw A B) i)
        rw [List.length_append, List.length_map] at this
        rw [this]
        exact Nat.le_trans (by omega : _ ≤ 100) (by decide)
      · refine dc_i (dic_at q4) (dic_at (u4 _ _ (u3 _ _ hy2))) (st_upB (stB_P sub sA) (by omega : 10 + ((betw A B).eraseIdx i).length ≤ 200)) (st_upB sB (by decide)) ?_
        have nf : eqDc (stD (((betw A B).eraseIdx i).foldl doneP A)) (stD B) = false := by
          cases h : eqDc (stD (((betw A B).eraseIdx i).foldl doneP A)) (stD B) with
          | false => rfl
          | true => exact absurd ((eqDc_st (fold_P _ A sA.1).1 sB.1).mp h) (betw_less stp_P sA.1 sB.1 hi)
        rw [nf]
        exact hK3 _ u4
    · rw [List.nil_append]
      refine ⟨(List.range (betw A B).length).map fun _ => false, ⟨0, .inr (by rw [List.map_map]; rfl)⟩, by rw [List.map_map]; rfl, ?_⟩
      have an : ((List.range (betw A B).length).map fun _ => false).any id = false := by
        rw [List.any_eq_false]
        intro x hx
        obtain ⟨_, _, rfl⟩ := List.mem_map.mp hx
        exact Bool.false_ne_true
      show Q (.bl (!(((List.range (betw A B).length).map fun _ => false).any id))) M3
      rw [an]
      exact q _ (((upz.trans u1).trans u2).trans u3)
end K16
namespace K16
open PySem L2 L3
def i4 : Itm := ⟨4, [1, 1], []⟩
def i2 : Itm := ⟨2, [0, 5], [("old", 3)]⟩
def i7 : Itm := ⟨7, [3, 1], []⟩
def i1 : Itm := ⟨1, [0], []⟩
def dd0 : List Dd := [.put i4, .put i2, .take 4, .put i7]
def st0 : List Itm := [i2, i7]
theorem vk2 {a b : Int} (ha : -10000 ≤ a ∧ a ≤ 10000) (hb : -10000 ≤ b ∧ b ≤ 10000) : vk 2 10000 [a, b] := by
  refine ⟨rfl, fun x hx => ?_⟩
  simp only [List.mem_cons, List.not_mem_nil, or_false] at hx
  rcases hx with rfl | rfl
  · exact ha
  · exact hb
theorem it2 : itB 2 i2 := by
  refine ⟨vk2 (by decide) (by decide), by simp [i2], by decide, fun x hx => ?_, by decide, by decide⟩
  rw [List.mem_singleton.mp hx]
  exact ⟨⟨by decide +kernel, by decide +kernel, by decide +kernel⟩, by decide, by decide⟩
theorem it7 : itB 2 i7 := ⟨vk2 (by decide) (by decide), List.nodup_nil, Nat.zero_le _, (by intro x hx; cases hx), by decide, by decide⟩
theorem it1 : itB 1 i1 := ⟨⟨rfl, fun x hx => by rw [List.mem_singleton.mp hx]; decide⟩, List.nodup_nil, Nat.zero_le _, (by intro x hx; cases hx), by decide, by decide⟩
theorem fitN1 (ns : List Int) : fit 1 (.lst (ns.map .int)) := by
  rw [fit]
  intro d hd
  obtain ⟨n, _, rfl⟩ := List.mem_map.mp hd
  simp only [fit]
def dd1 : List Dd := [.put i2, .take 4, .put i7]
theorem last0 : lastL dd0 = dd1 := by
  refine (lastL_is (dd := dd0) (l := dd1) (by decide) (by decide) fun d => ?_).symm
  rw [show lastOf dd0 = dd1 from by decide +kernel]
theorem lastN : lastL [] = [] := by
  have e : lastOf [] = [] := by unfold lastOf; rfl
  unfold lastL
  rw [e]
  exact List.mergeSort_nil
theorem last1 : lastL [.take 1, .put i1] = [.put i1] := by
  have e : lastOf [.take 1, .put i1] = [.put i1] := by decide +kernel
  unfold lastL
  rw [e]
  exact List.mergeSort_singleton _
theorem betw0 : betw st0 [i7] = [.take 2] := by
  have e : ((st0.filter fun i => decide (i.key ∉ keysS [i7])).map (fun i => Dd.take i.key) ++ ([i7].filter fun i => decide (i ∉ st0)).map Dd.put) = [.take 2] := by decide +kernel
  unfold betw
  rw [e]
  exact List.mergeSort_singleton _
theorem wp_law : ∀ ds M Q R, F_law ds M Q R → W_law { nx := fun _ M' => Q .non M', rt := Q, xr := lx R } (startE 6 ds) M := by
  rintro ds M Q R ⟨ns, rfl, hl, q⟩
  unfold W_law
  refine seq_gen fun K hK => ?_
  have hKx : ∀ M' v1 v2 v3 v4 v5, K [some (.lst (ns.map .int)), v1, v2, v3, v4, v5] M' := by
    intro M' v1 v2 v3 v4 v5
    subst hK
    refine seq_gen fun K hK => ?_
    simp (disch := first | assumption | decide) only [wSeq, wNext, wAsg, wgName, wIfS, wB, wOp, wVar, wC, wCall, wCallK, wCons, wNil, wRet, wRetN, wDrop, wTup, wLst, wIf, wAnd, wOr, wNot, wAndV, wOrV, wNotV, wNeg, wChain, fI, fI0, addD, fLt, fLe, fGt, fGe, fIsB, wCB, fAbs, f2I, fInt, fIsq, wPar, wPar3, permD, startE, List.map_cons, List.map_nil, List.cons_append, List.nil_append, List.append_nil, List.length_cons, List.length_nil, List.replicate, List.getElem?_cons_zero, List.getElem?_cons_succ, List.set_cons_zero, List.set_cons_succ, List.getD_cons_zero, List.getD_cons_succ, Nat.reduceAdd, Nat.reduceSub, Nat.zero_add, true_and, and_true, Bool.not_true, Bool.not_false, if_true, if_false, Bool.false_eq_true, reduceIte, decide_eq_true_eq, Bool.not_eq_true', decide_eq_false_iff_not, eqV_int, eqV_str, eqV_bl, decide_true, reduceCtorEq, not_true_eq_false, not_false_eq_true, Bool.not_eq_true, List.not_mem_nil, false_implies, implies_true, Int.reduceNeg, Int.reduceToNat, Int.reducePow, Int.reduceMul, Int.reduceAdd, draw_i, ix_t0, ix_t1, ix_t2, ix_t3, ix_m3, ix_m4, sn_ball_box, sn_cell_box, sn_cell_ball, sn_ball_cell, sn_box_ball, sn_box_cell, decide_false]
    repeat refine And.intro (by decide) ?_
    subst hK
    refine seq_gen fun K hK => ?_
    simp (disch := first | assumption | decide) only [wSeq, wNext, wAsg, wgName, wIfS, wB, wOp, wVar, wC, wCall, wCallK, wCons, wNil, wRet, wRetN, wDrop, wTup, wLst, wIf, wAnd, wOr, wNot, wAndV, wOrV, wNotV, wNeg, wChain, fI, fI0, addD, fLt, fLe, fGt, fGe, fIsB, wCB, fAbs, f2I, fInt, fIsq, wPar, wPar3, permD, startE, List.map_cons, List.map_nil, List.cons_append, List.nil_append, List.append_nil, List.length_cons, List.length_nil, List.replicate, List.getElem?_cons_zero, List.getElem?_cons_succ, List.set_cons_zero, List.set_cons_succ, List.getD_cons_zero, List.getD_cons_succ, Nat.reduceAdd, Nat.reduceSub, Nat.zero_add, true_and, and_true, Bool.not_true, Bool.not_false, if_true, if_false, Bool.false_eq_true, reduceIte, decide_eq_true_eq, Bool.not_eq_true', decide_eq_false_iff_not, eqV_int, eqV_str, eqV_bl, decide_true, reduceCtorEq, not_true_eq_false, not_false_eq_true, Bool.not_eq_true, List.not_mem_nil, false_implies, implies_true, Int.reduceNeg, Int.reduceToNat, Int.reducePow, Int.reduceMul, Int.reduceAdd, draw_i, ix_t0, ix_t1, ix_t2, ix_t3, ix_m3, ix_m4, sn_ball_box, sn_cell_box, sn_cell_ball, sn_ball_cell, sn_box_ball, sn_box_cell, decide_false, wDNew]
    intro e he
    refine all_i (st := []) (dd := dd0) (dic_at setM_same) List.nodup_nil (by decide) fun t M1 _ _ ht => ?_
    have ef : dd0.foldl doneP [] = st0 := by rfl
    rw [ef] at ht
    try simp (disch := first | assumption | decide) only [wSeq, wNext, wAsg, wgName, wIfS, wB, wOp, wVar, wC, wCall, wCallK, wCons, wNil, wRet, wRetN, wDrop, wTup, wLst, wIf, wAnd, wOr, wNot, wAndV, wOrV, wNotV, wNeg, wChain, fI, fI0, addD, fLt, fLe, fGt, fGe, fIsB, wCB, fAbs, f2I, fInt, fIsq, wPar, wPar3, permD, startE, List.map_cons, List.map_nil, List.cons_append, List.nil_append, List.append_nil, List.length_cons, List.length_nil, List.replicate, List.getElem?_cons_zero, List.getElem?_cons_succ, List.set_cons_zero, List.set_cons_succ, List.getD_cons_zero, List.getD_cons_succ, Nat.reduceAdd, Nat.reduceSub, Nat.zero_add, true_and, and_true, Bool.not_true, Bool.not_false, if_true, if_false, Bool.false_eq_true, reduceIte, decide_eq_true_eq, Bool.not_eq_true', decide_eq_false_iff_not, eqV_int, eqV_str, eqV_bl, decide_true, reduceCtorEq, not_true_eq_false, not_false_eq_true, Bool.not_eq_true, List.not_mem_nil, false_implies, implies_true, Int.reduceNeg, Int.reduceToNat, Int.reducePow, Int.reduceMul, Int.reduceAdd, draw_i, ix_t0, ix_t1, ix_t2, ix_t3, ix_m3, ix_m4, sn_ball_box, sn_cell_box, sn_cell_ball, sn_ball_cell, sn_box_ball, sn_box_cell, decide_false]
    subst hK
    refine seq_gen fun K hK => ?_
    simp (disch := first | assumption | decide) only [wSeq, wNext, wAsg, wgName, wIfS, wB, wOp, wVar, wC, wCall, wCallK, wCons, wNil, wRet, wRetN, wDrop, wTup, wLst, wIf, wAnd, wOr, wNot, wAndV, wOrV, wNotV, wNeg, wChain, fI, fI0, addD, fLt, fLe, fGt, fGe, fIsB, wCB, fAbs, f2I, fInt, fIsq, wPar, wPar3, permD, startE, List.map_cons, List.map_nil, List.cons_append, List.nil_append, List.append_nil, List.length_cons, List.length_nil, List.replicate, List.getElem?_cons_zero, List.getElem?_cons_succ, List.set_cons_zero, List.set_cons_succ, List.getD_cons_zero, List.getD_cons_succ, Nat.reduceAdd, Nat.reduceSub, Nat.zero_add, true_and, and_true, Bool.not_true, Bool.not_false, if_true, if_false, Bool.false_eq_true, reduceIte, decide_eq_true_eq, Bool.not_eq_true', decide_eq_false_iff_not, eqV_int, eqV_str, eqV_bl, decide_true, reduceCtorEq, not_true_eq_false, not_false_eq_true, Bool.not_eq_true, List.not_mem_nil, false_implies, implies_true, Int.reduceNeg, Int.reduceToNat, Int.reducePow, Int.reduceMul, Int.reduceAdd, draw_i, ix_t0, ix_t1, ix_t2, ix_t3, ix_m3, ix_m4, sn_ball_box, sn_cell_box, sn_cell_ball, sn_ball_cell, sn_box_ball, sn_box_cell, decide_false, fSortDI]
    refine ⟨t, none, stD st0, [2, 7], rfl, ht, rfl, by decide, fun ys hy hp => ⟨by decide, ?_⟩⟩
    obtain rfl : ys = [2, 7] := hy.eq_of_pairwise (fun a b _ _ h1 h2 => Int.le_antisymm h1 h2) hp (by decide)
    refine eqV_self (n := 1) (by decide) (fitN1 [2, 7]) ?_
    try simp (disch := first | assumption | decide) only [wSeq, wNext, wAsg, wgName, wIfS, wB, wOp, wVar, wC, wCall, wCallK, wCons, wNil, wRet, wRetN, wDrop, wTup, wLst, wIf, wAnd, wOr, wNot, wAndV, wOrV, wNotV, wNeg, wChain, fI, fI0, addD, fLt, fLe, fGt, fGe, fIsB, wCB, fAbs, f2I, fInt, fIsq, wPar, wPar3, permD, startE, List.map_cons, List.map_nil, List.cons_append, List.nil_append, List.append_nil, List.length_cons, List.length_nil, List.replicate, List.getElem?_cons_zero, List.getElem?_cons_succ, List.set_cons_zero, List.set_cons_succ, List.getD_cons_zero, List.getD_cons_succ, Nat.reduceAdd, Nat.reduceSub, Nat.zero_add, true_and, and_true, Bool.not_true, Bool.not_false, if_true, if_false, Bool.false_eq_true, reduceIte, decide_eq_true_eq, Bool.not_eq_true', decide_eq_false_iff_not, eqV_int, eqV_str, eqV_bl, decide_true, reduceCtorEq, not_true_eq_false, not_false_eq_true, Bool.not_eq_true, List.not_mem_nil, false_implies, implies_true, Int.reduceNeg, Int.reduceToNat, Int.reducePow, Int.reduceMul, Int.reduceAdd, draw_i, ix_t0, ix_t1, ix_t2, ix_t3, ix_m3, ix_m4, sn_ball_box, sn_cell_box, sn_cell_ball, sn_ball_cell, sn_box_ball, sn_box_cell, decide_false]
    refine ⟨dd0, rfl, by decide, fun M2 u2 => ?_⟩
    rw [last0]
    refine ix_dd (dd := dd1) (i := 1) rfl rfl ?_
    repeat refine And.intro (by decide) ?_
    refine eqV_self (n := 4) (by decide) (dd_fit (n := 0) (p := 2) (ks := [4]) (d := .take 4) (by simp [ddB])) ?_
    try simp (disch := first | assumption | decide) only [wSeq, wNext, wAsg, wgName, wIfS, wB, wOp, wVar, wC, wCall, wCallK, wCons, wNil, wRet, wRetN, wDrop, wTup, wLst, wIf, wAnd, wOr, wNot, wAndV, wOrV, wNotV, wNeg, wChain, fI, fI0, addD, fLt, fLe, fGt, fGe, fIsB, wCB, fAbs, f2I, fInt, fIsq, wPar, wPar3, permD, startE, List.map_cons, List.map_nil, List.cons_append, List.nil_append, List.append_nil, List.length_cons, List.length_nil, List.replicate, List.getElem?_cons_zero, List.getElem?_cons_succ, List.set_cons_zero, List.set_cons_succ, List.getD_cons_zero, List.getD_cons_succ, Nat.reduceAdd, Nat.reduceSub, Nat.zero_add, true_and, and_true, Bool.not_true, Bool.not_false, if_true, if_false, Bool.false_eq_true, reduceIte, decide_eq_true_eq, Bool.not_eq_true', decide_eq_false_iff_not, eqV_int, eqV_str, eqV_bl, decide_true, reduceCtorEq, not_true_eq_false, not_false_eq_true, Bool.not_eq_true, List.not_mem_nil, false_implies, implies_true, Int.reduceNeg, Int.reduceToNat, Int.reducePow, Int.reduceMul, Int.reduceAdd, draw_i, ix_t0, ix_t1, ix_t2, ix_t3, ix_m3, ix_m4, sn_ball_box, sn_cell_box, sn_cell_ball, sn_ball_cell, sn_box_ball, sn_box_cell, decide_false]
    have ht2 := u2 _ _ ht
    intro z hz
    have ht3 : setM M2 z (.dic none []) t = some (.dic none (stD st0)) := (up_new hz) _ _ ht2
    have tz : t ≠ z := fun e => by
      rw [e, hz] at ht2
      cases ht2
    simp (disch := first | assumption | decide) only [wSeq, wNext, wAsg, wgName, wIfS, wB, wOp, wVar, wC, wCall, wCallK, wCons, wNil, wRet, wRetN, wDrop, wTup, wLst, wIf, wAnd, wOr, wNot, wAndV, wOrV, wNotV, wNeg, wChain, fI, fI0, addD, fLt, fLe, fGt, fGe, fIsB, wCB, fAbs, f2I, fInt, fIsq, wPar, wPar3, permD, startE, List.map_cons, List.map_nil, List.cons_append, List.nil_append, List.append_nil, List.length_cons, List.length_nil, List.replicate, List.getElem?_cons_zero, List.getElem?_cons_succ, List.set_cons_zero, List.set_cons_succ, List.getD_cons_zero, List.getD_cons_succ, Nat.reduceAdd, Nat.reduceSub, Nat.zero_add, true_and, and_true, Bool.not_true, Bool.not_false, if_true, if_false, Bool.false_eq_true, reduceIte, decide_eq_true_eq, Bool.not_eq_true', decide_eq_false_iff_not, eqV_int, eqV_str, eqV_bl, decide_true, reduceCtorEq, not_true_eq_false, not_false_eq_true, Bool.not_eq_true, List.not_mem_nil, false_implies, implies_true, Int.reduceNeg, Int.reduceToNat, Int.reducePow, Int.reduceMul, Int.reduceAdd, draw_i, ix_t0, ix_t1, ix_t2, ix_t3, ix_m3, ix_m4, sn_ball_box, sn_cell_box, sn_cell_ball, sn_ball_cell, sn_box_ball, sn_box_cell, decide_false, wPairs, wDGet, fDGet, dKey]
    rw [dic_at ht3]
    simp (disch := first | assumption | decide) only [wSeq, wNext, wAsg, wgName, wIfS, wB, wOp, wVar, wC, wCall, wCallK, wCons, wNil, wRet, wRetN, wDrop, wTup, wLst, wIf, wAnd, wOr, wNot, wAndV, wOrV, wNotV, wNeg, wChain, fI, fI0, addD, fLt, fLe, fGt, fGe, fIsB, wCB, fAbs, f2I, fInt, fIsq, wPar, wPar3, permD, startE, List.map_cons, List.map_nil, List.cons_append, List.nil_append, List.append_nil, List.length_cons, List.length_nil, List.replicate, List.getElem?_cons_zero, List.getElem?_cons_succ, List.set_cons_zero, List.set_cons_succ, List.getD_cons_zero, List.getD_cons_succ, Nat.reduceAdd, Nat.reduceSub, Nat.zero_add, true_and, and_true, Bool.not_true, Bool.not_false, if_true, if_false, Bool.false_eq_true, reduceIte, decide_eq_true_eq, Bool.not_eq_true', decide_eq_false_iff_not, eqV_int, eqV_str, eqV_bl, decide_true, reduceCtorEq, not_true_eq_false, not_false_eq_true, Bool.not_eq_true, List.not_mem_nil, false_implies, implies_true, Int.reduceNeg, Int.reduceToNat, Int.reducePow, Int.reduceMul, Int.reduceAdd, draw_i, ix_t0, ix_t1, ix_t2, ix_t3, ix_m3, ix_m4, sn_ball_box, sn_cell_box, sn_cell_ball, sn_ball_cell, sn_box_ball, sn_box_cell, decide_false, dKeys, dKey]
    refine ⟨i7.d, by rfl, setM_same, by decide, ?_⟩
    rw [set_set]
    have em : mergeD [] [((.inl 7 : Key), i7.d)] = stD [i7] := by rfl
    rw [em]
    refine ⟨_, _, st0, [i7], 2, rfl, ⟨t, rfl, by rw [setM_ne tz]; exact ht2⟩, ⟨z, rfl, setM_same⟩, ⟨by decide, by decide, fun i hi => ?_⟩, ⟨by decide, by decide, fun i hi => ?_⟩, ?_⟩
    · unfold st0 at hi
      simp only [List.mem_cons, List.not_mem_nil, or_false] at hi
      rcases hi with rfl | rfl
      · exact it2
      · exact it7
    · rw [List.mem_singleton.mp hi]
      exact it7
    rw [betw0]
    repeat refine And.intro (by decide) ?_
    refine ne_dds (p := 2) (ks := [2]) (dd := [.take 2]) (fun d hd => by rw [List.mem_singleton.mp hd]; simp [ddB]) ?_
    try simp (disch := first | assumption | decide) only [wSeq, wNext, wAsg, wgName, wIfS, wB, wOp, wVar, wC, wCall, wCallK, wCons, wNil, wRet, wRetN, wDrop, wTup, wLst, wIf, wAnd, wOr, wNot, wAndV, wOrV, wNotV, wNeg, wChain, fI, fI0, addD, fLt, fLe, fGt, fGe, fIsB, wCB, fAbs, f2I, fInt, fIsq, wPar, wPar3, permD, startE, List.map_cons, List.map_nil, List.cons_append, List.nil_append, List.append_nil, List.length_cons, List.length_nil, List.replicate, List.getElem?_cons_zero, List.getElem?_cons_succ, List.set_cons_zero, List.set_cons_succ, List.getD_cons_zero, List.getD_cons_succ, Nat.reduceAdd, Nat.reduceSub, Nat.zero_add, true_and, and_true, Bool.not_true, Bool.not_false, if_true, if_false, Bool.false_eq_true, reduceIte, decide_eq_true_eq, Bool.not_eq_true', decide_eq_false_iff_not, eqV_int, eqV_str, eqV_bl, decide_true, reduceCtorEq, not_true_eq_false, not_false_eq_true, Bool.not_eq_true, List.not_mem_nil, false_implies, implies_true, Int.reduceNeg, Int.reduceToNat, Int.reducePow, Int.reduceMul, Int.reduceAdd, draw_i, ix_t0, ix_t1, ix_t2, ix_t3, ix_m3, ix_m4, sn_ball_box, sn_cell_box, sn_cell_ball, sn_ball_cell, sn_box_ball, sn_box_cell, decide_false]
    subst hK
    simp (disch := first | assumption | decide) only [wSeq, wNext, wAsg, wgName, wIfS, wB, wOp, wVar, wC, wCall, wCallK, wCons, wNil, wRet, wRetN, wDrop, wTup, wLst, wIf, wAnd, wOr, wNot, wAndV, wOrV, wNotV, wNeg, wChain, fI, fI0, addD, fLt, fLe, fGt, fGe, fIsB, wCB, fAbs, f2I, fInt, fIsq, wPar, wPar3, permD, startE, List.map_cons, List.map_nil, List.cons_append, List.nil_append, List.append_nil, List.length_cons, List.length_nil, List.replicate, List.getElem?_cons_zero, List.getElem?_cons_succ, List.set_cons_zero, List.set_cons_succ, List.getD_cons_zero, List.getD_cons_succ, Nat.reduceAdd, Nat.reduceSub, Nat.zero_add, true_and, and_true, Bool.not_true, Bool.not_false, if_true, if_false, Bool.false_eq_true, reduceIte, decide_eq_true_eq, Bool.not_eq_true', decide_eq_false_iff_not, eqV_int, eqV_str, eqV_bl, decide_true, reduceCtorEq, not_true_eq_false, not_false_eq_true, Bool.not_eq_true, List.not_mem_nil, false_implies, implies_true, Int.reduceNeg, Int.reduceToNat, Int.reducePow, Int.reduceMul, Int.reduceAdd, draw_i, ix_t0, ix_t1, ix_t2, ix_t3, ix_m3, ix_m4, sn_ball_box, sn_cell_box, sn_cell_ball, sn_ball_cell, sn_box_ball, sn_box_cell, decide_false, wAndV, wDNew, wDct0]
    intro e2 he2
    repeat refine And.intro (by decide) ?_
    refine done_i (st := []) (d := .take 4) (dic_at setM_same) List.nodup_nil (by decide) fun y M3 _ _ hy => ?_
    refine dc_same2 (p := 2) (n := 9) (dic_at hy) (show dicOf M3 (.dct [] []) = some (stD []) from rfl) stB_nil stB_nil (fun j => Iff.rfl) ?_
    try simp (disch := first | assumption | decide) only [wSeq, wNext, wAsg, wgName, wIfS, wB, wOp, wVar, wC, wCall, wCallK, wCons, wNil, wRet, wRetN, wDrop, wTup, wLst, wIf, wAnd, wOr, wNot, wAndV, wOrV, wNotV, wNeg, wChain, fI, fI0, addD, fLt, fLe, fGt, fGe, fIsB, wCB, fAbs, f2I, fInt, fIsq, wPar, wPar3, permD, startE, List.map_cons, List.map_nil, List.cons_append, List.nil_append, List.append_nil, List.length_cons, List.length_nil, List.replicate, List.getElem?_cons_zero, List.getElem?_cons_succ, List.set_cons_zero, List.set_cons_succ, List.getD_cons_zero, List.getD_cons_succ, Nat.reduceAdd, Nat.reduceSub, Nat.zero_add, true_and, and_true, Bool.not_true, Bool.not_false, if_true, if_false, Bool.false_eq_true, reduceIte, decide_eq_true_eq, Bool.not_eq_true', decide_eq_false_iff_not, eqV_int, eqV_str, eqV_bl, decide_true, reduceCtorEq, not_true_eq_false, not_false_eq_true, Bool.not_eq_true, List.not_mem_nil, false_implies, implies_true, Int.reduceNeg, Int.reduceToNat, Int.reducePow, Int.reduceMul, Int.reduceAdd, draw_i, ix_t0, ix_t1, ix_t2, ix_t3, ix_m3, ix_m4, sn_ball_box, sn_cell_box, sn_cell_ball, sn_ball_cell, sn_box_ball, sn_box_cell, decide_false]
    repeat refine And.intro (by decide) ?_
    refine ⟨[], rfl, by decide, fun M4 _ => ?_⟩
    rw [lastN]
    repeat refine And.intro (by decide) ?_
    refine eq_dds (p := 2) (ks := []) (a := []) (b := []) (fun d h => nomatch h) (fun d h => nomatch h) ?_
    rw [decide_eq_true rfl]
    try simp (disch := first | assumption | decide) only [wSeq, wNext, wAsg, wgName, wIfS, wB, wOp, wVar, wC, wCall, wCallK, wCons, wNil, wRet, wRetN, wDrop, wTup, wLst, wIf, wAnd, wOr, wNot, wAndV, wOrV, wNotV, wNeg, wChain, fI, fI0, addD, fLt, fLe, fGt, fGe, fIsB, wCB, fAbs, f2I, fInt, fIsq, wPar, wPar3, permD, startE, List.map_cons, List.map_nil, List.cons_append, List.nil_append, List.append_nil, List.length_cons, List.length_nil, List.replicate, List.getElem?_cons_zero, List.getElem?_cons_succ, List.set_cons_zero, List.set_cons_succ, List.getD_cons_zero, List.getD_cons_succ, Nat.reduceAdd, Nat.reduceSub, Nat.zero_add, true_and, and_true, Bool.not_true, Bool.not_false, if_true, if_false, Bool.false_eq_true, reduceIte, decide_eq_true_eq, Bool.not_eq_true', decide_eq_false_iff_not, eqV_int, eqV_str, eqV_bl, decide_true, reduceCtorEq, not_true_eq_false, not_false_eq_true, Bool.not_eq_true, List.not_mem_nil, false_implies, implies_true, Int.reduceNeg, Int.reduceToNat, Int.reducePow, Int.reduceMul, Int.reduceAdd, draw_i, ix_t0, ix_t1, ix_t2, ix_t3, ix_m3, ix_m4, sn_ball_box, sn_cell_box, sn_cell_ball, sn_ball_cell, sn_box_ball, sn_box_cell, decide_false]
    repeat refine And.intro (by decide) ?_
    refine ⟨[.take 1, .put i1], rfl, by decide, fun M5 _ => ?_⟩
    rw [last1]
    repeat refine And.intro (by decide) ?_
    refine eq_dds (p := 1) (ks := [1]) (a := [.put i1]) (b := [.put i1]) (fun d hd => by rw [List.mem_singleton.mp hd]; exact ⟨it1, by simp [i1]⟩) (fun d hd => by rw [List.mem_singleton.mp hd]; exact ⟨it1, by simp [i1]⟩) ?_
    rw [decide_eq_true rfl]
    exact q _
  clear hK
  refine for_gen fun B hB => ?_
  simp (disch := first | assumption | decide) only [wSeq, wNext, wAsg, wgName, wIfS, wB, wOp, wVar, wC, wCall, wCallK, wCons, wNil, wRet, wRetN, wDrop, wTup, wLst, wIf, wAnd, wOr, wNot, wAndV, wOrV, wNotV, wNeg, wChain, fI, fI0, addD, fLt, fLe, fGt, fGe, fIsB, wCB, fAbs, f2I, fInt, fIsq, wPar, wPar3, permD, startE, List.map_cons, List.map_nil, List.cons_append, List.nil_append, List.append_nil, List.length_cons, List.length_nil, List.replicate, List.getElem?_cons_zero, List.getElem?_cons_succ, List.set_cons_zero, List.set_cons_succ, List.getD_cons_zero, List.getD_cons_succ, Nat.reduceAdd, Nat.reduceSub, Nat.zero_add, true_and, and_true, Bool.not_true, Bool.not_false, if_true, if_false, Bool.false_eq_true, reduceIte, decide_eq_true_eq, Bool.not_eq_true', decide_eq_false_iff_not, eqV_int, eqV_str, eqV_bl, decide_true, reduceCtorEq, not_true_eq_false, not_false_eq_true, Bool.not_eq_true, List.not_mem_nil, false_implies, implies_true, Int.reduceNeg, Int.reduceToNat, Int.reducePow, Int.reduceMul, Int.reduceAdd, draw_i, ix_t0, ix_t1, ix_t2, ix_t3, ix_m3, ix_m4, sn_ball_box, sn_cell_box, sn_cell_ball, sn_ball_cell, sn_box_ball, sn_box_cell, decide_false, wFor, wiRange1, fLen]
  refine ⟨_, rfl, by split <;> decide, by split <;> decide, ?_⟩
  obtain ⟨n, hn, n2⟩ : ∃ n : Nat, (1 + (if 1 < (((ns.map D.int).length : Nat) : Int) then 1 else 0 : Int)).toNat = n ∧ n ≤ 2 := ⟨_, rfl, by split <;> decide⟩
  rw [hn]
  refine loop_ix (fun i ρ' M' => ∃ v1 v2 v3 v4 v5, ρ' = [some (.lst (ns.map .int)), v1, v2, v3, v4, v5]) (fun i d ρ' M hd hP => ?_) (fun ρ' M hP => ?_) ⟨_, _, _, _, _, rfl⟩
  · obtain ⟨v1, v2, v3, v4, v5, rfl⟩ := hP
    obtain ⟨li, rfl⟩ := intsD_get hd
    refine ⟨True.intro, fun K3 hK3 => ?_⟩
    simp only [wgName, List.set_cons_succ, List.set_cons_zero]
    subst hB
    refine seq_gen fun K4 hK4 => ?_
    simp (disch := first | assumption | decide) only [wSeq, wNext, wAsg, wgName, wIfS, wB, wOp, wVar, wC, wCall, wCallK, wCons, wNil, wRet, wRetN, wDrop, wTup, wLst, wIf, wAnd, wOr, wNot, wAndV, wOrV, wNotV, wNeg, wChain, fI, fI0, addD, fLt, fLe, fGt, fGe, fIsB, wCB, fAbs, f2I, fInt, fIsq, wPar, wPar3, permD, startE, List.map_cons, List.map_nil, List.cons_append, List.nil_append, List.append_nil, List.length_cons, List.length_nil, List.replicate, List.getElem?_cons_zero, List.getElem?_cons_succ, List.set_cons_zero, List.set_cons_succ, List.getD_cons_zero, List.getD_cons_succ, Nat.reduceAdd, Nat.reduceSub, Nat.zero_add, true_and, and_true, Bool.not_true, Bool.not_false, if_true, if_false, Bool.false_eq_true, reduceIte, decide_eq_true_eq, Bool.not_eq_true', decide_eq_false_iff_not, eqV_int, eqV_str, eqV_bl, decide_true, reduceCtorEq, not_true_eq_false, not_false_eq_true, Bool.not_eq_true, List.not_mem_nil, false_implies, implies_true, Int.reduceNeg, Int.reduceToNat, Int.reducePow, Int.reduceMul, Int.reduceAdd, draw_i, ix_t0, ix_t1, ix_t2, ix_t3, ix_m3, ix_m4, sn_ball_box, sn_cell_box, sn_cell_ball, sn_ball_cell, sn_box_ball, sn_box_cell, decide_false]
    refine ⟨ns, _, rfl, hl, by omega, by omega, fun b hb => ?_⟩
    subst hK4
    refine seq_gen fun K4 hK4 => ?_
    simp (disch := first | assumption | decide) only [wSeq, wNext, wAsg, wgName, wIfS, wB, wOp, wVar, wC, wCall, wCallK, wCons, wNil, wRet, wRetN, wDrop, wTup, wLst, wIf, wAnd, wOr, wNot, wAndV, wOrV, wNotV, wNeg, wChain, fI, fI0, addD, fLt, fLe, fGt, fGe, fIsB, wCB, fAbs, f2I, fInt, fIsq, wPar, wPar3, permD, startE, List.map_cons, List.map_nil, List.cons_append, List.nil_append, List.append_nil, List.length_cons, List.length_nil, List.replicate, List.getElem?_cons_zero, List.getElem?_cons_succ, List.set_cons_zero, List.set_cons_succ, List.getD_cons_zero, List.getD_cons_succ, Nat.reduceAdd, Nat.reduceSub, Nat.zero_add, true_and, and_true, Bool.not_true, Bool.not_false, if_true, if_false, Bool.false_eq_true, reduceIte, decide_eq_true_eq, Bool.not_eq_true', decide_eq_false_iff_not, eqV_int, eqV_str, eqV_bl, decide_true, reduceCtorEq, not_true_eq_false, not_false_eq_true, Bool.not_eq_true, List.not_mem_nil, false_implies, implies_true, Int.reduceNeg, Int.reduceToNat, Int.reducePow, Int.reduceMul, Int.reduceAdd, draw_i, ix_t0, ix_t1, ix_t2, ix_t3, ix_m3, ix_m4, sn_ball_box, sn_cell_box, sn_cell_ball, sn_ball_cell, sn_box_ball, sn_box_cell, decide_false]
    have hb1 : setM M b .box b = some .box := setM_same
    refine ⟨b, rfl, hb1, fun p t ks nm M1 up1 _ ht p1 p3 k0 k20 kpw kb n0 n3 nd hw => ?_⟩
    have W : WldOk M1 b t p ks nm := ⟨up1 _ _ hb1, ht, p1, p3, k0, k20, kpw, kb, n0, n3, nd, hw⟩
    have up : ∀ {M'}, Up M1 M' → WldOk M' b t p ks nm := fun u => { W with box := u _ _ W.box, keys := u _ _ W.keys }
    subst hK4
    simp (disch := first | assumption | decide) only [wSeq, wNext, wAsg, wgName, wIfS, wB, wOp, wVar, wC, wCall, wCallK, wCons, wNil, wRet, wRetN, wDrop, wTup, wLst, wIf, wAnd, wOr, wNot, wAndV, wOrV, wNotV, wNeg, wChain, fI, fI0, addD, fLt, fLe, fGt, fGe, fIsB, wCB, fAbs, f2I, fInt, fIsq, wPar, wPar3, permD, startE, List.map_cons, List.map_nil, List.cons_append, List.nil_append, List.append_nil, List.length_cons, List.length_nil, List.replicate, List.getElem?_cons_zero, List.getElem?_cons_succ, List.set_cons_zero, List.set_cons_succ, List.getD_cons_zero, List.getD_cons_succ, Nat.reduceAdd, Nat.reduceSub, Nat.zero_add, true_and, and_true, Bool.not_true, Bool.not_false, if_true, if_false, Bool.false_eq_true, reduceIte, decide_eq_true_eq, Bool.not_eq_true', decide_eq_false_iff_not, eqV_int, eqV_str, eqV_bl, decide_true, reduceCtorEq, not_true_eq_false, not_false_eq_true, Bool.not_eq_true, List.not_mem_nil, false_implies, implies_true, Int.reduceNeg, Int.reduceToNat, Int.reducePow, Int.reduceMul, Int.reduceAdd, draw_i, ix_t0, ix_t1, ix_t2, ix_t3, ix_m3, ix_m4, sn_ball_box, sn_cell_box, sn_cell_ball, sn_ball_cell, sn_box_ball, sn_box_cell, decide_false]
    refine ⟨b, t, p, ks, nm, rfl, W, fun M2 u2 => ?_⟩
    try simp (disch := first | assumption | decide) only [wSeq, wNext, wAsg, wgName, wIfS, wB, wOp, wVar, wC, wCall, wCallK, wCons, wNil, wRet, wRetN, wDrop, wTup, wLst, wIf, wAnd, wOr, wNot, wAndV, wOrV, wNotV, wNeg, wChain, fI, fI0, addD, fLt, fLe, fGt, fGe, fIsB, wCB, fAbs, f2I, fInt, fIsq, wPar, wPar3, permD, startE, List.map_cons, List.map_nil, List.cons_append, List.nil_append, List.append_nil, List.length_cons, List.length_nil, List.replicate, List.getElem?_cons_zero, List.getElem?_cons_succ, List.set_cons_zero, List.set_cons_succ, List.getD_cons_zero, List.getD_cons_succ, Nat.reduceAdd, Nat.reduceSub, Nat.zero_add, true_and, and_true, Bool.not_true, Bool.not_false, if_true, if_false, Bool.false_eq_true, reduceIte, decide_eq_true_eq, Bool.not_eq_true', decide_eq_false_iff_not, eqV_int, eqV_str, eqV_bl, decide_true, reduceCtorEq, not_true_eq_false, not_false_eq_true, Bool.not_eq_true, List.not_mem_nil, false_implies, implies_true, Int.reduceNeg, Int.reduceToNat, Int.reducePow, Int.reduceMul, Int.reduceAdd, draw_i, ix_t0, ix_t1, ix_t2, ix_t3, ix_m3, ix_m4, sn_ball_box, sn_cell_box, sn_cell_ball, sn_ball_cell, sn_box_ball, sn_box_cell, decide_false]
    refine ⟨b, t, p, ks, nm, rfl, up u2, fun M3 u3 => ?_⟩
    try simp (disch := first | assumption | decide) only [wSeq, wNext, wAsg, wgName, wIfS, wB, wOp, wVar, wC, wCall, wCallK, wCons, wNil, wRet, wRetN, wDrop, wTup, wLst, wIf, wAnd, wOr, wNot, wAndV, wOrV, wNotV, wNeg, wChain, fI, fI0, addD, fLt, fLe, fGt, fGe, fIsB, wCB, fAbs, f2I, fInt, fIsq, wPar, wPar3, permD, startE, List.map_cons, List.map_nil, List.cons_append, List.nil_append, List.append_nil, List.length_cons, List.length_nil, List.replicate, List.getElem?_cons_zero, List.getElem?_cons_succ, List.set_cons_zero, List.set_cons_succ, List.getD_cons_zero, List.getD_cons_succ, Nat.reduceAdd, Nat.reduceSub, Nat.zero_add, true_and, and_true, Bool.not_true, Bool.not_false, if_true, if_false, Bool.false_eq_true, reduceIte, decide_eq_true_eq, Bool.not_eq_true', decide_eq_false_iff_not, eqV_int, eqV_str, eqV_bl, decide_true, reduceCtorEq, not_true_eq_false, not_false_eq_true, Bool.not_eq_true, List.not_mem_nil, false_implies, implies_true, Int.reduceNeg, Int.reduceToNat, Int.reducePow, Int.reduceMul, Int.reduceAdd, draw_i, ix_t0, ix_t1, ix_t2, ix_t3, ix_m3, ix_m4, sn_ball_box, sn_cell_box, sn_cell_ball, sn_ball_cell, sn_box_ball, sn_box_cell, decide_false]
    refine ⟨b, t, p, ks, nm, rfl, up (u2.trans u3), fun M4 u4 => ?_⟩
    try simp (disch := first | assumption | decide) only [wSeq, wNext, wAsg, wgName, wIfS, wB, wOp, wVar, wC, wCall, wCallK, wCons, wNil, wRet, wRetN, wDrop, wTup, wLst, wIf, wAnd, wOr, wNot, wAndV, wOrV, wNotV, wNeg, wChain, fI, fI0, addD, fLt, fLe, fGt, fGe, fIsB, wCB, fAbs, f2I, fInt, fIsq, wPar, wPar3, permD, startE, List.map_cons, List.map_nil, List.cons_append, List.nil_append, List.append_nil, List.length_cons, List.length_nil, List.replicate, List.getElem?_cons_zero, List.getElem?_cons_succ, List.set_cons_zero, List.set_cons_succ, List.getD_cons_zero, List.getD_cons_succ, Nat.reduceAdd, Nat.reduceSub, Nat.zero_add, true_and, and_true, Bool.not_true, Bool.not_false, if_true, if_false, Bool.false_eq_true, reduceIte, decide_eq_true_eq, Bool.not_eq_true', decide_eq_false_iff_not, eqV_int, eqV_str, eqV_bl, decide_true, reduceCtorEq, not_true_eq_false, not_false_eq_true, Bool.not_eq_true, List.not_mem_nil, false_implies, implies_true, Int.reduceNeg, Int.reduceToNat, Int.reducePow, Int.reduceMul, Int.reduceAdd, draw_i, ix_t0, ix_t1, ix_t2, ix_t3, ix_m3, ix_m4, sn_ball_box, sn_cell_box, sn_cell_ball, sn_ball_cell, sn_box_ball, sn_box_cell, decide_false]
    exact hK3 _ _ ⟨_, _, _, _, _, rfl⟩
  · obtain ⟨v1, v2, v3, v4, v5, rfl⟩ := hP
    exact ⟨True.intro, hKx _ _ _ _ _ _⟩
end K16
namespace K16
open PySem L2 L3
theorem len_deed_key : ∀ ds M Q E, F_deed_key ds M Q E → ds.length = 1 := by
  rintro ds M Q E ⟨_, rfl, _⟩
  rfl
theorem len_done_all : ∀ ds M Q E, F_done_all ds M Q E → ds.length = 2 := by
  rintro ds M Q E ⟨_, _, _, rfl, _⟩
  rfl
theorem len_done : ∀ ds M Q E, F_done ds M Q E → ds.length = 2 := by
  rintro ds M Q E ⟨_, _, _, rfl, _⟩
  rfl
theorem len_state_of : ∀ ds M Q E, F_state_of ds M Q E → ds.length = 1 := by
  rintro ds M Q E ⟨_, rfl, _⟩
  rfl
theorem len_last_deeds : ∀ ds M Q E, F_last_deeds ds M Q E → ds.length = 1 := by
  rintro ds M Q E ⟨_, rfl, _⟩
  rfl
theorem len_deeds_between : ∀ ds M Q E, F_deeds_between ds M Q E → ds.length = 2 := by
  rintro ds M Q E ⟨_, _, _, _, _, rfl, _⟩
  rfl
theorem len__law_box : ∀ ds M Q E, boxL ds M Q E → ds.length = 2 := by
  rintro ds M Q E ⟨_, _, rfl, _⟩
  rfl
theorem len__law_take : ∀ ds M Q E, takeL ds M Q E → ds.length = 2 := by
  rintro ds M Q E ⟨_, _, _, _, _, rfl, _⟩
  rfl
theorem len__law_pick : ∀ ds M Q E, pickB ds M Q E → ds.length = 2 := by
  rintro ds M Q E ⟨_, _, _, rfl, _⟩
  rfl
theorem len__law_word : ∀ ds M Q E, F__law_word ds M Q E → ds.length = 2 := by
  rintro ds M Q E ⟨_, _, rfl, _⟩
  rfl
theorem len__law_vector : ∀ ds M Q E, F__law_vector ds M Q E → ds.length = 2 := by
  rintro ds M Q E ⟨_, _, rfl, _⟩
  rfl
theorem len__law_item : ∀ ds M Q E, F__law_item ds M Q E → ds.length = 4 := by
  rintro ds M Q E ⟨_, _, _, _, _, rfl, _⟩
  rfl
theorem len__law_world : ∀ ds M Q E, F__law_world ds M Q E → ds.length = 1 := by
  rintro ds M Q E ⟨_, rfl, _⟩
  rfl
theorem len__law_items : ∀ ds M Q E, F__law_items ds M Q E → ds.length = 3 := by
  rintro ds M Q E ⟨_, _, _, _, _, _, rfl, _⟩
  rfl
theorem len__law_deeds : ∀ ds M Q E, F__law_deeds ds M Q E → ds.length = 3 := by
  rintro ds M Q E ⟨_, _, _, _, _, _, rfl, _⟩
  rfl
theorem len__law_after : ∀ ds M Q E, F__law_after ds M Q E → ds.length = 2 := by
  rintro ds M Q E ⟨_, _, _, _, rfl, _⟩
  rfl
theorem len__law_shown : ∀ ds M Q E, F__law_shown ds M Q E → ds.length = 1 := by
  rintro ds M Q E ⟨_, _, _, rfl, _⟩
  rfl
theorem len__law_last : ∀ ds M Q E, F__law_last ds M Q E → ds.length = 1 := by
  rintro ds M Q E ⟨_, rfl, _⟩
  rfl
theorem len__law_run_right : ∀ ds M Q E, F__law_run_right ds M Q E → ds.length = 2 := by
  rintro ds M Q E ⟨_, _, _, _, _, rfl, _⟩
  rfl
theorem len__law_changed : ∀ ds M Q E, F__law_changed ds M Q E → ds.length = 3 := by
  rintro ds M Q E ⟨_, _, _, _, _, _, rfl, _⟩
  rfl
theorem len__law_effects_right : ∀ ds M Q E, F__law_effects_right ds M Q E → ds.length = 2 := by
  rintro ds M Q E ⟨_, _, _, _, _, rfl, _⟩
  rfl
theorem len__law_between_right : ∀ ds M Q E, F__law_between_right ds M Q E → ds.length = 2 := by
  rintro ds M Q E ⟨_, _, _, _, _, rfl, _⟩
  rfl
theorem len_law : ∀ ds M Q E, F_law ds M Q E → ds.length = 1 := by
  rintro ds M Q E ⟨_, rfl, _⟩
  rfl
/-! ### all together -/
theorem all_mk {l : PySem.W.OpenLaw} (hl : l.prog = PySem.Challenge.pw_nonearer_k16_whole_deeds_and_what_stays) {w : World} {K : PySem.W.Frag} {h : Heap} {mg : Str → Option Value} {fa : Addr} (X : K.In h) (G : h.Ns mainGlobals mg) (hfa : mg "law" = some (.ref fa))
    {f0 : Addr} {od0 an0 : Option Addr} {sl0 : Array (Option Value)} {oc0 kV0 dc0 pm0 cd0 ct0 : Value}
    {f1 : Addr} {od1 an1 : Option Addr} {sl1 : Array (Option Value)} {oc1 kV1 dc1 pm1 cd1 ct1 : Value}
    {f2 : Addr} {od2 an2 : Option Addr} {sl2 : Array (Option Value)} {oc2 kV2 dc2 pm2 cd2 ct2 : Value}
    {f3 : Addr} {od3 an3 : Option Addr} {sl3 : Array (Option Value)} {oc3 kV3 dc3 pm3 cd3 ct3 : Value}
    {f4 : Addr} {od4 an4 : Option Addr} {sl4 : Array (Option Value)} {oc4 kV4 dc4 pm4 cd4 ct4 : Value}
    {f5 : Addr} {od5 an5 : Option Addr} {sl5 : Array (Option Value)} {oc5 kV5 dc5 pm5 cd5 ct5 : Value}
    {f6 : Addr} {od6 an6 : Option Addr} {sl6 : Array (Option Value)} {oc6 kV6 dc6 pm6 cd6 ct6 : Value}
    {f7 : Addr} {od7 an7 : Option Addr} {sl7 : Array (Option Value)} {oc7 kV7 dc7 pm7 cd7 ct7 : Value}
    {f8 : Addr} {od8 an8 : Option Addr} {sl8 : Array (Option Value)} {oc8 kV8 dc8 pm8 cd8 ct8 : Value}
    {f9 : Addr} {od9 an9 : Option Addr} {sl9 : Array (Option Value)} {oc9 kV9 dc9 pm9 cd9 ct9 : Value}
    {f10 : Addr} {od10 an10 : Option Addr} {sl10 : Array (Option Value)} {oc10 kV10 dc10 pm10 cd10 ct10 : Value}
    {f11 : Addr} {od11 an11 : Option Addr} {sl11 : Array (Option Value)} {oc11 kV11 dc11 pm11 cd11 ct11 : Value}
    {f12 : Addr} {od12 an12 : Option Addr} {sl12 : Array (Option Value)} {oc12 kV12 dc12 pm12 cd12 ct12 : Value}
    {f13 : Addr} {od13 an13 : Option Addr} {sl13 : Array (Option Value)} {oc13 kV13 dc13 pm13 cd13 ct13 : Value}
    {f14 : Addr} {od14 an14 : Option Addr} {sl14 : Array (Option Value)} {oc14 kV14 dc14 pm14 cd14 ct14 : Value}
    {f15 : Addr} {od15 an15 : Option Addr} {sl15 : Array (Option Value)} {oc15 kV15 dc15 pm15 cd15 ct15 : Value}
    {f16 : Addr} {od16 an16 : Option Addr} {sl16 : Array (Option Value)} {oc16 kV16 dc16 pm16 cd16 ct16 : Value}
    {f17 : Addr} {od17 an17 : Option Addr} {sl17 : Array (Option Value)} {oc17 kV17 dc17 pm17 cd17 ct17 : Value}
    {f18 : Addr} {od18 an18 : Option Addr} {sl18 : Array (Option Value)} {oc18 kV18 dc18 pm18 cd18 ct18 : Value}
    {f19 : Addr} {od19 an19 : Option Addr} {sl19 : Array (Option Value)} {oc19 kV19 dc19 pm19 cd19 ct19 : Value}
    {f20 : Addr} {od20 an20 : Option Addr} {sl20 : Array (Option Value)} {oc20 kV20 dc20 pm20 cd20 ct20 : Value}
    {f21 : Addr} {od21 an21 : Option Addr} {sl21 : Array (Option Value)} {oc21 kV21 dc21 pm21 cd21 ct21 : Value}
    {f22 : Addr} {od22 an22 : Option Addr} {sl22 : Array (Option Value)} {oc22 kV22 dc22 pm22 cd22 ct22 : Value}
    (a0 : PySem.W.nsIn K mainGlobals "deed_key" = some (some (.ref f0))) (l0 : K.lookup f0 = some ⟨oc0, od0, .func (PySem.W.fnOf "deed_key" "deed_key" (defArgs s_deed_key) (defBody s_deed_key) (defScope s_deed_key) .none kV0 dc0 pm0 an0 cd0 ct0), sl0⟩) (c0 : PySem.W.codeIn K cd0 "deed_key" = true) (k0 : PySem.W.keepIn K (.ref f0) = true)
    (a1 : PySem.W.nsIn K mainGlobals "done_all" = some (some (.ref f1))) (l1 : K.lookup f1 = some ⟨oc1, od1, .func (PySem.W.fnOf "done_all" "done_all" (defArgs s_done_all) (defBody s_done_all) (defScope s_done_all) .none kV1 dc1 pm1 an1 cd1 ct1), sl1⟩) (c1 : PySem.W.codeIn K cd1 "done_all" = true) (k1 : PySem.W.keepIn K (.ref f1) = true)
    (a2 : PySem.W.nsIn K mainGlobals "done" = some (some (.ref f2))) (l2 : K.lookup f2 = some ⟨oc2, od2, .func (PySem.W.fnOf "done" "done" (defArgs s_done) (defBody s_done) (defScope s_done) .none kV2 dc2 pm2 an2 cd2 ct2), sl2⟩) (c2 : PySem.W.codeIn K cd2 "done" = true) (k2 : PySem.W.keepIn K (.ref f2) = true)
    (a3 : PySem.W.nsIn K mainGlobals "state_of" = some (some (.ref f3))) (l3 : K.lookup f3 = some ⟨oc3, od3, .func (PySem.W.fnOf "state_of" "state_of" (defArgs s_state_of) (defBody s_state_of) (defScope s_state_of) .none kV3 dc3 pm3 an3 cd3 ct3), sl3⟩) (c3 : PySem.W.codeIn K cd3 "state_of" = true) (k3 : PySem.W.keepIn K (.ref f3) = true)
    (a4 : PySem.W.nsIn K mainGlobals "last_deeds" = some (some (.ref f4))) (l4 : K.lookup f4 = some ⟨oc4, od4, .func (PySem.W.fnOf "last_deeds" "last_deeds" (defArgs s_last_deeds) (defBody s_last_deeds) (defScope s_last_deeds) .none kV4 dc4 pm4 an4 cd4 ct4), sl4⟩) (c4 : PySem.W.codeIn K cd4 "last_deeds" = true) (k4 : PySem.W.keepIn K (.ref f4) = true)
    (a5 : PySem.W.nsIn K mainGlobals "deeds_between" = some (some (.ref f5))) (l5 : K.lookup f5 = some ⟨oc5, od5, .func (PySem.W.fnOf "deeds_between" "deeds_between" (defArgs s_deeds_between) (defBody s_deeds_between) (defScope s_deeds_between) .none kV5 dc5 pm5 an5 cd5 ct5), sl5⟩) (c5 : PySem.W.codeIn K cd5 "deeds_between" = true) (k5 : PySem.W.keepIn K (.ref f5) = true)
    (a6 : PySem.W.nsIn K mainGlobals "_law_box" = some (some (.ref f6))) (l6 : K.lookup f6 = some ⟨oc6, od6, .func (PySem.W.fnOf "_law_box" "_law_box" (defArgs s__law_box) (defBody s__law_box) (defScope s__law_box) .none kV6 dc6 pm6 an6 cd6 ct6), sl6⟩) (c6 : PySem.W.codeIn K cd6 "_law_box" = true) (k6 : PySem.W.keepIn K (.ref f6) = true)
    (a7 : PySem.W.nsIn K mainGlobals "_law_take" = some (some (.ref f7))) (l7 : K.lookup f7 = some ⟨oc7, od7, .func (PySem.W.fnOf "_law_take" "_law_take" (defArgs s__law_take) (defBody s__law_take) (defScope s__law_take) .none kV7 dc7 pm7 an7 cd7 ct7), sl7⟩) (c7 : PySem.W.codeIn K cd7 "_law_take" = true) (k7 : PySem.W.keepIn K (.ref f7) = true)
    (a8 : PySem.W.nsIn K mainGlobals "_law_pick" = some (some (.ref f8))) (l8 : K.lookup f8 = some ⟨oc8, od8, .func (PySem.W.fnOf "_law_pick" "_law_pick" (defArgs s__law_pick) (defBody s__law_pick) (defScope s__law_pick) .none kV8 dc8 pm8 an8 cd8 ct8), sl8⟩) (c8 : PySem.W.codeIn K cd8 "_law_pick" = true) (k8 : PySem.W.keepIn K (.ref f8) = true)
    (a9 : PySem.W.nsIn K mainGlobals "_law_word" = some (some (.ref f9))) (l9 : K.lookup f9 = some ⟨oc9, od9, .func (PySem.W.fnOf "_law_word" "_law_word" (defArgs s__law_word) (defBody s__law_word) (defScope s__law_word) .none kV9 dc9 pm9 an9 cd9 ct9), sl9⟩) (c9 : PySem.W.codeIn K cd9 "_law_word" = true) (k9 : PySem.W.keepIn K (.ref f9) = true)
    (a10 : PySem.W.nsIn K mainGlobals "_law_vector" = some (some (.ref f10))) (l10 : K.lookup f10 = some ⟨oc10, od10, .func (PySem.W.fnOf "_law_vector" "_law_vector" (defArgs s__law_vector) (defBody s__law_vector) (defScope s__law_vector) .none kV10 dc10 pm10 an10 cd10 ct10), sl10⟩) (c10 : PySem.W.codeIn K cd10 "_law_vector" = true) (k10 : PySem.W.keepIn K (.ref f10) = true)
    (a11 : PySem.W.nsIn K mainGlobals "_law_item" = some (some (.ref f11))) (l11 : K.lookup f11 = some ⟨oc11, od11, .func (PySem.W.fnOf "_law_item" "_law_item" (defArgs s__law_item) (defBody s__law_item) (defScope s__law_item) .none kV11 dc11 pm11 an11 cd11 ct11), sl11⟩) (c11 : PySem.W.codeIn K cd11 "_law_item" = true) (k11 : PySem.W.keepIn K (.ref f11) = true)
    (a12 : PySem.W.nsIn K mainGlobals "_law_world" = some (some (.ref f12))) (l12 : K.lookup f12 = some ⟨oc12, od12, .func (PySem.W.fnOf "_law_world" "_law_world" (defArgs s__law_world) (defBody s__law_world) (defScope s__law_world) .none kV12 dc12 pm12 an12 cd12 ct12), sl12⟩) (c12 : PySem.W.codeIn K cd12 "_law_world" = true) (k12 : PySem.W.keepIn K (.ref f12) = true)
    (a13 : PySem.W.nsIn K mainGlobals "_law_items" = some (some (.ref f13))) (l13 : K.lookup f13 = some ⟨oc13, od13, .func (PySem.W.fnOf "_law_items" "_law_items" (defArgs s__law_items) (defBody s__law_items) (defScope s__law_items) .none kV13 dc13 pm13 an13 cd13 ct13), sl13⟩) (c13 : PySem.W.codeIn K cd13 "_law_items" = true) (k13 : PySem.W.keepIn K (.ref f13) = true)
    (a14 : PySem.W.nsIn K mainGlobals "_law_deeds" = some (some (.ref f14))) (l14 : K.lookup f14 = some ⟨oc14, od14, .func (PySem.W.fnOf "_law_deeds" "_law_deeds" (defArgs s__law_deeds) (defBody s__law_deeds) (defScope s__law_deeds) .none kV14 dc14 pm14 an14 cd14 ct14), sl14⟩) (c14 : PySem.W.codeIn K cd14 "_law_deeds" = true) (k14 : PySem.W.keepIn K (.ref f14) = true)
    (a15 : PySem.W.nsIn K mainGlobals "_law_after" = some (some (.ref f15))) (l15 : K.lookup f15 = some ⟨oc15, od15, .func (PySem.W.fnOf "_law_after" "_law_after" (defArgs s__law_after) (defBody s__law_after) (defScope s__law_after) .none kV15 dc15 pm15 an15 cd15 ct15), sl15⟩) (c15 : PySem.W.codeIn K cd15 "_law_after" = true) (k15 : PySem.W.keepIn K (.ref f15) = true)
    (a16 : PySem.W.nsIn K mainGlobals "_law_shown" = some (some (.ref f16))) (l16 : K.lookup f16 = some ⟨oc16, od16, .func (PySem.W.fnOf "_law_shown" "_law_shown" (defArgs s__law_shown) (defBody s__law_shown) (defScope s__law_shown) .none kV16 dc16 pm16 an16 cd16 ct16), sl16⟩) (c16 : PySem.W.codeIn K cd16 "_law_shown" = true) (k16 : PySem.W.keepIn K (.ref f16) = true)
    (a17 : PySem.W.nsIn K mainGlobals "_law_last" = some (some (.ref f17))) (l17 : K.lookup f17 = some ⟨oc17, od17, .func (PySem.W.fnOf "_law_last" "_law_last" (defArgs s__law_last) (defBody s__law_last) (defScope s__law_last) .none kV17 dc17 pm17 an17 cd17 ct17), sl17⟩) (c17 : PySem.W.codeIn K cd17 "_law_last" = true) (k17 : PySem.W.keepIn K (.ref f17) = true)
    (a18 : PySem.W.nsIn K mainGlobals "_law_run_right" = some (some (.ref f18))) (l18 : K.lookup f18 = some ⟨oc18, od18, .func (PySem.W.fnOf "_law_run_right" "_law_run_right" (defArgs s__law_run_right) (defBody s__law_run_right) (defScope s__law_run_right) .none kV18 dc18 pm18 an18 cd18 ct18), sl18⟩) (c18 : PySem.W.codeIn K cd18 "_law_run_right" = true) (k18 : PySem.W.keepIn K (.ref f18) = true)
    (a19 : PySem.W.nsIn K mainGlobals "_law_changed" = some (some (.ref f19))) (l19 : K.lookup f19 = some ⟨oc19, od19, .func (PySem.W.fnOf "_law_changed" "_law_changed" (defArgs s__law_changed) (defBody s__law_changed) (defScope s__law_changed) .none kV19 dc19 pm19 an19 cd19 ct19), sl19⟩) (c19 : PySem.W.codeIn K cd19 "_law_changed" = true) (k19 : PySem.W.keepIn K (.ref f19) = true)
    (a20 : PySem.W.nsIn K mainGlobals "_law_effects_right" = some (some (.ref f20))) (l20 : K.lookup f20 = some ⟨oc20, od20, .func (PySem.W.fnOf "_law_effects_right" "_law_effects_right" (defArgs s__law_effects_right) (defBody s__law_effects_right) (defScope s__law_effects_right) .none kV20 dc20 pm20 an20 cd20 ct20), sl20⟩) (c20 : PySem.W.codeIn K cd20 "_law_effects_right" = true) (k20 : PySem.W.keepIn K (.ref f20) = true)
    (a21 : PySem.W.nsIn K mainGlobals "_law_between_right" = some (some (.ref f21))) (l21 : K.lookup f21 = some ⟨oc21, od21, .func (PySem.W.fnOf "_law_between_right" "_law_between_right" (defArgs s__law_between_right) (defBody s__law_between_right) (defScope s__law_between_right) .none kV21 dc21 pm21 an21 cd21 ct21), sl21⟩) (c21 : PySem.W.codeIn K cd21 "_law_between_right" = true) (k21 : PySem.W.keepIn K (.ref f21) = true)
    (a22 : PySem.W.nsIn K mainGlobals "law" = some (some (.ref f22))) (l22 : K.lookup f22 = some ⟨oc22, od22, .func (PySem.W.fnOf "law" "law" (defArgs s_law) (defBody s_law) (defScope s_law) .none kV22 dc22 pm22 an22 cd22 ct22), sl22⟩) (c22 : PySem.W.codeIn K cd22 "law" = true) (k22 : PySem.W.keepIn K (.ref f22) = true)
    (z_abs : PySem.W.nsIn K mainGlobals "abs" = some none)
    (z_any : PySem.W.nsIn K mainGlobals "any" = some none)
    (z_dict : PySem.W.nsIn K mainGlobals "dict" = some none)
    (z_int : PySem.W.nsIn K mainGlobals "int" = some none)
    (z_isinstance : PySem.W.nsIn K mainGlobals "isinstance" = some none)
    (z_len : PySem.W.nsIn K mainGlobals "len" = some none)
    (z_list : PySem.W.nsIn K mainGlobals "list" = some none)
    (z_range : PySem.W.nsIn K mainGlobals "range" = some none)
    (z_repr : PySem.W.nsIn K mainGlobals "repr" = some none)
    (z_set : PySem.W.nsIn K mainGlobals "set" = some none)
    (z_sorted : PySem.W.nsIn K mainGlobals "sorted" = some none)
    (z_tuple : PySem.W.nsIn K mainGlobals "tuple" = some none)
    :
    ∃ fd : FuncData, (∀ (s : Shared) (v : Value), BindsTo s fd ⟨[v], []⟩ [("script", v)]) ∧ ∀ base : Heap, K.In base → base.Ns mainGlobals mg → FnG l.prog w K mg base 9 fa fd ["script"] (lift K F_law) := by
  have e := hfa.symm.trans (PySem.W.mg_of X G a22)
  cases e
  have T : Txt K mg (0 : Addr) := ⟨PySem.W.mg_none_of X G z_abs, PySem.W.mg_none_of X G z_any, PySem.W.mg_none_of X G z_dict, PySem.W.mg_none_of X G z_int, PySem.W.mg_none_of X G z_isinstance, PySem.W.mg_none_of X G z_len, PySem.W.mg_none_of X G z_list, PySem.W.mg_none_of X G z_range, PySem.W.mg_none_of X G z_repr, PySem.W.mg_none_of X G z_set, PySem.W.mg_none_of X G z_sorted, PySem.W.mg_none_of X G z_tuple⟩
  refine ⟨PySem.W.fnOf "law" "law" (defArgs s_law) (defBody s_law) (defScope s_law) .none kV22 dc22 pm22 an22 cd22 ct22, fun s v => .of_eq rfl, fun base KB NB => ?_⟩
  have h_deed_key : Has l.prog w K mg base 1 "deed_key" s_deed_key ["deed"] F_deed_key := Has.mk' (fun_mk (st := s_deed_key) l0 c0 k0) (PySem.W.mg_of X G a0) (ok_deed_key (P := l.prog) (w := w) (base := base) (fun_mk (st := s_deed_key) l0 c0 k0) T len_deed_key wp_deed_key) fun _ _ _ _ _ _ us hl => match us, hl with | [_], _ => rfl
  have h_state_of : Has l.prog w K mg base 1 "state_of" s_state_of ["items"] F_state_of := Has.mk' (fun_mk (st := s_state_of) l3 c3 k3) (PySem.W.mg_of X G a3) (ok_state_of (P := l.prog) (w := w) (base := base) (fun_mk (st := s_state_of) l3 c3 k3) T len_state_of wp_state_of) fun _ _ _ _ _ _ us hl => match us, hl with | [_], _ => rfl
  have h_deeds_between : Has l.prog w K mg base 1 "deeds_between" s_deeds_between ["one", "other"] F_deeds_between := Has.mk' (fun_mk (st := s_deeds_between) l5 c5 k5) (PySem.W.mg_of X G a5) (ok_deeds_between (P := l.prog) (w := w) (base := base) (fun_mk (st := s_deeds_between) l5 c5 k5) T len_deeds_between wp_deeds_between) fun _ _ _ _ _ _ us hl => match us, hl with | [_, _], _ => rfl
  have h__law_box : Has l.prog w K mg base 1 "_law_box" s__law_box ["script", "k"] F__law_box := Has.mk' (fun_mk (st := s__law_box) l6 c6 k6) (PySem.W.mg_of X G a6) (ok__law_box (P := l.prog) (w := w) (base := base) (fun_mk (st := s__law_box) l6 c6 k6) T len__law_box wp__law_box) fun _ _ _ _ _ _ us hl => match us, hl with | [_, _], _ => rfl
  have h__law_take : Has l.prog w K mg base 1 "_law_take" s__law_take ["box", "many"] F__law_take := Has.mk' (fun_mk (st := s__law_take) l7 c7 k7) (PySem.W.mg_of X G a7) (ok__law_take (P := l.prog) (w := w) (base := base) (fun_mk (st := s__law_take) l7 c7 k7) T len__law_take wp__law_take) fun _ _ _ _ _ _ us hl => match us, hl with | [_, _], _ => rfl
  have h__law_after : Has l.prog w K mg base 1 "_law_after" s__law_after ["state", "deeds"] F__law_after := Has.mk' (fun_mk (st := s__law_after) l15 c15 k15) (PySem.W.mg_of X G a15) (ok__law_after (P := l.prog) (w := w) (base := base) (fun_mk (st := s__law_after) l15 c15 k15) T len__law_after wp__law_after) fun _ _ _ _ _ _ us hl => match us, hl with | [_, _], _ => rfl
  have h__law_shown : Has l.prog w K mg base 1 "_law_shown" s__law_shown ["state"] F__law_shown := Has.mk' (fun_mk (st := s__law_shown) l16 c16 k16) (PySem.W.mg_of X G a16) (ok__law_shown (P := l.prog) (w := w) (base := base) (fun_mk (st := s__law_shown) l16 c16 k16) T len__law_shown wp__law_shown) fun _ _ _ _ _ _ us hl => match us, hl with | [_], _ => rfl
  have h__law_last : Has l.prog w K mg base 1 "_law_last" s__law_last ["deeds"] F__law_last := Has.mk' (fun_mk (st := s__law_last) l17 c17 k17) (PySem.W.mg_of X G a17) (ok__law_last (P := l.prog) (w := w) (base := base) (fun_mk (st := s__law_last) l17 c17 k17) T len__law_last wp__law_last) fun _ _ _ _ _ _ us hl => match us, hl with | [_], _ => rfl
  have h_done_all : Has l.prog w K mg base 2 "done_all" s_done_all ["state", "deeds"] F_done_all := Has.mk' (fun_mk (st := s_done_all) l1 c1 k1) (PySem.W.mg_of X G a1) (ok_done_all (P := l.prog) (w := w) (base := base) (fun_mk (st := s_done_all) l1 c1 k1) T h_deed_key len_done_all wp_done_all) fun _ _ _ _ _ _ us hl => match us, hl with | [_, _], _ => rfl
  have h_last_deeds : Has l.prog w K mg base 2 "last_deeds" s_last_deeds ["deeds"] F_last_deeds := Has.mk' (fun_mk (st := s_last_deeds) l4 c4 k4) (PySem.W.mg_of X G a4) (ok_last_deeds (P := l.prog) (w := w) (base := base) (fun_mk (st := s_last_deeds) l4 c4 k4) T h_deed_key len_last_deeds wp_last_deeds) fun _ _ _ _ _ _ us hl => match us, hl with | [_], _ => rfl
  have h__law_pick : Has l.prog w K mg base 2 "_law_pick" s__law_pick ["box", "some"] F__law_pick := Has.mk' (fun_mk (st := s__law_pick) l8 c8 k8) (PySem.W.mg_of X G a8) (ok__law_pick (P := l.prog) (w := w) (base := base) (fun_mk (st := s__law_pick) l8 c8 k8) T h__law_take len__law_pick wp__law_pick) fun _ _ _ _ _ _ us hl => match us, hl with | [_, _], _ => rfl
  have h__law_word : Has l.prog w K mg base 2 "_law_word" s__law_word ["box", "most"] F__law_word := Has.mk' (fun_mk (st := s__law_word) l9 c9 k9) (PySem.W.mg_of X G a9) (ok__law_word (P := l.prog) (w := w) (base := base) (fun_mk (st := s__law_word) l9 c9 k9) T h__law_take len__law_word wp__law_word) fun _ _ _ _ _ _ us hl => match us, hl with | [_, _], _ => rfl
  have h_done : Has l.prog w K mg base 3 "done" s_done ["state", "deed"] F_done := Has.mk' (fun_mk (st := s_done) l2 c2 k2) (PySem.W.mg_of X G a2) (ok_done (P := l.prog) (w := w) (base := base) (fun_mk (st := s_done) l2 c2 k2) T h_done_all len_done wp_done) fun _ _ _ _ _ _ us hl => match us, hl with | [_, _], _ => rfl
  have h__law_vector : Has l.prog w K mg base 3 "_law_vector" s__law_vector ["box", "places"] F__law_vector := Has.mk' (fun_mk (st := s__law_vector) l10 c10 k10) (PySem.W.mg_of X G a10) (ok__law_vector (P := l.prog) (w := w) (base := base) (fun_mk (st := s__law_vector) l10 c10 k10) T h__law_take h__law_pick len__law_vector wp__law_vector) fun _ _ _ _ _ _ us hl => match us, hl with | [_, _], _ => rfl
  have h__law_world : Has l.prog w K mg base 3 "_law_world" s__law_world ["box"] F__law_world := Has.mk' (fun_mk (st := s__law_world) l12 c12 k12) (PySem.W.mg_of X G a12) (ok__law_world (P := l.prog) (w := w) (base := base) (fun_mk (st := s__law_world) l12 c12 k12) T h__law_take h__law_pick h__law_word len__law_world wp__law_world) fun _ _ _ _ _ _ us hl => match us, hl with | [_], _ => rfl
  have h__law_item : Has l.prog w K mg base 4 "_law_item" s__law_item ["box", "places", "keys", "names"] F__law_item := Has.mk' (fun_mk (st := s__law_item) l11 c11 k11) (PySem.W.mg_of X G a11) (ok__law_item (P := l.prog) (w := w) (base := base) (fun_mk (st := s__law_item) l11 c11 k11) T h__law_take h__law_pick h__law_vector len__law_item wp__law_item) fun _ _ _ _ _ _ us hl => match us, hl with | [_, _, _, _], _ => rfl
  have h__law_items : Has l.prog w K mg base 5 "_law_items" s__law_items ["box", "world", "many"] F__law_items := Has.mk' (fun_mk (st := s__law_items) l13 c13 k13) (PySem.W.mg_of X G a13) (ok__law_items (P := l.prog) (w := w) (base := base) (fun_mk (st := s__law_items) l13 c13 k13) T h__law_take h__law_pick h__law_item len__law_items wp__law_items) fun _ _ _ _ _ _ us hl => match us, hl with | [_, _, _], _ => rfl
  have h__law_deeds : Has l.prog w K mg base 6 "_law_deeds" s__law_deeds ["box", "world", "many"] F__law_deeds := Has.mk' (fun_mk (st := s__law_deeds) l14 c14 k14) (PySem.W.mg_of X G a14) (ok__law_deeds (P := l.prog) (w := w) (base := base) (fun_mk (st := s__law_deeds) l14 c14 k14) T h__law_take h__law_items len__law_deeds wp__law_deeds) fun _ _ _ _ _ _ us hl => match us, hl with | [_, _, _], _ => rfl
  have h__law_run_right : Has l.prog w K mg base 7 "_law_run_right" s__law_run_right ["box", "world"] F__law_run_right := Has.mk' (fun_mk (st := s__law_run_right) l18 c18 k18) (PySem.W.mg_of X G a18) (ok__law_run_right (P := l.prog) (w := w) (base := base) (fun_mk (st := s__law_run_right) l18 c18 k18) T h_done_all h_done h_state_of h__law_take h__law_deeds h__law_after h__law_shown len__law_run_right wp__law_run_right) fun _ _ _ _ _ _ us hl => match us, hl with | [_, _], _ => rfl
  have h__law_changed : Has l.prog w K mg base 7 "_law_changed" s__law_changed ["box", "world", "deeds"] F__law_changed := Has.mk' (fun_mk (st := s__law_changed) l19 c19 k19) (PySem.W.mg_of X G a19) (ok__law_changed (P := l.prog) (w := w) (base := base) (fun_mk (st := s__law_changed) l19 c19 k19) T h__law_take h__law_deeds len__law_changed wp__law_changed) fun _ _ _ _ _ _ us hl => match us, hl with | [_, _, _], _ => rfl
  have h__law_between_right : Has l.prog w K mg base 7 "_law_between_right" s__law_between_right ["box", "world"] F__law_between_right := Has.mk' (fun_mk (st := s__law_between_right) l21 c21 k21) (PySem.W.mg_of X G a21) (ok__law_between_right (P := l.prog) (w := w) (base := base) (fun_mk (st := s__law_between_right) l21 c21 k21) T h_done_all h_deeds_between h__law_take h__law_deeds h__law_after h__law_shown len__law_between_right wp__law_between_right) fun _ _ _ _ _ _ us hl => match us, hl with | [_, _], _ => rfl
  have h__law_effects_right : Has l.prog w K mg base 8 "_law_effects_right" s__law_effects_right ["box", "world"] F__law_effects_right := Has.mk' (fun_mk (st := s__law_effects_right) l20 c20 k20) (PySem.W.mg_of X G a20) (ok__law_effects_right (P := l.prog) (w := w) (base := base) (fun_mk (st := s__law_effects_right) l20 c20 k20) T h_done_all h_last_deeds h__law_take h__law_deeds h__law_after h__law_last h__law_changed len__law_effects_right wp__law_effects_right) fun _ _ _ _ _ _ us hl => match us, hl with | [_, _], _ => rfl
  exact ok_law (P := l.prog) (w := w) (base := base) (fun_mk (st := s_law) l22 c22 k22) T h_done_all h_done h_last_deeds h_deeds_between h__law_box h__law_world h__law_run_right h__law_effects_right h__law_between_right len_law wp_law
theorem at_end {K : PySem.W.Frag} {H : Hp} {a : Addr} {ns : List Int} (hl : ns.length ≤ 63) (hS : SqL K H a (ns.map V.int)) : lift K F_law [.ref a] H (fun v _ => v = .bl true) fun _ _ _ => False := by
  have fe : fz (fun _ => none) H (fun _ => none) = H := by
    funext b
    exact fz_none rfl rfl
  refine ⟨fun _ => none, [.lst (ns.map .int)], fun _ => none, fun d _ => d = .bl true, fun _ _ _ => False, ⟨(fun _ _ e => nomatch e), (fun _ _ e => nomatch e)⟩, ?_, ⟨ns, rfl, hl, fun _ => rfl⟩, fun v d H' M' _ r e => ?_, fun _ _ _ _ _ _ _ _ _ _ _ _ z => z⟩
  · rw [fe]
    exact .cons (.lst hS (.ofInts ns)) .nil
  · subst e
    cases r
    rfl
end K16
open PySem PySem.W PyProof.Rows in
set_option maxRecDepth 100000 in
set_option maxHeartbeats 0 in
theorem PySem.Challenge.cw_nonearer_k16_whole_deeds_and_what_stays_holds : PySem.Challenge.rw_nonearer_k16_whole_deeds_and_what_stays.Holds := by
  w_on; o_law; k_head; (case hw => w_witness2)
  k_fill
  refine L3.walk_g (l := PySem.Challenge.rw_nonearer_k16_whole_deeds_and_what_stays) (n := 63) (k := 9) (x := "script") (sp := fun w => L3.lift _ K16.F_law) rfl (by decide) rfl ⟨rfl, by decide, by decide⟩ (fun w h Y => PySem.W.kIn_of Y) ?F (fun w H a ns hl hS => K16.at_end hl hS)
  case F =>
    intro w mg fa h KX G hmg
    refine' K16.all_mk rfl KX G hmg ?a0 ?l0 ?c0 ?k0 ?a1 ?l1 ?c1 ?k1 ?a2 ?l2 ?c2 ?k2 ?a3 ?l3 ?c3 ?k3 ?a4 ?l4 ?c4 ?k4 ?a5 ?l5 ?c5 ?k5 ?a6 ?l6 ?c6 ?k6 ?a7 ?l7 ?c7 ?k7 ?a8 ?l8 ?c8 ?k8 ?a9 ?l9 ?c9 ?k9 ?a10 ?l10 ?c10 ?k10 ?a11 ?l11 ?c11 ?k11 ?a12 ?l12 ?c12 ?k12 ?a13 ?l13 ?c13 ?k13 ?a14 ?l14 ?c14 ?k14 ?a15 ?l15 ?c15 ?k15 ?a16 ?l16 ?c16 ?k16 ?a17 ?l17 ?c17 ?k17 ?a18 ?l18 ?c18 ?k18 ?a19 ?l19 ?c19 ?k19 ?a20 ?l20 ?c20 ?k20 ?a21 ?l21 ?c21 ?k21 ?a22 ?l22 ?c22 ?k22 ?z_abs ?z_any ?z_dict ?z_int ?z_isinstance ?z_len ?z_list ?z_range ?z_repr ?z_set ?z_sorted ?z_tuple
    (case a0 => k_is)
    (case l0 => k_is)
    (case c0 => k_is)
    (case k0 => k_is)
    (case a1 => k_is)
    (case l1 => k_is)
    (case c1 => k_is)
    (case k1 => k_is)
    (case a2 => k_is)
    (case l2 => k_is)
    (case c2 => k_is)
    (case k2 => k_is)
    (case a3 => k_is)
    (case l3 => k_is)
    (case c3 => k_is)
    (case k3 => k_is)
    (case a4 => k_is)
    (case l4 => k_is)
    (case c4 => k_is)
    (case k4 => k_is)
    (case a5 => k_is)
    (case l5 => k_is)
    (case c5 => k_is)
    (case k5 => k_is)
    (case a6 => k_is)
    (case l6 => k_is)
    (case c6 => k_is)
    (case k6 => k_is)
    (case a7 => k_is)
    (case l7 => k_is)
    (case c7 => k_is)
    (case k7 => k_is)
    (case a8 => k_is)
    (case l8 => k_is)
    (case c8 => k_is)
    (case k8 => k_is)
    (case a9 => k_is)
    (case l9 => k_is)
    (case c9 => k_is)
    (case k9 => k_is)
    (case a10 => k_is)
    (case l10 => k_is)
    (case c10 => k_is)
    (case k10 => k_is)
    (case a11 => k_is)
    (case l11 => k_is)
    (case c11 => k_is)
    (case k11 => k_is)
    (case a12 => k_is)
    (case l12 => k_is)
    (case c12 => k_is)
    (case k12 => k_is)
    (case a13 => k_is)
    (case l13 => k_is)
    (case c13 => k_is)
    (case k13 => k_is)
    (case a14 => k_is)
    (case l14 => k_is)
    (case c14 => k_is)
    (case k14 => k_is)
    (case a15 => k_is)
    (case l15 => k_is)
    (case c15 => k_is)
    (case k15 => k_is)
    (case a16 => k_is)
    (case l16 => k_is)
    (case c16 => k_is)
    (case k16 => k_is)
    (case a17 => k_is)
    (case l17 => k_is)
    (case c17 => k_is)
    (case k17 => k_is)
    (case a18 => k_is)
    (case l18 => k_is)
    (case c18 => k_is)
    (case k18 => k_is)
    (case a19 => k_is)
    (case l19 => k_is)
    (case c19 => k_is)
    (case k19 => k_is)
    (case a20 => k_is)
    (case l20 => k_is)
    (case c20 => k_is)
    (case k20 => k_is)
    (case a21 => k_is)
    (case l21 => k_is)
    (case c21 => k_is)
    (case k21 => k_is)
    (case a22 => k_is)
    (case l22 => k_is)
    (case c22 => k_is)
    (case k22 => k_is)
    (case z_abs => k_is)
    (case z_any => k_is)
    (case z_dict => k_is)
    (case z_int => k_is)
    (case z_isinstance => k_is)
    (case z_len => k_is)
    (case z_list => k_is)
    (case z_range => k_is)
    (case z_repr => k_is)
    (case z_set => k_is)
    (case z_sorted => k_is)
    (case z_tuple => k_is)
#print axioms PySem.Challenge.cw_nonearer_k16_whole_deeds_and_what_stays_holds
