import PyProof.Rows.All
import Wide.All
import OpenK.AllK
import Wide.FinOn
import HandS.ForMost
import HandS.ForExc
import HandS.Wide
import HandS.Zip
import HandS.Defaults
import HandS.TupAny
import HandS.Conv
import HandS.Style
import HandS.FStr
import PyProof.Rows.NestShow
import HandS.Gcd
import HandS.SortKw
import HandS.TupMul
import HandS.IsInst
import HandS.Flt
import HandS.Star
import HandS.ExcInit
import HandS.ExcField
import HandS.ExcIs
import HandS.TryOnly
import HandS.TryMany
import KE.KExcIs
import KE.DataMinMax
import KE.GoesEnum
import KE.SortData
import PyProof.EnumMake
import HandS.Iter
import HandS.Remove
import KE.KIndexOf
import PySem.Challenge.RW_nonearer_k02_whole_several_vectors
set_option Elab.async false
set_option linter.all false
set_option maxRecDepth 100000
set_option exponentiation.threshold 20000
/-! A second layer over HandS: data by value (D), mutable objects as tokens in a store (Mp), readings as predicate transformers over data. -/
namespace L3
open PySem L2

/-! ### data -/
inductive D where
  | non | bl (b : Bool) | int (i : Int) | str (x : Str) | ty (n : String) | tok (a : Addr)
  | tup (ds : List D) | lst (ds : List D)
  /-- an exception at a: its class's name, its dict at dx, its fields -/
  | exc (a : Addr) (x : Str) (dx : Addr) (ns : List Str) (ds : List D)
  /-- a tuple that is known to bear no dict -/
  | tpl (ds : List D)
  /-- a dict that never changes -/
  | dct (ks : List Key) (ds : List D)

mutual
inductive Rep (K : PySem.W.Frag) (H : Hp) : V → D → Prop
  | non : Rep K H .non .non
  | bl (b : Bool) : Rep K H (.bl b) (.bl b)
  | int (i : Int) : Rep K H (.int i) (.int i)
  | str (x : Str) : Rep K H (.str x) (.str x)
  | ty (n : String) : Rep K H (.ty n) (.ty n)
  | tok (a : Addr) : Rep K H (.ref a) (.tok a)
  | tup {a : Addr} {vs : List V} {ds : List D} : SqT K H a vs → RepL K H vs ds → Rep K H (.ref a) (.tup ds)
  | lst {a : Addr} {vs : List V} {ds : List D} : SqL K H a vs → RepL K H vs ds → Rep K H (.ref a) (.lst ds)
  | exc {a dx : Addr} {x : Str} {ns : List Str} {vs : List V} {ds : List D} : H dx = some (.xd (ns.zip vs)) → ns.length = vs.length → RepL K H vs ds → Rep K H (.ref a) (.exc a x dx ns ds)
  | tpl {a : Addr} {o : Obj} {vs : List V} {ds : List D} : H a = some (.frz o (.tup vs)) → o.dict = none → RepL K H vs ds → Rep K H (.ref a) (.tpl ds)
  | dct {a : Addr} {ks : List Key} {vs : List V} {ds : List D} : H a = some (.dK (ks.zip vs)) → ks.length = vs.length → RepL K H vs ds → Rep K H (.ref a) (.dct ks ds)
inductive RepL (K : PySem.W.Frag) (H : Hp) : List V → List D → Prop
  | nil : RepL K H [] []
  | cons {v : V} {vs : List V} {d : D} {ds : List D} : Rep K H v d → RepL K H vs ds → RepL K H (v :: vs) (d :: ds)
end

theorem sqt_mono {K : PySem.W.Frag} {H H' : Hp} {a : Addr} {xs : List V} (e : Same H H') (h : SqT K H a xs) : SqT K H' a xs := by
  rcases h with (h | ⟨o, h⟩) | h
  · exact .inl (.inl (e _ _ h))
  · exact .inl (.inr ⟨o, e _ _ h⟩)
  · exact .inr h

mutual
theorem Rep.mono {K : PySem.W.Frag} {H H' : Hp} (e : Same H H') : ∀ (d : D) (v : V), Rep K H v d → Rep K H' v d
  | .non, _, h => by cases h; exact .non
  | .bl b, _, h => by cases h; exact .bl b
  | .int i, _, h => by cases h; exact .int i
  | .str x, _, h => by cases h; exact .str x
  | .ty n, _, h => by cases h; exact .ty n
  | .tok a, _, h => by cases h; exact .tok a
  | .tup ds, _, h => by
    cases h with
    | tup hs ha => exact .tup (sqt_mono e hs) (RepL.mono e ds _ ha)
  | .lst ds, _, h => by
    cases h with
    | lst hs ha => exact .lst (e.seq hs) (RepL.mono e ds _ ha)
  | .exc a x dx ns ds, _, h => by
    cases h with
    | exc hx hl ha => exact .exc (e _ _ hx) hl (RepL.mono e ds _ ha)
  | .tpl ds, _, h => by
    cases h with
    | tpl hx hl ha => exact .tpl (e _ _ hx) hl (RepL.mono e ds _ ha)
  | .dct ks ds, _, h => by
    cases h with
    | dct hx hl ha => exact .dct (e _ _ hx) hl (RepL.mono e ds _ ha)
theorem RepL.mono {K : PySem.W.Frag} {H H' : Hp} (e : Same H H') : ∀ (ds : List D) (vs : List V), RepL K H vs ds → RepL K H' vs ds
  | [], _, h => by cases h; exact .nil
  | d :: ds, _, h => by
    cases h with
    | cons h1 h2 => exact .cons (Rep.mono e d _ h1) (RepL.mono e ds _ h2)
end
theorem Rep.up {K : PySem.W.Frag} {H H' : Hp} {v : V} {d : D} (h : Rep K H v d) (e : Same H H') : Rep K H' v d := Rep.mono e d v h
theorem RepL.up {K : PySem.W.Frag} {H H' : Hp} {v : List V} {d : List D} (h : RepL K H v d) (e : Same H H') : RepL K H' v d := RepL.mono e d v h
theorem RepL.len {K : PySem.W.Frag} {H : Hp} : ∀ {vs : List V} {ds : List D}, RepL K H vs ds → vs.length = ds.length
  | _, _, .nil => rfl
  | _, _, .cons _ r => by rw [List.length_cons, List.length_cons, r.len]
theorem RepL.app {K : PySem.W.Frag} {H : Hp} : ∀ {vs ws : List V} {ds es : List D}, RepL K H vs ds → RepL K H ws es → RepL K H (vs ++ ws) (ds ++ es)
  | _, _, _, _, .nil, s => s
  | _, _, _, _, .cons r t, s => .cons r (RepL.app t s)
theorem RepL.get {K : PySem.W.Frag} {H : Hp} : ∀ {vs : List V} {ds : List D} {i : Nat} {d : D}, RepL K H vs ds → ds[i]? = some d → ∃ v, vs[i]? = some v ∧ Rep K H v d
  | _, _, i, d, .nil, e => by simp at e
  | _, _, 0, d, .cons r t, e => by
    obtain rfl : _ = d := Option.some.inj e
    exact ⟨_, rfl, r⟩
  | _, _, i + 1, d, .cons r t, e => t.get (i := i) e
theorem RepL.getV {K : PySem.W.Frag} {H : Hp} : ∀ {vs : List V} {ds : List D} {i : Nat} {v : V}, RepL K H vs ds → vs[i]? = some v → ∃ d, ds[i]? = some d ∧ Rep K H v d
  | _, _, i, d, .nil, e => by simp at e
  | _, _, 0, d, .cons r t, e => by
    obtain rfl : _ = d := Option.some.inj e
    exact ⟨_, rfl, r⟩
  | _, _, i + 1, d, .cons r t, e => t.getV (i := i) e
theorem RepL.set {K : PySem.W.Frag} {H : Hp} {v : V} {d : D} (r : Rep K H v d) : ∀ {vs : List V} {ds : List D} (i : Nat), RepL K H vs ds → RepL K H (vs.set i v) (ds.set i d)
  | _, _, _, .nil => .nil
  | _, _, 0, .cons _ t => .cons r t
  | _, _, i + 1, .cons q t => .cons q (RepL.set r i t)
theorem RepL.take {K : PySem.W.Frag} {H : Hp} : ∀ {vs : List V} {ds : List D} (n : Nat), RepL K H vs ds → RepL K H (vs.take n) (ds.take n)
  | _, _, 0, _ => .nil
  | _, _, n + 1, .nil => .nil
  | _, _, n + 1, .cons r t => .cons r (RepL.take n t)
theorem RepL.drop {K : PySem.W.Frag} {H : Hp} : ∀ {vs : List V} {ds : List D} (n : Nat), RepL K H vs ds → RepL K H (vs.drop n) (ds.drop n)
  | _, _, 0, r => r
  | _, _, n + 1, .nil => .nil
  | _, _, n + 1, .cons _ t => RepL.drop n t
theorem RepL.ints {K : PySem.W.Frag} {H : Hp} : ∀ {vs : List V} {ns : List Int}, RepL K H vs (ns.map D.int) → vs = ns.map V.int
  | _, [], h => by cases h; rfl
  | _, n :: ns, h => by
    cases h with
    | cons r t =>
      cases r
      rw [List.map_cons, RepL.ints t]
theorem RepL.ofInts {K : PySem.W.Frag} {H : Hp} : ∀ (ns : List Int), RepL K H (ns.map V.int) (ns.map D.int)
  | [] => .nil
  | n :: ns => .cons (.int n) (RepL.ofInts ns)
theorem RepL.strs {K : PySem.W.Frag} {H : Hp} : ∀ {vs : List V} {ns : List Str}, RepL K H vs (ns.map D.str) → vs = ns.map V.str
  | _, [], h => by cases h; rfl
  | _, n :: ns, h => by
    cases h with
    | cons r t =>
      cases r
      rw [List.map_cons, RepL.strs t]
theorem RepL.ofStrs {K : PySem.W.Frag} {H : Hp} : ∀ (ns : List Str), RepL K H (ns.map V.str) (ns.map D.str)
  | [] => .nil
  | n :: ns => .cons (.str n) (RepL.ofStrs ns)
theorem RepL.bls {K : PySem.W.Frag} {H : Hp} : ∀ {vs : List V} {ns : List Bool}, RepL K H vs (ns.map D.bl) → vs = ns.map V.bl
  | _, [], h => by cases h; rfl
  | _, n :: ns, h => by
    cases h with
    | cons r t =>
      cases r
      rw [List.map_cons, RepL.bls t]

/-! ### the store of what may change -/
inductive Cell where
  | aux | drw (a0 : Addr) | lst (ds : List D) | ins (C : Addr) (fs : List (Str × D))
  /-- a dict: its keys, its values -/
  | dic (ks : List Key) (ds : List D)
abbrev Mp := Addr → Option Cell
/-- what never changes: neither in the store nor hidden (Z) -/
def fz (Z H : Hp) (M : Mp) : Hp := fun a => match M a, Z a with
  | none, none => H a
  | _, _ => none
def setM (M : Mp) (a : Addr) (c : Cell) : Mp := fun b => if b = a then some c else M b
theorem setM_same {M : Mp} {a : Addr} {c : Cell} : setM M a c a = some c := if_pos rfl
theorem setM_ne {M : Mp} {a b : Addr} {c : Cell} (h : b ≠ a) : setM M a c b = M b := if_neg h
theorem fz_none {Z H : Hp} {M : Mp} {a : Addr} (h : M a = none) (z : Z a = none) : fz Z H M a = H a := by
  unfold fz
  rw [h, z]
theorem fz_some {Z H : Hp} {M : Mp} {a : Addr} {c : Cell} (h : M a = some c) : fz Z H M a = none := by
  unfold fz
  rw [h]
theorem fz_hid {Z H : Hp} {M : Mp} {a : Addr} {o : HO} (h : Z a = some o) : fz Z H M a = none := by
  unfold fz
  rw [h]
  split <;> first | rfl | contradiction
theorem fz_is {Z H : Hp} {M : Mp} {a : Addr} {o : HO} (h : fz Z H M a = some o) : M a = none ∧ Z a = none ∧ H a = some o := by
  cases q : M a with
  | some c =>
    rw [fz_some q] at h
    cases h
  | none =>
    cases q2 : Z a with
    | some u =>
      rw [fz_hid q2] at h
      cases h
    | none =>
      rw [fz_none q q2] at h
      exact ⟨rfl, rfl, h⟩
theorem fz_to {Z H : Hp} {M : Mp} {a : Addr} {o : HO} (h1 : M a = none) (h2 : Z a = none) (h : H a = some o) : fz Z H M a = some o := by
  rw [fz_none h1 h2]
  exact h
theorem fz_sub {Z H : Hp} {M : Mp} : Same (fz Z H M) H := fun _ _ e => (fz_is e).2.2
def RepF (K : PySem.W.Frag) (H : Hp) (fv : List (Str × V)) (fs : List (Str × D)) : Prop := fv.map (·.1) = fs.map (·.1) ∧ RepL K H (fv.map (·.2)) (fs.map (·.2))
/-- the numbers of the draws -/
def DrawOk (H : Hp) (a a0 : Addr) : Prop := ∃ (cs : List Int) (s : Int), H a = some (.lst [.ref a0, .int s]) ∧ H a0 = some (.lst (cs.map V.int)) ∧ 0 ≤ s ∧ s < 4294967296 ∧ cs.length ≤ 100 ∧ ∀ c ∈ cs, 0 ≤ c
def CellOk (K : PySem.W.Frag) (Z H : Hp) (M : Mp) (a : Addr) : Cell → Prop
  | .lst ds => ∃ vs, H a = some (.lst vs) ∧ RepL K (fz Z H M) vs ds
  | .drw a0 => M a0 = some .aux ∧ DrawOk H a a0
  | .aux => ∃ o, H a = some o
  | .ins C fs => ∃ dx fv, H a = some (.ins C dx fv) ∧ RepF K (fz Z H M) fv fs
  | .dic ks ds => ∃ vs, H a = some (.dK (ks.zip vs)) ∧ ks.length = vs.length ∧ RepL K (fz Z H M) vs ds
structure Sat (K : PySem.W.Frag) (Z : Hp) (H : Hp) (M : Mp) : Prop where
  cell : ∀ a c, M a = some c → CellOk K Z H M a c
  zed : ∀ a o, Z a = some o → H a = some o ∧ M a = none
theorem Sat.there {K : PySem.W.Frag} {Z : Hp} {H : Hp} {M : Mp} {a : Addr} {c : Cell} (S : Sat K Z H M) (h : M a = some c) : ∃ o, H a = some o := by
  have q := S.cell a c h
  cases c with
  | aux => exact q
  | drw a0 => obtain ⟨_, cs, s, e, _⟩ := q; exact ⟨_, e⟩
  | lst ds => obtain ⟨vs, e, _⟩ := q; exact ⟨_, e⟩
  | ins C fs => obtain ⟨dx, fv, e, _⟩ := q; exact ⟨_, e⟩
  | dic ks ds => obtain ⟨vs, e, _⟩ := q; exact ⟨_, e⟩
theorem Sat.free {K : PySem.W.Frag} {Z : Hp} {H : Hp} {M : Mp} {a : Addr} (S : Sat K Z H M) (h : H a = none) : M a = none := by
  cases q : M a with
  | none => rfl
  | some c =>
    obtain ⟨o, e⟩ := S.there q
    rw [h] at e
    cases e
theorem Sat.freeZ {K : PySem.W.Frag} {Z : Hp} {H : Hp} {M : Mp} {a : Addr} (S : Sat K Z H M) (h : H a = none) : Z a = none := by
  cases q : Z a with
  | none => rfl
  | some c =>
    have e := (S.zed a c q).1
    rw [h] at e
    cases e
theorem RepF.up {K : PySem.W.Frag} {H H' : Hp} {v : List (Str × V)} {d : List (Str × D)} (h : RepF K H v d) (e : Same H H') : RepF K H' v d := ⟨h.1, h.2.up e⟩
/-- a step: the heap and the store behind it -/
structure Go (K : PySem.W.Frag) (Z : Hp) (H : Hp) (M : Mp) (H' : Hp) (M' : Mp) : Prop where
  sat : Sat K Z H' M'
  ex : Same (fz Z H M) (fz Z H' M')
theorem Go.refl {K : PySem.W.Frag} {Z : Hp} {H : Hp} {M : Mp} (S : Sat K Z H M) : Go K Z H M H M := ⟨S, Same.refl _⟩
theorem Go.trans {K : PySem.W.Frag} {Z : Hp} {H H1 H2 : Hp} {M M1 M2 : Mp} (a : Go K Z H M H1 M1) (b : Go K Z H1 M1 H2 M2) : Go K Z H M H2 M2 := ⟨b.sat, a.ex.trans b.ex⟩
/-- a cell whose object stands as it stood -/
theorem CellOk.same {K : PySem.W.Frag} {Z Z' : Hp} {H H' : Hp} {M M' : Mp} {a : Addr} {c : Cell} (q : CellOk K Z H M a c) (ex : Same (fz Z H M) (fz Z' H' M')) (ha : ∀ o, H a = some o → H' a = some o)
    (aux : ∀ b, M b = some .aux → M' b = some .aux ∧ ∀ o, H b = some o → H' b = some o) : CellOk K Z' H' M' a c := by
  cases c with
  | aux =>
    obtain ⟨o, e⟩ := q
    exact ⟨o, ha o e⟩
  | drw a0 =>
    obtain ⟨m0, cs, s, e, e0, r⟩ := q
    obtain ⟨m1, k⟩ := aux a0 m0
    exact ⟨m1, cs, s, ha _ e, k _ e0, r⟩
  | lst ds =>
    obtain ⟨vs, e, r⟩ := q
    exact ⟨vs, ha _ e, r.up ex⟩
  | ins C fs =>
    obtain ⟨dx, fv, e, r⟩ := q
    exact ⟨dx, fv, ha _ e, r.up ex⟩
  | dic ks ds =>
    obtain ⟨vs, e, l, r⟩ := q
    exact ⟨vs, ha _ e, l, r.up ex⟩
/-- a new object that never changes -/
theorem Go.laid {K : PySem.W.Frag} {Z : Hp} {H : Hp} {M : Mp} {p : Addr} {o : HO} (S : Sat K Z H M) (hp : H p = none) : Go K Z H M (upd H p o) M ∧ fz Z (upd H p o) M p = some o := by
  have hm := S.free hp
  have hz := S.freeZ hp
  have up : ∀ b u, H b = some u → upd H p o b = some u := fun b u e => by
    rw [upd_ne (ne_of_none e hp)]
    exact e
  have ex : Same (fz Z H M) (fz Z (upd H p o) M) := fun b u e => fz_to (fz_is e).1 (fz_is e).2.1 (up b u (fz_is e).2.2)
  exact ⟨⟨⟨fun a c h => (S.cell a c h).same ex (up a) fun b e => ⟨e, up b⟩, fun a u h => ⟨up a u (S.zed a u h).1, (S.zed a u h).2⟩⟩, ex⟩, fz_to hm hz upd_same⟩
/-- a list of the store: new, or changed -/
theorem Go.putL {K : PySem.W.Frag} {Z : Hp} {H : Hp} {M : Mp} {p : Addr} {vs : List V} {ds : List D} (S : Sat K Z H M) (hp : (H p = none) ∨ ∃ es, M p = some (.lst es)) (r : RepL K (fz Z H M) vs ds) : Go K Z H M (upd H p (.lst vs)) (setM M p (.lst ds)) := by
  have hz : Z p = none := by
    rcases hp with h | ⟨es, h⟩
    · exact S.freeZ h
    · cases q : Z p with
      | none => rfl
      | some u =>
        have e := (S.zed p u q).2
        rw [h] at e
        cases e
  have hf : ∀ u, fz Z H M p ≠ some u := fun u e => by
    obtain ⟨e1, _, e2⟩ := fz_is e
    rcases hp with h | ⟨es, h⟩
    · rw [h] at e2
      cases e2
    · rw [h] at e1
      cases e1
  have hx : M p ≠ some .aux := fun e => by
    rcases hp with h | ⟨es, h⟩
    · obtain ⟨o, e'⟩ := S.there e
      rw [h] at e'
      cases e'
    · rw [h] at e
      cases e
  have ex : Same (fz Z H M) (fz Z (upd H p (.lst vs)) (setM M p (.lst ds))) := fun b u e => by
    have hb : b ≠ p := fun z => by
      subst z
      exact hf u e
    obtain ⟨e1, e2, e3⟩ := fz_is e
    exact fz_to (by rw [setM_ne hb]; exact e1) e2 (by rw [upd_ne hb]; exact e3)
  have aux : ∀ b, M b = some .aux → setM M p (.lst ds) b = some .aux ∧ ∀ o, H b = some o → upd H p (.lst vs) b = some o := fun b e => by
    have hb : b ≠ p := fun z => by
      subst z
      exact hx e
    exact ⟨by rw [setM_ne hb]; exact e, fun o q => by rw [upd_ne hb]; exact q⟩
  refine ⟨⟨fun a c h => ?_, fun a u h => ?_⟩, ex⟩
  · by_cases ha : a = p
    · subst ha
      rw [setM_same] at h
      cases h
      exact ⟨vs, upd_same, r.up ex⟩
    · rw [setM_ne ha] at h
      exact (S.cell a c h).same ex (fun o q => by rw [upd_ne ha]; exact q) aux
  · have ha : a ≠ p := fun z => by
      subst z
      rw [hz] at h
      cases h
    exact ⟨by rw [upd_ne ha]; exact (S.zed a u h).1, by rw [setM_ne ha]; exact (S.zed a u h).2⟩
/-- a draw: the two lists of the numbers change -/
theorem Go.drawn {K : PySem.W.Frag} {Z : Hp} {H H' : Hp} {M : Mp} {a a0 : Addr} (S : Sat K Z H M) (hp : M a = some (.drw a0)) (k : ∀ b o, b ≠ a → b ≠ a0 → H b = some o → H' b = some o) (q : DrawOk H' a a0) : Go K Z H M H' M := by
  obtain ⟨m0, _⟩ := S.cell a _ hp
  have ex : Same (fz Z H M) (fz Z H' M) := fun b u e => by
    obtain ⟨e1, e2, e3⟩ := fz_is e
    have h1 : b ≠ a := fun z => by
      subst z
      rw [hp] at e1
      cases e1
    have h2 : b ≠ a0 := fun z => by
      subst z
      rw [m0] at e1
      cases e1
    exact fz_to e1 e2 (k b _ h1 h2 e3)
  refine ⟨⟨fun b c h => ?_, fun b u h => ?_⟩, ex⟩
  · by_cases h1 : b = a
    · subst h1
      rw [hp] at h
      cases h
      exact ⟨m0, q⟩
    · by_cases h2 : b = a0
      · subst h2
        rw [m0] at h
        cases h
        obtain ⟨cs', s', _, e0', _⟩ := q
        exact ⟨_, e0'⟩
      · cases c with
        | drw b0 =>
          obtain ⟨n0, cs, s, e, e0, r⟩ := S.cell b _ h
          refine ⟨n0, ?_⟩
          by_cases h3 : b0 = a0
          · subst h3
            obtain ⟨cs', s', _, e0', _, _, l', g'⟩ := q
            exact ⟨cs', s, k b _ h1 h2 e, e0', r.1, r.2.1, l', g'⟩
          · have h4 : b0 ≠ a := fun z => by
              subst z
              rw [hp] at n0
              cases n0
            exact ⟨cs, s, k b _ h1 h2 e, k b0 _ h4 h3 e0, r⟩
        | lst ds =>
          obtain ⟨vs, e, r⟩ := S.cell b _ h
          exact ⟨vs, k b _ h1 h2 e, r.up ex⟩
        | aux =>
          obtain ⟨o, e⟩ := S.cell b _ h
          exact ⟨o, k b _ h1 h2 e⟩
        | ins C fs =>
          obtain ⟨dx, fv, e, r⟩ := S.cell b _ h
          exact ⟨dx, fv, k b _ h1 h2 e, r.up ex⟩
        | dic ks ds =>
          obtain ⟨vs, e, l, r⟩ := S.cell b _ h
          exact ⟨vs, k b _ h1 h2 e, l, r.up ex⟩
  · obtain ⟨e1, e2⟩ := S.zed b u h
    have h1 : b ≠ a := fun z => by
      subst z
      rw [hp] at e2
      cases e2
    have h2 : b ≠ a0 := fun z => by
      subst z
      rw [m0] at e2
      cases e2
    exact ⟨k b _ h1 h2 e1, e2⟩
def delM (M : Mp) (p : Addr) : Mp := fun b => if b = p then none else M b
/-- a list of the store is let go: it never changes again -/
theorem Go.frozen {K : PySem.W.Frag} {Z : Hp} {H : Hp} {M : Mp} {p : Addr} {es : List D} (S : Sat K Z H M) (hp : M p = some (.lst es)) :
    Go K Z H M H (delM M p) ∧ ∃ vs, fz Z H (delM M p) p = some (.lst vs) ∧ RepL K (fz Z H (delM M p)) vs es := by
  have nm : ∀ {b : Addr}, M b = none → delM M p b = none := fun {b} e => by
    unfold delM
    split <;> first | rfl | exact e
  have sm : ∀ {b : Addr} {c : Cell}, delM M p b = some c → M b = some c := fun {b c} e => by
    unfold delM at e
    split at e
    · cases e
    · exact e
  have ex : Same (fz Z H M) (fz Z H (delM M p)) := fun b u e => fz_to (nm (fz_is e).1) (fz_is e).2.1 (fz_is e).2.2
  have aux : ∀ b, M b = some .aux → delM M p b = some .aux ∧ ∀ o, H b = some o → H b = some o := fun b e => by
    have hb : b ≠ p := fun z => by
      subst z
      rw [hp] at e
      cases e
    exact ⟨by unfold delM; rw [if_neg hb]; exact e, fun _ q => q⟩
  have hz : Z p = none := by
    cases q : Z p with
    | none => rfl
    | some u =>
      have e := (S.zed p u q).2
      rw [hp] at e
      cases e
  refine ⟨⟨⟨fun a c h => (S.cell a c (sm h)).same ex (fun _ q => q) aux, fun a u h => ⟨(S.zed a u h).1, nm (S.zed a u h).2⟩⟩, ex⟩, ?_⟩
  obtain ⟨vs, e, r⟩ := S.cell p _ hp
  exact ⟨vs, fz_to (by unfold delM; rw [if_pos rfl]) hz e, r.up ex⟩
/-- an object is hidden while something else runs; it is another one then, or is shown again -/
theorem Sat.swap {K : PySem.W.Frag} {Z Z' : Hp} {H H' : Hp} {M : Mp} {p : Addr} (S : Sat K Z H M) (hm : M p = none) (hf : fz Z H M p = none) (hH : ∀ b, b ≠ p → H' b = H b) (hZ : ∀ b, b ≠ p → Z' b = Z b) (hq : ∀ o, Z' p = some o → H' p = some o) : Sat K Z' H' M ∧ Same (fz Z H M) (fz Z' H' M) := by
  have ex : Same (fz Z H M) (fz Z' H' M) := fun b v e => by
    have hb : b ≠ p := fun z => by
      subst z
      rw [hf] at e
      cases e
    obtain ⟨e1, e2, e3⟩ := fz_is e
    exact fz_to e1 (by rw [hZ b hb]; exact e2) (by rw [hH b hb]; exact e3)
  have ne : ∀ {b : Addr} {c : Cell}, M b = some c → b ≠ p := fun {b c} e z => by
    subst z
    rw [hm] at e
    cases e
  refine ⟨⟨fun a c h => (S.cell a c h).same ex (fun o q => by rw [hH a (ne h)]; exact q) fun b e => ⟨e, fun o q => by rw [hH b (ne e)]; exact q⟩, fun a v h => ?_⟩, ex⟩
  by_cases ha : a = p
  · subst ha
    exact ⟨hq v h, hm⟩
  · rw [hZ a ha] at h
    exact ⟨by rw [hH a ha]; exact (S.zed a v h).1, (S.zed a v h).2⟩

/-! ### readings over data -/
abbrev En := List (Option D)
abbrev KD := D → Mp → Prop
abbrev WE := En → Mp → KD → Prop
abbrev WT := En → Mp → (Bool → Mp → Prop) → Prop
abbrev WA := En → Mp → (List D → Mp → Prop) → Prop
/-- what is wished of what is raised: its class, its dict, its fields' names and values, the environment -/
abbrev XV := List Str × List D
abbrev XR := Str → Addr → XV → En → Mp → Prop
abbrev XF := Str → XV → Mp → Prop
/-- the class that a name of the module holds -/
def ClsAt (K : PySem.W.Frag) (x : Str) (C : Addr) : Prop := PySem.W.nsIn K mainGlobals x = some (some (.ref C))
/-- .. behind a def -/
def lx (R : XF) : XR := fun x _ fs _ M => R x fs M
abbrev WX3 := Value → Option Addr → L2.St → Hp → Prop
structure Ends3 where
  nx : En → Mp → Prop
  rt : KD
  bk : En → Mp → Prop := fun _ _ => False
  ct : En → Mp → Prop := fun _ _ => False
  xr : XR := fun _ _ _ _ _ => False
abbrev WS := Ends3 → En → Mp → Prop
/-- the slots hold what the environment says -/
def RelS (K : PySem.W.Frag) (Hf : Hp) (σ : L2.St) (ρ : En) : Prop := σ.length = ρ.length ∧ ∀ (i : Nat) (d : D), ρ[i]? = some (some d) → ∃ v, σ[i]? = some (some v) ∧ Rep K Hf v d
theorem RelS.up {K : PySem.W.Frag} {H H' : Hp} {σ : L2.St} {ρ : En} (h : RelS K H σ ρ) (e : Same H H') : RelS K H' σ ρ := ⟨h.1, fun i d q => by
  obtain ⟨v, a, b⟩ := h.2 i d q
  exact ⟨v, a, b.up e⟩⟩
theorem RelS.set {K : PySem.W.Frag} {H : Hp} {σ : L2.St} {ρ : En} {v : V} {d : D} (h : RelS K H σ ρ) (j : Nat) (r : Rep K H v d) : RelS K H (σ.set j (some v)) (ρ.set j (some d)) := by
  refine ⟨by rw [List.length_set, List.length_set]; exact h.1, fun i e q => ?_⟩
  by_cases hij : i = j
  · subst hij
    have hl : i < ρ.length := by
      rcases Nat.lt_or_ge i ρ.length with z | z
      · exact z
      · rw [List.getElem?_eq_none (by rw [List.length_set]; exact z)] at q
        cases q
    rw [List.getElem?_set_self hl] at q
    cases q
    exact ⟨v, List.getElem?_set_self (by rw [h.1]; exact hl), r⟩
  · rw [List.getElem?_set_ne (Ne.symm hij)] at q
    obtain ⟨u, a, b⟩ := h.2 i e q
    exact ⟨u, by rw [List.getElem?_set_ne (Ne.symm hij)]; exact a, b⟩
structure R3 (K : PySem.W.Frag) (Z : Hp) (ρ : En) (M : Mp) (σ : L2.St) (H : Hp) : Prop where
  sat : Sat K Z H M
  env : RelS K (fz Z H M) σ ρ
theorem R3.go {K : PySem.W.Frag} {Z : Hp} {ρ : En} {M M' : Mp} {σ : L2.St} {H H' : Hp} (r : R3 K Z ρ M σ H) (g : Go K Z H M H' M') : R3 K Z ρ M' σ H' := ⟨g.sat, r.env.up g.ex⟩
theorem R3.refl {K : PySem.W.Frag} {Z : Hp} {ρ : En} {M : Mp} {σ : L2.St} {H : Hp} (r : R3 K Z ρ M σ H) : Go K Z H M H M := Go.refl r.sat

def SimE (K : PySem.W.Frag) (t : TE) (w : WE) : Prop := ∀ (Z : Hp) (ρ : En) (M : Mp) (σ : L2.St) (H : Hp) (Q : KD) (Q' : VK), R3 K Z ρ M σ H → w ρ M Q → (∀ v d H' M', Go K Z H M H' M' → Rep K (fz Z H' M') v d → Q d M' → Q' v H') → t σ H Q'
def SimT (K : PySem.W.Frag) (t : TT) (w : WT) : Prop := ∀ (Z : Hp) (ρ : En) (M : Mp) (σ : L2.St) (H : Hp) (Q : Bool → Mp → Prop) (Q' : Bool → Hp → Prop), R3 K Z ρ M σ H → w ρ M Q → (∀ b H' M', Go K Z H M H' M' → Q b M' → Q' b H') → t σ H Q'
def SimA (K : PySem.W.Frag) (t : TA) (w : WA) : Prop := ∀ (Z : Hp) (ρ : En) (M : Mp) (σ : L2.St) (H : Hp) (Q : List D → Mp → Prop) (Q' : List V → Hp → Prop), R3 K Z ρ M σ H → w ρ M Q → (∀ v d H' M', Go K Z H M H' M' → RepL K (fz Z H' M') v d → Q d M' → Q' v H') → t σ H Q'
structure EndsRel (K : PySem.W.Frag) (Z : Hp) (E : WX3) (H : Hp) (M : Mp) (D3 : Ends3) (D : Ends) : Prop where
  nx : ∀ ρ' M' σ' H', R3 K Z ρ' M' σ' H' → Go K Z H M H' M' → D3.nx ρ' M' → D.nx σ' H'
  rt : ∀ v d H' M', Go K Z H M H' M' → Rep K (fz Z H' M') v d → D3.rt d M' → D.rt v H'
  bk : ∀ ρ' M' σ' H', R3 K Z ρ' M' σ' H' → Go K Z H M H' M' → D3.bk ρ' M' → D.bk σ' H'
  ct : ∀ ρ' M' σ' H', R3 K Z ρ' M' σ' H' → Go K Z H M H' M' → D3.ct ρ' M' → D.ct σ' H'
  xr : ∀ x C dx vs (fs : XV) ρ' σ' H' M', ClsAt K x C → R3 K Z ρ' M' σ' H' → Go K Z H M H' M' → fz Z H' M' dx = some (.xd (fs.1.zip vs)) → fs.1.length = vs.length → RepL K (fz Z H' M') vs fs.2 → D3.xr x dx fs ρ' M' → E (.ref C) (some dx) σ' H'
theorem EndsRel.go {K : PySem.W.Frag} {Z : Hp} {E : WX3} {H H' : Hp} {M M' : Mp} {D3 : Ends3} {D : Ends} (r : EndsRel K Z E H M D3 D) (g : Go K Z H M H' M') : EndsRel K Z E H' M' D3 D :=
  ⟨fun ρ N σ J a b c => r.nx ρ N σ J a (g.trans b) c, fun v d J N a b c => r.rt v d J N (g.trans a) b c, fun ρ N σ J a b c => r.bk ρ N σ J a (g.trans b) c, fun ρ N σ J a b c => r.ct ρ N σ J a (g.trans b) c,
    fun x C dx vs fs ρ σ J N k q a b l c z => r.xr x C dx vs fs ρ σ J N k q (g.trans a) b l c z⟩
def SimS (K : PySem.W.Frag) (E : WX3) (t : TS) (w : WS) : Prop := ∀ (Z : Hp) (D3 : Ends3) (ρ : En) (M : Mp) (σ : L2.St) (H : Hp) (D : Ends), R3 K Z ρ M σ H → w D3 ρ M → EndsRel K Z E H M D3 D → t D σ H

structure DE (X : Cx) (e : Expr) (t : TE) (w : WE) : Prop where
  pe : PE X e t
  sm : SimE X.K t w
structure DT (X : Cx) (e : Expr) (t : TT) (w : WT) : Prop where
  pe : PT X e t
  sm : SimT X.K t w
structure DW (X : Cx) (e : Expr) (t : TT) (w : WT) : Prop where
  pe : PW X e t
  sm : SimT X.K t w
structure DA (X : Cx) (e : List Expr) (t : TA) (w : WA) : Prop where
  pe : PA X e t
  sm : SimA X.K t w
structure DS (X : Cx) (E : WX3) (st : Stmt) (t : TS) (w : WS) : Prop where
  pe : PS X st t
  sm : SimS X.K E t w
structure DSs (X : Cx) (E : WX3) (st : List Stmt) (t : TS) (w : WS) : Prop where
  pe : PSs X st t
  sm : SimS X.K E t w
end L3
namespace L3
open PySem L2
open PyProof.Rows (envOfC)
/-! ### defs, called where nothing is being shown -/
structure FnG (P : Program) (w : World) (K : PySem.W.Frag) (mg : Str → Option Value) (base : Heap) (k : Nat) (f : Addr) (fd : FuncData) (ps : List Str) (sp : Sp) : Prop where
  len : ∀ vs H Q E, sp vs H Q E → vs.length = ps.length
  run : ∀ (A : Around) (outer : List Env) (s : Shared) (H : Hp) (args : Args) (us : List Value) (vs : List V) (Q : VK) (E : XK), A.guards = some [] → Room k A → Env0 P w K mg base A outer s H → BindsTo s fd args (ps.zip us) → Vals vs us → sp vs H Q E →
    codeAny (model P w) A (.call (.ref f) args) (CR (L2.CX P w) outer P w H s Q E) s
theorem FnG.mono {P : Program} {w : World} {K : PySem.W.Frag} {mg : Str → Option Value} {base : Heap} {j k : Nat} {f : Addr} {fd : FuncData} {ps : List Str} {sp : Sp} (F : FnG P w K mg base j f fd ps sp) (h : j ≤ k) : FnG P w K mg base k f fd ps sp :=
  ⟨F.len, fun A o s H ar us vs Q E g hr => F.run A o s H ar us vs Q E g (hr.mono h)⟩
section
variable {P : Program} {w : World} {K : PySem.W.Frag} {mg : Str → Option Value} {base : Heap}
theorem fn_g {x qual : Str} {st : Stmt} {f : Addr} {fd : FuncData} {N ps : List Str} {k : Nat} {sp : Sp} (F : Fun K x qual st f fd) (S : FnScope N ps (defScope st)) (len : ∀ vs H Q E, sp vs H Q E → vs.length = ps.length)
    (body : ∀ (cdv : Value) (A : Around) (outer : List Env) (s : Shared) (H : Hp) (vs : List V) (Q : VK) (E : XK), A.guards = some [] → Room k (A.deeper (envOfC qual (defScope st) s.heap.objs.size f cdv)) → sp vs H Q E →
      ∃ t, PSs (cxOf (L2.CX P w) P w K mg base N qual (defScope st) f cdv A outer s H E) (defBody st) t ∧ t { nx := fun _ J => Q .non J, rt := Q } (L2.start N vs) H) : FnG P w K mg base (k + 1) f fd ps sp := by
  obtain ⟨oc, od, kV, doc, pm, an, cdv, ct, osl, rfl, lk, hcd⟩ := F.ex
  refine ⟨len, fun A outer s H args us vs Q E gd hr e0 hb r hs => ?_⟩
  have hlen := len _ _ _ _ hs
  have kin : K.In s.heap := e0.mod.kin.keeps fun b o e => (e0.bs b o e).1
  have nol : s.heap.NoLimit := e0.mod.nolimit.keeps fun b o e => (e0.bs b o e).1
  have kinds : ∀ y ∈ ps.zip us, (defScope st).names.lookup y.1 = some .local ∨ ((defScope st).names.lookup y.1 = some .cell ∧ ((cellsFrom (s.heap.objs.size + 1) (defScope st).names []).lookup y.1).isSome = true) := fun ⟨n, v⟩ hy => by
    rcases S.par n (List.of_mem_zip hy).1 with z | z
    · exact .inl z
    · exact .inr ⟨z, PySem.W.cellsFrom_some _ _ _ (.inl z)⟩
  refine codeAny_call_function hr.depth (kin _ _ lk) rfl S.co S.gen rfl (PySem.W.codeRec_of kin hcd) (hb _ _ _ _ ?_)
  refine wpAny_newFunctionEnv_cells S.kind kinds fun env he s1 c => ?_
  subst he
  refine ⟨nol.keeps c.toInCall.keep, codeAny_func ?_⟩
  obtain ⟨t, ht, hq⟩ := body cdv A outer s H vs Q E gd (hr.deeper _) hs
  have I : Inv (cxOf (L2.CX P w) P w K mg base N qual (defScope st) f cdv A outer s H E) [] (L2.start N vs) H s1 := inv_start S hr.hd e0 hlen r c
  refine wpAny_mono (ht.run [] s1 (L2.start N vs) H _ I hq) (fun fl s' hz => ?_) fun e s' hz => hz
  have fin : ∀ {σ' : L2.St} {H' : Hp} {v : V} {u : Value}, Inv (cxOf (L2.CX P w) P w K mg base N qual (defScope st) f cdv A outer s H E) [] σ' H' s' → RelV v u → Q v H' → CE outer P w H s Q u s' :=
    fun {σ' H' v u} J rv z => ⟨v, H', J.os, J.bare, J.base, J.hok, rv, z⟩
  cases fl with
  | ret u =>
    obtain ⟨v, σ', H', J, rv, z⟩ := hz
    exact fin J rv z
  | next =>
    obtain ⟨σ', H', J, z⟩ := hz
    exact fin (v := V.non) (u := Value.none) J rfl z
  | brk => exact (hz.elim fun _ h => h.elim fun _ h => h.2).elim
  | cont => exact (hz.elim fun _ h => h.elim fun _ h => h.2).elim
end
section
variable {X : Cx} {k : Nat} {f C : Addr} {fd : FuncData} {ps : List Str} {sp : Sp} {dvs : List V} {ds : List Value} {E : XK} {x m : Str} {p pos apos : Pos} {e o : Expr} {es : List Expr} {ta : TE} {t : TA}
theorem run_g {pins : List (Addr × Obj)} {σ : L2.St} {H : Hp} {s : Shared} {Q : VK} {us ws : List Value} {vs : List V} {kw : List (Str × Value)} (F : FnG X.prog X.w X.K X.mg X.base k f fd ps sp) (hr : Room k X.A) (gd : X.A.guards = some []) (hx : Passes (L2.CX X.prog X.w) X E)
    (I : Inv X pins σ H s) (hb : BindsTo s fd ⟨us, kw⟩ (ps.zip ws)) (r : Vals vs ws) (h : sp vs H Q E) : wpAny (model X.prog X.w) X.A (call (.ref f) us kw) (EP X pins σ Q) X.xe s := by
  refine wpAny_call (codeAny_mono (F.run X.A X.stack s H ⟨us, kw⟩ ws vs Q E gd hr I.env0 hb r h) fun rr s' hq => ?_)
  cases rr with
  | error er => exact hx pins σ H s er s' I hq
  | ok fl =>
    cases fl with
    | ret u => exact I.after hq
    | next => exact hq.elim
    | brk => exact hq.elim
    | cont => exact hq.elim
def tCallG (sp : Sp) (dvs : List V) (E : XK) (t : TA) : TE := fun σ H Q => t σ H fun vs J => sp (vs ++ dvs) J Q E
theorem pe_callG (F : FnG X.prog X.w X.K X.mg X.base k f fd ps sp) (hr : Room k X.A) (gd : X.A.guards = some []) (hg : Gl X x) (hm : X.mg x = some (.ref f)) (hk : PySem.W.keepIn X.K (.ref f) = true) (hb : Binds X.K fd ps ds) (hd : Vals dvs ds) (hx : Passes (L2.CX X.prog X.w) X E)
    (ha : PA X (e :: es) t) (hdb : (x == ("__debug__" : Str)) = false := by decide) (he : starEach (e :: es) X.env = (false, eval e X.env) :: starEach es X.env := by rfl) (hpl : (backTo pos (starEach es X.env)).any (·.1) = false := by rfl) :
    PE X (.Call (.Name x p) (e :: es) [] pos) (tCallG sp dvs E t) := by
  constructor
  intro pins s σ H Q I h
  refine wpAny_Call_Name_kw (ld_glob I hg hm ?_ hdb)
  refine PySem.W.callWith_K (h₀ := X.base) I.ok.mod.kin hk (thn (ha.run pos pins s σ H _ I h) fun us s1 ⟨vs, J, I1, r, q⟩ => ⟨I1.kIn, ?_⟩) he hpl
  have r2 : Vals (vs ++ dvs) (us ++ ds) := r.append hd
  have hl : (us ++ ds).length = ps.length := by rw [← r2.length]; exact F.len _ _ _ _ q
  exact run_g (us := us) (kw := []) F hr gd hx I1 (hb s1 us I1.kIn hl) r2 q
theorem pe_callG0 (F : FnG X.prog X.w X.K X.mg X.base k f fd ps sp) (hr : Room k X.A) (gd : X.A.guards = some []) (hg : Gl X x) (hm : X.mg x = some (.ref f)) (hk : PySem.W.keepIn X.K (.ref f) = true) (hb : Binds X.K fd ps ds) (hd : Vals dvs ds) (hx : Passes (L2.CX X.prog X.w) X E)
    (hdb : (x == ("__debug__" : Str)) = false := by decide) : PE X (.Call (.Name x p) [] [] pos) (tCallG sp dvs E tNil) := by
  constructor
  intro pins s σ H Q I h
  refine wpAny_Call_Name_kw (ld_glob I hg hm ?_ hdb)
  have r2 : Vals ([] ++ dvs) ([] ++ ds) := Vals.append .nil hd
  have hl : (([] : List Value) ++ ds).length = ps.length := by rw [← r2.length]; exact F.len _ _ _ _ h
  exact PySem.W.callWith_K0 I.kIn hk (run_g (us := []) (kw := []) F hr gd hx I (hb s [] I.kIn hl) r2 h)
/-- the parameters' values, each by its place among what is written: first the positional ones, then the keywords' -/
def perm (idx : List Nat) (vs zs : List V) : List V := idx.map fun i => (vs ++ zs).getD i .non
def permU (idx : List Nat) (vs zs : List Value) : List Value := idx.map fun i => (vs ++ zs).getD i .none
theorem perm_rel (idx : List Nat) {vs zs : List V} {us ws : List Value} (r : Vals vs us) (q : Vals zs ws) : Vals (perm idx vs zs) (permU idx us ws) := by
  have ra := r.append q
  unfold perm permU
  induction idx with
  | nil => exact .nil
  | cons i is ih =>
    refine .cons ?_ ih
    show RelV ((vs ++ zs).getD i .non) ((us ++ ws).getD i .none)
    rw [List.getD_eq_getElem?_getD, List.getD_eq_getElem?_getD]
    cases e : (vs ++ zs)[i]? with
    | none =>
      rw [ra.none_of e]
      rfl
    | some v =>
      obtain ⟨u, h1, h2⟩ := ra.get e
      rw [h1]
      exact h2
/-- how a call with keywords binds -/
def KB (K : PySem.W.Frag) (fd : FuncData) (ps : List Str) (n : Nat) (ks : List Str) (idx : List Nat) : Prop := ∀ (s : Shared) (us ws : List Value), K.In s.heap → us.length = n → ws.length = ks.length → BindsTo s fd ⟨us, ks.zip ws⟩ (ps.zip (permU idx us ws))
def tCallGK (n m : Nat) (idx : List Nat) (sp : Sp) (E : XK) (t tk : TA) : TE := fun σ H Q => t σ H fun vs J => tk σ J fun zs J2 => vs.length = n ∧ zs.length = m ∧ sp (perm idx vs zs) J2 Q E
theorem pe_callGK {n : Nat} {ks : List Str} {kws : List Keyword} {tk : TA} {idx : List Nat} (F : FnG X.prog X.w X.K X.mg X.base k f fd ps sp) (hr : Room k X.A) (gd : X.A.guards = some []) (hg : Gl X x) (hm : X.mg x = some (.ref f))
    (hk : PySem.W.keepIn X.K (.ref f) = true) (hb : KB X.K fd ps n ks idx) (hx : Passes (L2.CX X.prog X.w) X E)
    (ha : PA X (e :: es) t) (hkw : PK X kws tk) (hall : (backToKw pos (keywordEach kws X.env)).all (·.1.isSome) = true := by rfl) (hks : (backToKw pos (keywordEach kws X.env)).filterMap (·.1) = ks := by rfl)
    (hdb : (x == ("__debug__" : Str)) = false := by decide) (he : starEach (e :: es) X.env = (false, eval e X.env) :: starEach es X.env := by rfl)
    (hpl : ((backTo pos (starEach (e :: es) X.env)).any (·.1) || (backToKw pos (keywordEach kws X.env)).any (·.1.isNone)) = false := by rfl) :
    PE X (.Call (.Name x p) (e :: es) kws pos) (tCallGK n ks.length idx sp E t tk) := by
  constructor
  intro pins s σ H Q I h
  refine wpAny_Call_Name_kw (ld_glob I hg hm ?_ hdb)
  refine PySem.W.callWith_KW (h₀ := X.base) I.ok.mod.kin hk hall (thn (ha.run pos pins s σ H _ I h) fun us s1 ⟨vs, H1, I1, r, q⟩ => ?_) hpl he
  refine thn (hkw.run pos pins s1 σ H1 _ I1 q) fun ws s2 ⟨zs, H2, I2, rz, l1, l2, q2⟩ => ⟨I2.kIn, ?_⟩
  rw [hks]
  have a1 : us.length = n := by rw [← r.length]; exact l1
  have a2 : ws.length = ks.length := by rw [← rz.length]; exact l2
  exact run_g F hr gd hx I2 (hb s2 us ws I2.kIn a1 a2) (perm_rel idx r rz) q2
theorem pe_callGK0 {ks : List Str} {kws : List Keyword} {tk : TA} {idx : List Nat} (F : FnG X.prog X.w X.K X.mg X.base k f fd ps sp) (hr : Room k X.A) (gd : X.A.guards = some []) (hg : Gl X x) (hm : X.mg x = some (.ref f))
    (hk : PySem.W.keepIn X.K (.ref f) = true) (hb : KB X.K fd ps 0 ks idx) (hx : Passes (L2.CX X.prog X.w) X E)
    (hkw : PK X kws tk) (hall : (backToKw pos (keywordEach kws X.env)).all (·.1.isSome) = true := by rfl) (hks : (backToKw pos (keywordEach kws X.env)).filterMap (·.1) = ks := by rfl)
    (hdb : (x == ("__debug__" : Str)) = false := by decide)
    (hpl : ((backTo pos (starEach [] X.env)).any (·.1) || (backToKw pos (keywordEach kws X.env)).any (·.1.isNone)) = false := by rfl) :
    PE X (.Call (.Name x p) [] kws pos) (tCallGK 0 ks.length idx sp E tNil tk) := by
  constructor
  intro pins s σ H Q I h
  refine wpAny_Call_Name_kw (ld_glob I hg hm ?_ hdb)
  refine PySem.W.callWith_KW0 (h₀ := X.base) I.ok.mod.kin hk hall ?_ hpl
  refine thn (hkw.run pos pins s σ H _ I h) fun ws s2 ⟨zs, H2, I2, rz, l1, l2, q2⟩ => ⟨I2.kIn, ?_⟩
  rw [hks]
  have a2 : ws.length = ks.length := by rw [← rz.length]; exact l2
  exact run_g (us := []) F hr gd hx I2 (hb s2 [] ws I2.kIn rfl a2) (perm_rel idx .nil rz) q2
end

/-! ### contracts over data -/
abbrev Fs := List D → Mp → KD → XF → Prop
def lift (K : PySem.W.Frag) (F : Fs) : Sp := fun vs H Q E => ∃ (Z : Hp) (ds : List D) (M : Mp) (Qd : KD) (Rd : XF), Sat K Z H M ∧ RepL K (fz Z H M) vs ds ∧ F ds M Qd Rd ∧
  (∀ v d H' M', Go K Z H M H' M' → Rep K (fz Z H' M') v d → Qd d M' → Q v H') ∧ (∀ x C dx vs (fs : XV) H' M', ClsAt K x C → Go K Z H M H' M' → fz Z H' M' dx = some (.xd (fs.1.zip vs)) → fs.1.length = vs.length → RepL K (fz Z H' M') vs fs.2 → Rd x fs M' → E (.ref C) (some dx) H')
/-- the environment at a def's entry -/
def startE (n : Nat) (ds : List D) : En := ds.map some ++ List.replicate (n - ds.length) none
theorem start_rel {K : PySem.W.Frag} {H : Hp} {N : List Str} {vs : List V} {ds : List D} (r : RepL K H vs ds) : RelS K H (L2.start N vs) (startE N.length ds) := by
  unfold L2.start startE
  refine ⟨?_, fun i d e => ?_⟩
  · rw [List.length_append, List.length_append, List.length_map, List.length_map, List.length_replicate, List.length_replicate, r.len]
  · have hl := r.len
    by_cases hi : i < ds.length
    · rw [List.getElem?_append_left (by rw [List.length_map]; exact hi), List.getElem?_map] at e
      cases q : ds[i]? with
      | none =>
        rw [q] at e
        cases e
      | some d' =>
        rw [q] at e
        obtain rfl : d' = d := Option.some.inj (Option.some.inj e)
        obtain ⟨v, h1, h2⟩ := r.get q
        refine ⟨v, ?_, h2⟩
        rw [List.getElem?_append_left (by rw [List.length_map, hl]; exact hi), List.getElem?_map, h1]
        rfl
    · rw [List.getElem?_append_right (by rw [List.length_map]; omega), List.getElem?_replicate] at e
      split at e <;> cases e
def lw (E : XK) : WX3 := fun cls d _ H => E cls d H
/-- what a body's context is -/
structure Good (X : Cx) (P : Program) (w : World) (K : PySem.W.Frag) (mg : Str → Option Value) (base : Heap) (k : Nat) : Prop where
  prog : X.prog = P
  w : X.w = w
  K : X.K = K
  mg : X.mg = mg
  base : X.base = base
  room : Room k X.A
  gd : X.A.guards = some []
section
variable {P : Program} {w : World} {K : PySem.W.Frag} {mg : Str → Option Value} {base : Heap}
theorem ok_fn {x qual : Str} {st : Stmt} {f : Addr} {fd : FuncData} {N ps : List Str} {k : Nat} {F : Fs} (Fn : Fun K x qual st f fd) (S : FnScope N ps (defScope st)) (len : ∀ ds M Q E, F ds M Q E → ds.length = ps.length)
    (body : ∀ (cdv : Value) (A : Around) (outer : List Env) (s : Shared) (H : Hp) (E : XK), A.guards = some [] → Room k (A.deeper (envOfC qual (defScope st) s.heap.objs.size f cdv)) →
      ∃ t wr, DSs (cxOf (L2.CX P w) P w K mg base N qual (defScope st) f cdv A outer s H E) (lw E) (defBody st) t wr ∧ ∀ ds M Q R, F ds M Q R → wr { nx := fun _ M' => Q .non M', rt := Q, xr := lx R } (startE N.length ds) M) : FnG P w K mg base (k + 1) f fd ps (lift K F) := by
  refine fn_g Fn S (fun vs H Q E h => ?_) (fun cdv A outer s H vs Q E gd hr h => ?_)
  · obtain ⟨Z, ds, M, Qd, Rd, _, r, q, _⟩ := h
    rw [r.len]
    exact len _ _ _ _ q
  · obtain ⟨Z, ds, M, Qd, Rd, sat, r, q, kq, kr⟩ := h
    obtain ⟨t, wr, hd, hw⟩ := body cdv A outer s H E gd hr
    refine ⟨t, hd.pe, hd.sm _ _ _ _ _ _ _ ⟨sat, start_rel r⟩ (hw ds M _ _ q) ⟨fun ρ' M' σ' H' _ g z => kq _ _ _ _ g .non z, fun v d H' M' g rp z => kq v d H' M' g rp z, fun _ _ _ _ _ _ z => z.elim, fun _ _ _ _ _ _ z => z.elim, fun x C dx vs fs ρ' σ' H' M' ca _ g e1 l rf z => kr x C dx vs fs H' M' ca g e1 l rf z⟩⟩
end
end L3
namespace L3
open PySem L2

/-! ### data read in full -/
/-- a list of the store, read as a value -/
def res (M : Mp) : D → D
  | .tok a => match M a with
    | some (.lst ds) => .lst ds
    | _ => .tok a
  | d => d
theorem res_rep {K : PySem.W.Frag} {Z : Hp} {H : Hp} {M : Mp} {v : V} : ∀ {d : D}, Sat K Z H M → Rep K (fz Z H M) v d → Rep K H v (res M d)
  | .non, _, r => r.up fz_sub
  | .bl _, _, r => r.up fz_sub
  | .int _, _, r => r.up fz_sub
  | .str _, _, r => r.up fz_sub
  | .ty _, _, r => r.up fz_sub
  | .tup _, _, r => r.up fz_sub
  | .lst _, _, r => r.up fz_sub
  | .exc _ _ _ _ _, _, r => r.up fz_sub
  | .tpl _, _, r => r.up fz_sub
  | .dct _ _, _, r => r.up fz_sub
  | .tok a, S, r => by
    cases r
    show Rep K H (.ref a) (match M a with | some (.lst ds) => .lst ds | _ => .tok a)
    cases q : M a with
    | none => exact .tok a
    | some c =>
      cases c with
      | lst ds =>
        obtain ⟨vs, e, rl⟩ := S.cell a _ q
        exact .lst (.inl (.inl e)) (rl.up fz_sub)
      | aux => exact .tok a
      | drw _ => exact .tok a
      | ins _ _ => exact .tok a
      | dic _ _ => exact .tok a
/-- the items of a list, a tuple -/
def seqD (M : Mp) : D → Option (List D)
  | .tup ds => some ds
  | .lst ds => some ds
  | .tpl ds => some ds
  | .tok a => match M a with
    | some (.lst ds) => some ds
    | _ => none
  | _ => none
theorem seq_of {K : PySem.W.Frag} {Z : Hp} {H : Hp} {M : Mp} {v : V} : ∀ {d : D} {ds : List D}, Sat K Z H M → Rep K (fz Z H M) v d → seqD M d = some ds → ∃ a vs, v = .ref a ∧ (SqL K H a vs ∨ SqT K H a vs) ∧ RepL K (fz Z H M) vs ds
  | .non, _, _, _, e => by cases e
  | .bl _, _, _, _, e => by cases e
  | .int _, _, _, _, e => by cases e
  | .str _, _, _, _, e => by cases e
  | .ty _, _, _, _, e => by cases e
  | .exc _ _ _ _ _, _, _, _, e => by cases e
  | .tpl es, ds, S, r, e => by
    obtain rfl : es = ds := Option.some.inj e
    cases r with
    | tpl hs hd ha => exact ⟨_, _, rfl, .inr (.inl (.inr ⟨_, fz_sub _ _ hs⟩)), ha⟩
  | .dct _ _, _, _, _, e => by cases e
  | .tup es, ds, S, r, e => by
    obtain rfl : es = ds := Option.some.inj e
    cases r with
    | tup hs ha => exact ⟨_, _, rfl, .inr (sqt_mono fz_sub hs), ha⟩
  | .lst es, ds, S, r, e => by
    obtain rfl : es = ds := Option.some.inj e
    cases r with
    | lst hs ha => exact ⟨_, _, rfl, .inl (fz_sub.seq hs), ha⟩
  | .tok a, ds, S, r, e => by
    cases r
    have e' : (match M a with | some (.lst ds) => some ds | _ => none) = some ds := e
    cases q : M a with
    | none =>
      rw [q] at e'
      cases e'
    | some c =>
      rw [q] at e'
      cases c with
      | lst es =>
        obtain rfl : es = ds := Option.some.inj e'
        obtain ⟨vs, e1, rl⟩ := S.cell a _ q
        exact ⟨_, _, rfl, .inl (.inl (.inl e1)), rl⟩
      | aux => cases e'
      | drw _ => cases e'
      | ins _ _ => cases e'
      | dic _ _ => cases e'

/-! ### plain data: equality, texts -/
mutual
def D.py : D → PyData
  | .non => .none
  | .bl b => .bool b
  | .int i => .int i
  | .str x => .str x
  | .ty _ => .none
  | .tok _ => .none
  | .exc _ _ _ _ _ => .none
  | .tpl _ => .none
  | .dct _ _ => .none
  | .tup ds => .tuple (pyL ds)
  | .lst ds => .list (pyL ds)
def pyL : List D → List PyData
  | [] => []
  | d :: ds => d.py :: pyL ds
end
/-- data without objects, so deep at most -/
def fit : Nat → D → Prop
  | _, .non => True
  | _, .bl _ => True
  | _, .int _ => True
  | _, .str x => PySem.PyData.strOk x = true
  | _, .ty _ => False
  | _, .tok _ => False
  | _, .exc _ _ _ _ _ => False
  | _, .tpl _ => False
  | _, .dct _ _ => False
  | 0, .tup _ => False
  | 0, .lst _ => False
  | n + 1, .tup ds => ∀ d ∈ ds, fit n d
  | n + 1, .lst ds => ∀ d ∈ ds, fit n d
mutual
theorem Rep.dp {K : PySem.W.Frag} {H : Hp} : ∀ (n : Nat) (d : D) (v : V), fit n d → Rep K H v d → Dp K H v d.py
  | _, .non, _, _, r => by cases r; exact .non
  | _, .bl b, _, _, r => by cases r; exact .bl b
  | _, .int i, _, _, r => by cases r; exact .int i
  | _, .str x, _, _, r => by cases r; exact .str x
  | _, .ty _, _, f, _ => by simp [fit] at f
  | _, .tok _, _, f, _ => by simp [fit] at f
  | _, .exc _ _ _ _ _, _, f, _ => by simp [fit] at f
  | _, .tpl _, _, f, _ => by simp [fit] at f
  | _, .dct _ _, _, f, _ => by simp [fit] at f
  | 0, .tup _, _, f, _ => by cases f
  | 0, .lst _, _, f, _ => by cases f
  | n + 1, .tup ds, _, f, r => by
    cases r with
    | tup hs ha => exact .tup hs (RepL.dp n ds _ f ha)
  | n + 1, .lst ds, _, f, r => by
    cases r with
    | lst hs ha => exact .lst hs (RepL.dp n ds _ f ha)
theorem RepL.dp {K : PySem.W.Frag} {H : Hp} : ∀ (n : Nat) (ds : List D) (vs : List V), (∀ d ∈ ds, fit n d) → RepL K H vs ds → DpAll K H vs (pyL ds)
  | _, [], _, _, r => by cases r; exact .nil
  | n, d :: ds, _, f, r => by
    cases r with
    | cons r1 r2 => exact .cons (Rep.dp n d _ (f d List.mem_cons_self) r1) (RepL.dp n ds _ (fun x hx => f x (List.mem_cons_of_mem _ hx)) r2)
end
mutual
theorem fit_lay : ∀ (n : Nat) (d : D), fit n d → d.py.canLay0 = true ∧ d.py.depth ≤ n
  | _, .non, _ => ⟨by simp [D.py, PyData.canLay0], by simp [D.py, PyData.depth]⟩
  | _, .bl b, _ => ⟨by simp [D.py, PyData.canLay0], by simp [D.py, PyData.depth]⟩
  | _, .int i, _ => ⟨by simp [D.py, PyData.canLay0], by simp [D.py, PyData.depth]⟩
  | _, .str x, f => by
    have f' : PySem.PyData.strOk x = true := by simpa [fit] using f
    exact ⟨by simp [D.py, PyData.canLay0, f'], by simp [D.py, PyData.depth]⟩
  | _, .ty _, f => by simp [fit] at f
  | _, .tok _, f => by simp [fit] at f
  | _, .exc _ _ _ _ _, f => by simp [fit] at f
  | _, .tpl _, f => by simp [fit] at f
  | _, .dct _ _, f => by simp [fit] at f
  | 0, .tup _, f => by cases f
  | 0, .lst _, f => by cases f
  | n + 1, .tup ds, f => by
    have q := fit_layL n ds f
    exact ⟨by simp [D.py, PyData.canLay0, q.1], by simp only [D.py, PyData.depth]; omega⟩
  | n + 1, .lst ds, f => by
    have q := fit_layL n ds f
    exact ⟨by simp [D.py, PyData.canLay0, q.1], by simp only [D.py, PyData.depth]; omega⟩
theorem fit_layL : ∀ (n : Nat) (ds : List D), (∀ d ∈ ds, fit n d) → PyData.canLayAll0 (pyL ds) = true ∧ PyData.depthAll (pyL ds) ≤ n
  | _, [], _ => ⟨by simp [pyL, PyData.canLayAll0], by simp [pyL, PyData.depthAll]⟩
  | n, d :: ds, f => by
    have q1 := fit_lay n d (f d List.mem_cons_self)
    have q2 := fit_layL n ds fun x hx => f x (List.mem_cons_of_mem _ hx)
    exact ⟨by simp [pyL, PyData.canLayAll0, q1.1, q2.1], by simp only [pyL, PyData.depthAll]; omega⟩
end
theorem fit_shaped {n : Nat} {d : D} (f : fit n d) (h : n ≤ 64) : SeqAt.shaped d.py = true := by
  have q := fit_lay n d f
  unfold SeqAt.shaped
  rw [q.1, Bool.true_and]
  exact decide_eq_true (by omega)
def eqD (d e : D) : Bool := PyData.eqv d.py e.py
def shown (d : D) : Str := d.py.shown
/-! how long its text is at most -/
mutual
def cost : D → Nat
  | .non => 5
  | .bl _ => 5
  | .int _ => 210
  | .str x => 10 * x.length + 4
  | .ty _ => 5
  | .tok _ => 5
  | .exc _ _ _ _ _ => 5
  | .tpl _ => 5
  | .dct _ _ => 5
  | .tup ds => costL ds + 4
  | .lst ds => costL ds + 4
def costL : List D → Nat
  | [] => 0
  | d :: ds => cost d + 2 + costL ds
end
/-- data that can be shown -/
def shw : Nat → D → Prop
  | _, .non => True
  | _, .bl _ => True
  | _, .int i => i.natAbs < 2 ^ 200
  | _, .str x => PySem.PyData.strOk x = true
  | _, .ty _ => False
  | _, .tok _ => False
  | _, .exc _ _ _ _ _ => False
  | _, .tpl _ => False
  | _, .dct _ _ => False
  | 0, .tup _ => False
  | 0, .lst _ => False
  | n + 1, .tup ds => ∀ d ∈ ds, shw n d
  | n + 1, .lst ds => ∀ d ∈ ds, shw n d
theorem shw_fit : ∀ (n : Nat) (d : D), shw n d → fit n d
  | _, .non, _ => by simp [fit]
  | _, .bl _, _ => by simp [fit]
  | _, .int _, _ => by simp [fit]
  | _, .str x, f => by simpa [fit, shw] using f
  | _, .ty _, f => by simp [shw] at f
  | _, .tok _, f => by simp [shw] at f
  | _, .exc _ _ _ _ _, f => by simp [shw] at f
  | _, .tpl _, f => by simp [shw] at f
  | _, .dct _ _, f => by simp [shw] at f
  | 0, .tup _, f => by cases f
  | 0, .lst _, f => by cases f
  | n + 1, .tup ds, f => fun d hd => shw_fit n d (f d hd)
  | n + 1, .lst ds, f => fun d hd => shw_fit n d (f d hd)
theorem log200 {n : Nat} (h : n < 2 ^ 200) : n.log2 < 200 := by
  by_cases h0 : n = 0
  · subst h0
    decide
  · exact (Nat.log2_lt h0).mpr h
mutual
theorem shw_show : ∀ (n : Nat) (d : D), shw n d → d.py.showable = true ∧ d.py.hasDict = false
  | _, .non, _ => ⟨by simp [D.py, PyData.showable], by simp [D.py, PyData.hasDict]⟩
  | _, .bl b, _ => ⟨by simp [D.py, PyData.showable], by simp [D.py, PyData.hasDict]⟩
  | _, .int i, f => by
    have f' : i.natAbs < 2 ^ 200 := by simpa only [shw] using f
    have q := log200 f'
    exact ⟨by simp only [D.py, PyData.showable]; exact decide_eq_true (by omega), by simp [D.py, PyData.hasDict]⟩
  | _, .str x, f => ⟨by simp [D.py, PyData.showable], by simp [D.py, PyData.hasDict]⟩
  | _, .ty _, f => by simp [shw] at f
  | _, .tok _, f => by simp [shw] at f
  | _, .exc _ _ _ _ _, f => by simp [shw] at f
  | _, .tpl _, f => by simp [shw] at f
  | _, .dct _ _, f => by simp [shw] at f
  | 0, .tup _, f => by cases f
  | 0, .lst _, f => by cases f
  | n + 1, .tup ds, f => by
    have q := shw_showL n ds f
    exact ⟨by simp [D.py, PyData.showable, q.1], by simp [D.py, PyData.hasDict, q.2]⟩
  | n + 1, .lst ds, f => by
    have q := shw_showL n ds f
    exact ⟨by simp [D.py, PyData.showable, q.1], by simp [D.py, PyData.hasDict, q.2]⟩
theorem shw_showL : ∀ (n : Nat) (ds : List D), (∀ d ∈ ds, shw n d) → PyData.showableAll (pyL ds) = true ∧ PyData.hasDictAll (pyL ds) = false
  | _, [], _ => ⟨by simp [pyL, PyData.showableAll], by simp [pyL, PyData.hasDictAll]⟩
  | n, d :: ds, f => by
    have q1 := shw_show n d (f d List.mem_cons_self)
    have q2 := shw_showL n ds fun x hx => f x (List.mem_cons_of_mem _ hx)
    exact ⟨by simp [pyL, PyData.showableAll, q1.1, q2.1], by simp [pyL, PyData.hasDictAll, q1.2, q2.2]⟩
end
theorem pyL_len : ∀ ds : List D, (pyL ds).length = ds.length
  | [] => rfl
  | d :: ds => by rw [pyL, List.length_cons, List.length_cons, pyL_len ds]
theorem shownAll_len : ∀ ds : List PyData, (PyData.shownAll ds).length = ds.length
  | [] => rfl
  | d :: ds => by rw [PyData.shownAll, List.length_cons, List.length_cons, shownAll_len ds]
mutual
theorem shw_cost : ∀ (n : Nat) (d : D), shw n d → d.py.shown.length ≤ cost d
  | _, .non, _ => by decide
  | _, .bl b, _ => by cases b <;> decide
  | _, .int i, f => by
    have f' : i.natAbs < 2 ^ 200 := by simpa only [shw] using f
    have q := PySem.int_text_length_le (a := i) (k := 200) (by decide) (log200 f')
    have e : (D.int i).py.shown.length = (toString i).length := by
      show (Str.ofString (toString i)).length = _
      rw [PySem.ofString_length]
    rw [e]
    show _ ≤ 210
    omega
  | _, .str x, f => by
    have f' : PySem.PyData.strOk x = true := by simpa only [shw] using f
    have h : ∀ c ∈ x.cps.toList, c < 16 ^ 8 := fun c hc => by
      have z := (Array.all_eq_true'.mp f') c (by simpa using hc)
      have z' : c < 0x110000 := by simpa using z
      exact Nat.lt_trans z' (by decide)
    have q := PySem.StrLaws.reprText_len x h
    show (reprText x).length ≤ 10 * x.length + 4
    omega
  | _, .ty _, f => by simp [shw] at f
  | _, .tok _, f => by simp [shw] at f
  | _, .exc _ _ _ _ _, f => by simp [shw] at f
  | _, .tpl _, f => by simp [shw] at f
  | _, .dct _ _, f => by simp [shw] at f
  | 0, .tup _, f => by cases f
  | 0, .lst _, f => by cases f
  | n + 1, .tup ds, f => by
    have q := shw_costL n ds f
    have z := PySem.tupleText_len_le (PyData.shownAll (pyL ds))
    rw [shownAll_len, pyL_len] at z
    show (tupleText (PyData.shownAll (pyL ds))).length ≤ costL ds + 4
    omega
  | n + 1, .lst ds, f => by
    have q := shw_costL n ds f
    have z := PySem.listText_len_le (PyData.shownAll (pyL ds))
    rw [shownAll_len, pyL_len] at z
    show (listText (PyData.shownAll (pyL ds))).length ≤ costL ds + 4
    omega
theorem shw_costL : ∀ (n : Nat) (ds : List D), (∀ d ∈ ds, shw n d) → ((PyData.shownAll (pyL ds)).map (·.length)).sum + 2 * ds.length ≤ costL ds
  | _, [], _ => Nat.le_refl _
  | n, d :: ds, f => by
    have q1 := shw_cost n d (f d List.mem_cons_self)
    have q2 := shw_costL n ds fun x hx => f x (List.mem_cons_of_mem _ hx)
    simp only [pyL, PyData.shownAll, List.map_cons, List.sum_cons, List.length_cons, costL]
    omega
end
/-- repr(x), by data -/
theorem call_repr_any {X : Cx} {k : Nat} (hr : Room k X.A) (gd : X.A.guards = some []) : CallR X (.builtin "repr") (fun xs H Q => ∃ (x : V) (d : D) (n : Nat), xs = [x] ∧ Rep X.K H x d ∧ shw n d ∧ n ≤ 60 ∧ cost d ≤ 16000000 ∧ Q (.str (shown d)) H) := by
  intro pins s σ H vs us Q I r h
  obtain ⟨x, d, n, rfl, rp, sh, hn, hc, q⟩ := h
  obtain ⟨u, rfl, ru⟩ := vals1 r
  have hs := shw_show n d sh
  have hl := shw_cost n d sh
  have hz : d.py.shown.length ≤ sizeLine := by
    rw [sizeLine_eq]
    omega
  have hd := (fit_lay n d (shw_fit n d sh)).2
  have hu := hr.units
  obtain ⟨as, rd⟩ := Dp.reads I d.py x u (Rep.dp n d x (shw_fit n d sh) rp) ru
  cases d with
  | non =>
    cases rp
    cases ru
    exact P.repr_of_none ⟨.str _, H, I.tok _, ⟨_, rfl⟩, q⟩
  | bl b =>
    cases rp
    cases ru
    refine P.repr_of_bool ⟨.str _, H, I.tok _, ⟨_, rfl⟩, ?_⟩
    have e : (if b = true then Str.ofString "True" else Str.ofString "False") = shown (.bl b) := by cases b <;> rfl
    rw [e]
    exact q
  | int i =>
    cases rp
    obtain ⟨t, rfl⟩ := ru
    have sh' : i.natAbs < 2 ^ 200 := by simpa only [shw] using sh
    have q3 := log200 sh'
    exact P.repr_of_int (by omega) ⟨.str _, H, I.tok _, ⟨_, rfl⟩, q⟩
  | str y =>
    cases rp
    obtain ⟨t, rfl⟩ := ru
    exact P.repr_of_str ⟨.str _, H, I.tok _, ⟨_, rfl⟩, q⟩ hz
  | ty _ => simp [shw] at sh
  | tok _ => simp [shw] at sh
  | exc _ _ _ _ _ => simp [shw] at sh
  | tpl _ => simp [shw] at sh
  | dct _ _ => simp [shw] at sh
  | tup ds =>
    cases rp
    cases ru
    refine repr_of_reads' (h₀ := s.heap) rd hs.1 (fun z => by rw [hs.2] at z; cases z) gd (by omega) (fun _ _ e => e) (fun h' u' tk hk => ?_) hz
    exact ⟨.str _, H, I.kept hk, ⟨_, rfl⟩, q⟩
  | lst ds =>
    cases rp
    cases ru
    refine repr_of_reads' (h₀ := s.heap) rd hs.1 (fun z => by rw [hs.2] at z; cases z) gd (by omega) (fun _ _ e => e) (fun h' u' tk hk => ?_) hz
    exact ⟨.str _, H, I.kept hk, ⟨_, rfl⟩, q⟩
end L3
namespace L3
open PySem L2
section
variable {X : Cx} {E : XK} {e a b c : Expr} {es : List Expr} {t ta tb tc te : TE} {w wa wb wc we : WE} {pos : Pos} {k : Nat}

/-! ### names, constants -/
def wVar (i : Nat) : WE := fun ρ M Q => match ρ[i]? with
  | some (some d) => Q d M
  | _ => False
theorem sim_var {K : PySem.W.Frag} (i : Nat) : SimE K (tVar i) (wVar i) := by
  intro Z ρ M σ H Q Q' r h q
  unfold wVar at h
  split at h
  · rename_i d e
    obtain ⟨v, e1, rp⟩ := r.env.2 i d e
    exact ⟨v, e1, q v d H M r.refl rp h⟩
  · exact h.elim
theorem de_var (i : Nat) {x : Str} (hN : X.N[i]? = some x := by rfl) (hv : Vis X.env.scope x := by first | exact Or.inl rfl | exact Or.inr (Or.inl rfl) | exact Or.inr (Or.inr rfl)) (hd : (x == ("__debug__" : Str)) = false := by decide)
    (hcd : (x == ("__classdict__" : Str)) = false := by decide) : DE X (.Name x pos) (tVar i) (wVar i) := ⟨pe_var hN hv hd hcd, sim_var i⟩
def wC (d : D) : WE := fun _ M Q => Q d M
theorem sim_c {K : PySem.W.Frag} {v : V} {d : D} (h : ∀ H, Rep K H v d) : SimE K (tC v) (wC d) := fun _ _ M _ H _ _ r q z => z v d H M r.refl (h _) q
theorem de_int {i j} : DE X (.Constant (.int i) j pos) (tC (.int i)) (wC (.int i)) := ⟨pe_int, sim_c fun _ => .int i⟩
theorem de_bl {i j} : DE X (.Constant (.bool i) j pos) (tC (.bl i)) (wC (.bl i)) := ⟨pe_bl, sim_c fun _ => .bl i⟩
theorem de_non {j} : DE X (.Constant .none j pos) (tC .non) (wC .non) := ⟨pe_non, sim_c fun _ => .non⟩
theorem de_str {x j} : DE X (.Constant (.str x) j pos) (tC (.str x)) (wC (.str x)) := ⟨pe_str, sim_c fun _ => .str x⟩
/-- a name of the module that holds a value (a constant) -/
theorem de_glob {x : Str} {v : V} {d : D} {u : Value} (hg : Gl X x) (hm : X.mg x = some u) (r : RelV v u) (h : ∀ H, Rep X.K H v d) (hd : (x == ("__debug__" : Str)) = false := by decide) : DE X (.Name x pos) (tC v) (wC d) := ⟨pe_glob hg hm r hd, sim_c h⟩

/-! ### two values -/
abbrev F2 := D → D → Mp → KD → Prop
def SimR (K : PySem.W.Frag) (r : R2) (f : F2) : Prop := ∀ (Z : Hp) (x y : V) (d e : D) (H : Hp) (M : Mp) (Q : KD) (Q' : VK), Sat K Z H M → Rep K (fz Z H M) x d → Rep K (fz Z H M) y e → f d e M Q → (∀ v d' H' M', Go K Z H M H' M' → Rep K (fz Z H' M') v d' → Q d' M' → Q' v H') → r x y H Q'
def wOp (f : F2) (wa wb : WE) : WE := fun ρ M Q => wa ρ M fun d M1 => wb ρ M1 fun e M2 => f d e M2 Q
theorem sim_op {K : PySem.W.Frag} {r : R2} {f : F2} (ha : SimE K ta wa) (hb : SimE K tb wb) (hr : SimR K r f) : SimE K (tOp r ta tb) (wOp f wa wb) := by
  intro Z ρ M σ H Q Q' s h q
  refine ha Z ρ M σ H _ _ s h fun x d H1 M1 g1 r1 q1 => ?_
  refine hb Z ρ M1 σ H1 _ _ (s.go g1) q1 fun y e H2 M2 g2 r2 q2 => ?_
  exact hr Z x y d e H2 M2 Q Q' g2.sat (r1.up g2.ex) r2 q2 fun v d' H3 M3 g3 r3 q3 => q v d' H3 M3 ((g1.trans g2).trans g3) r3 q3
theorem de_op {op : Operator} {r : R2} {f : F2} (ho : OpR X (binaryOp op) r) (hs : SimR X.K r f) (ha : DE X a ta wa) (hb : DE X b tb wb) : DE X (.BinOp a op b pos) (tOp r ta tb) (wOp f wa wb) := ⟨pe_op ho ha.pe hb.pe, sim_op ha.sm hb.sm hs⟩
theorem de_cmp {op : CmpOp} {r : R2} {f : F2} (ho : OpR X (compareOp op) r) (hs : SimR X.K r f) (ha : DE X a ta wa) (hb : DE X b tb wb) (hm : behindInMarks op b = false := by first | exact nomark _ (by decide) (by decide) | rfl) : DE X (.Compare a [op] [b] pos) (tOp r ta tb) (wOp f wa wb) :=
  ⟨pe_cmpR ho ha.pe hb.pe hm, sim_op ha.sm hb.sm hs⟩
/-- a value's answer as a test -/
def wB (w : WE) : WT := fun ρ M Q => w ρ M fun d M1 => match d with
  | .bl x => Q x M1
  | _ => False
theorem sim_test {K : PySem.W.Frag} (ha : SimE K t w) : SimT K (tTest t) (wB w) := by
  intro Z ρ M σ H Q Q' s h q
  refine ha Z ρ M σ H _ _ s h fun x d H1 M1 g1 r1 q1 => ?_
  cases d with
  | bl y =>
    cases r1
    exact ⟨y, rfl, q y H1 M1 g1 q1⟩
  | _ => exact q1.elim
theorem dt_cmp {op : CmpOp} {r : R2} {f : F2} (ho : OpR X (compareOp op) r) (hs : SimR X.K r f) (ha : DE X a ta wa) (hb : DE X b tb wb) (hm : behindInMarks op b = false := by first | exact nomark _ (by decide) (by decide) | rfl) : DT X (.Compare a [op] [b] pos) (tTest (tOp r ta tb)) (wB (wOp f wa wb)) :=
  ⟨pt_cmpR ho ha.pe hb.pe hm, sim_test (sim_op ha.sm hb.sm hs)⟩
/-- a op b op' c -/
def wChain (f f' : F2) (wa wb wc : WE) : WE := fun ρ M Q => wa ρ M fun d M1 => wb ρ M1 fun e M2 => f d e M2 fun z M3 => match z with
  | .bl true => wc ρ M3 fun g M4 => f' e g M4 Q
  | .bl false => Q (.bl false) M3
  | _ => False
theorem sim_chain {K : PySem.W.Frag} {r r' : R2} {f f' : F2} (ha : SimE K ta wa) (hb : SimE K tb wb) (hc : SimE K tc wc) (hr : SimR K r f) (hr' : SimR K r' f') : SimE K (tChain r r' ta tb tc) (wChain f f' wa wb wc) := by
  intro Z ρ M σ H Q Q' s h q
  refine ha Z ρ M σ H _ _ s h fun x d H1 M1 g1 r1 q1 => ?_
  refine hb Z ρ M1 σ H1 _ _ (s.go g1) q1 fun y e H2 M2 g2 r2 q2 => ?_
  refine hr Z x y d e H2 M2 _ _ g2.sat (r1.up g2.ex) r2 q2 fun z g H3 M3 g3 r3 q3 => ?_
  have g13 := (g1.trans g2).trans g3
  cases g with
  | bl k =>
    cases r3
    refine ⟨k, rfl, ?_⟩
    cases k with
    | true =>
      rw [if_pos rfl]
      refine hc Z ρ M3 σ H3 _ _ (s.go g13) q3 fun v d4 H4 M4 g4 r4 q4 => ?_
      exact hr' Z y v e d4 H4 M4 Q Q' g4.sat ((r2.up g3.ex).up g4.ex) r4 q4 fun v5 d5 H5 M5 g5 r5 q5 => q v5 d5 H5 M5 ((g13.trans g4).trans g5) r5 q5
    | false =>
      rw [if_neg Bool.false_ne_true]
      exact q _ _ H3 M3 g13 (.bl false) q3
  | _ => exact q3.elim
theorem de_chain {op op' : CmpOp} {r r' : R2} {f f' : F2} (ho : OpR X (compareOp op) r) (hs : SimR X.K r f) (ho' : OpR X (compareOp op') r') (hs' : SimR X.K r' f') (ha : DE X a ta wa) (hb : DE X b tb wb) (hc : DE X c tc wc) (hm : lastMarks [op, op'] [b, c] = false := by with_unfolding_all rfl) :
    DE X (.Compare a [op, op'] [b, c] pos) (tChain r r' ta tb tc) (wChain f f' wa wb wc) := ⟨pe_chain ho ho' ha.pe hb.pe hc.pe hm, sim_chain ha.sm hb.sm hc.sm hs hs'⟩
theorem dt_chain {op op' : CmpOp} {r r' : R2} {f f' : F2} (ho : OpR X (compareOp op) r) (hs : SimR X.K r f) (ho' : OpR X (compareOp op') r') (hs' : SimR X.K r' f') (ha : DE X a ta wa) (hb : DE X b tb wb) (hc : DE X c tc wc) (hm : lastMarks [op, op'] [b, c] = false := by with_unfolding_all rfl) :
    DT X (.Compare a [op, op'] [b, c] pos) (tTest (tChain r r' ta tb tc)) (wB (wChain f f' wa wb wc)) := ⟨pt_chain ho ho' ha.pe hb.pe hc.pe hm, sim_test (sim_chain ha.sm hb.sm hc.sm hs hs')⟩

/-! ### arithmetic -/
def fI (C : Int → Int → Prop) (g : Int → Int → D) : F2 := fun d e M Q => match d, e with
  | .int i, .int j => C i j ∧ Q (g i j) M
  | _, _ => False
def fI0 (g : Int → Int → D) : F2 := fun d e M Q => match d, e with
  | .int i, .int j => Q (g i j) M
  | _, _ => False
theorem sim_I {K : PySem.W.Frag} {C : Int → Int → Prop} {g : Int → Int → V} {g' : Int → Int → D} (h : ∀ i j H, Rep K H (g i j) (g' i j)) : SimR K (rI C g) (fI C g') := by
  intro Z x y d e H M Q Q' S r1 r2 f q
  cases d <;> cases e <;> first | exact f.elim | skip
  cases r1
  cases r2
  exact ⟨_, _, rfl, rfl, f.1, q _ _ H M (Go.refl S) (h _ _ _) f.2⟩
theorem sim_I0 {K : PySem.W.Frag} {g : Int → Int → V} {g' : Int → Int → D} (h : ∀ i j H, Rep K H (g i j) (g' i j)) : SimR K (rI0 g) (fI0 g') := by
  intro Z x y d e H M Q Q' S r1 r2 f q
  cases d <;> cases e <;> first | exact f.elim | skip
  cases r1
  cases r2
  exact ⟨_, _, rfl, rfl, q _ _ H M (Go.refl S) (h _ _ _) f⟩
def addD : F2 := fun d e M Q => match d, e with
  | .int i, .int j => Q (.int (i + j)) M
  | .str i, .str j => i.length + j.length ≤ sizeLine ∧ Q (.str (i ++ j)) M
  | .tup i, .tup j => i.length + j.length ≤ sizeLine ∧ Q (.tup (i ++ j)) M
  | d, e => ∃ i j, (∃ a, d = .tok a ∨ d = .lst i) ∧ (∃ a, e = .tok a ∨ e = .lst j) ∧ seqD M d = some i ∧ seqD M e = some j ∧ i.length + j.length ≤ sizeLine ∧ Q (.lst (i ++ j)) M
theorem lst_of {K : PySem.W.Frag} {Z : Hp} {H : Hp} {M : Mp} {v : V} {d : D} {ds : List D} (S : Sat K Z H M) (r : Rep K (fz Z H M) v d) (h : ∃ a, d = .tok a ∨ d = .lst ds) (e : seqD M d = some ds) : ∃ a vs, v = .ref a ∧ SqL K H a vs ∧ RepL K (fz Z H M) vs ds := by
  obtain ⟨a, h⟩ := h
  rcases h with rfl | rfl
  · cases r
    have e' : (match M a with | some (.lst ds) => some ds | _ => none) = some ds := e
    cases q : M a with
    | none =>
      rw [q] at e'
      cases e'
    | some c =>
      rw [q] at e'
      cases c with
      | lst es =>
        obtain rfl : es = ds := Option.some.inj e'
        obtain ⟨vs, e1, rl⟩ := S.cell a _ q
        exact ⟨_, _, rfl, .inl (.inl e1), rl⟩
      | aux => cases e'
      | drw _ => cases e'
      | ins _ _ => cases e'
      | dic _ _ => cases e'
  · cases r with
    | lst hs ha => exact ⟨_, _, rfl, fz_sub.seq hs, ha⟩
/-- list + list -/
def rCatL (K : PySem.W.Frag) : R2 := fun x y H Q => ∃ l b xs zs, x = .ref l ∧ y = .ref b ∧ SqL K H l xs ∧ SqL K H b zs ∧ xs.length + zs.length ≤ sizeLine ∧ ∀ p, H p = none → Q (.ref p) (upd H p (.lst (xs ++ zs)))
theorem op_catL : OpR X (binaryOp .Add) (rCatL X.K) := by
  intro pins s σ H x y v u Q I rx ry h
  obtain ⟨l, b, xs, zs, rfl, rfl, h1, h2, hz, q⟩ := h
  cases rx
  cases ry
  obtain ⟨its, rv, p1, z1⟩ := I.list h1
  obtain ⟨its2, rv2, p2, z2⟩ := I.list h2
  have l1 := rv.length
  have l2 := rv2.length
  obtain ⟨⟨cl1, dd1, da1, sl1⟩, n1, ho1, hc1, hx1, hd1⟩ := p1
  obtain ⟨⟨cl2, dd2, da2, sl2⟩, n2, ho2, hc2, hx2, hd2⟩ := p2
  simp only at hc1 hd1 hc2 hd2
  subst hc1 hd1 hc2 hd2
  have ea : its.toArray ++ its2.toArray = (its ++ its2).toArray := by simp
  refine PySem.concat_meets ⟨_, ho1, rfl⟩ ⟨_, ho2, rfl⟩ PySem.noFill_list_add PySem.seq_list_add PySem.F.slot_list_add PySem.F.entry_list_add (PySem.F.args_list_add_2 _ _) (PyProof.Rows.list_addW l b its.toArray its2.toArray n1 n2 dd1 dd2 sl1 sl2 (by rw [List.size_toArray, List.size_toArray]; omega)) ⟨ho1, ho2, ?_⟩
  rw [ea]
  exact ⟨.ref _, _, I.lnew (t' := s.toks) (rv.append rv2) (by rw [List.length_append]; omega), rfl, q _ I.fresh⟩
theorem sim_cat {K : PySem.W.Frag} {Z : Hp} : ∀ (x y : V) (d e : D) (H : Hp) (M : Mp) (Q : KD) (Q' : VK) (i j : List D), Sat K Z H M → Rep K (fz Z H M) x d → Rep K (fz Z H M) y e → (∃ a, d = .tok a ∨ d = .lst i) → (∃ a, e = .tok a ∨ e = .lst j) → seqD M d = some i → seqD M e = some j → i.length + j.length ≤ sizeLine → Q (.lst (i ++ j)) M →
    (∀ v d' H' M', Go K Z H M H' M' → Rep K (fz Z H' M') v d' → Q d' M' → Q' v H') → rCatL K x y H Q' := by
  intro x y d e H M Q Q' i j S r1 r2 h1 h2 s1 s2 l q z
  obtain ⟨p, vs, rfl, hp, rl⟩ := lst_of S r1 h1 s1
  obtain ⟨p', ws, rfl, hp', rl'⟩ := lst_of S r2 h2 s2
  refine ⟨p, p', vs, ws, rfl, rfl, hp, hp', by rw [rl.len, rl'.len]; exact l, fun o ho => ?_⟩
  obtain ⟨g, n⟩ := Go.laid (o := .lst (vs ++ ws)) S ho
  exact z _ _ _ _ g (.lst (.inl (.inl n)) ((rl.app rl').up g.ex)) q
def rAddA (K : PySem.W.Frag) : R2 := fun x y H Q => rI0 (fun i j => .int (i + j)) x y H Q ∨ (∃ i j, x = .str i ∧ y = .str j ∧ i.length + j.length ≤ sizeLine ∧ Q (.str (i ++ j)) H) ∨ rCatL K x y H Q ∨ rCatA K x y H Q
theorem op_addA : OpR X (binaryOp .Add) (rAddA X.K) := op_add.or (op_add_str.or (op_catL.or op_catA))
theorem sim_addA {K : PySem.W.Frag} : SimR K (rAddA K) addD := by
  intro Z x y d e H M Q Q' S r1 r2 f q
  have viaL : (∃ i j, (∃ a, d = .tok a ∨ d = .lst i) ∧ (∃ a, e = .tok a ∨ e = .lst j) ∧ seqD M d = some i ∧ seqD M e = some j ∧ i.length + j.length ≤ sizeLine ∧ Q (.lst (i ++ j)) M) → rAddA K x y H Q' := fun ⟨i, j, h1, h2, s1, s2, l, z⟩ =>
    .inr (.inr (.inl (sim_cat x y d e H M Q Q' i j S r1 r2 h1 h2 s1 s2 l z q)))
  unfold addD at f
  split at f
  · cases r1
    cases r2
    exact .inl ⟨_, _, rfl, rfl, q _ _ H M (Go.refl S) (.int _) f⟩
  · cases r1
    cases r2
    exact .inr (.inl ⟨_, _, rfl, rfl, f.1, q _ _ H M (Go.refl S) (.str _) f.2⟩)
  · rename_i i j
    cases r1 with
    | @tup p vs _ h1 l1 =>
      cases r2 with
      | @tup p' ws _ h2 l2 =>
        refine .inr (.inr (.inr ⟨p, p', vs, ws, rfl, rfl, sqt_mono fz_sub h1, sqt_mono fz_sub h2, by rw [l1.len, l2.len]; exact f.1, fun en => ?_, fun _ en => ?_, fun _ _ o ho => ?_⟩))
        · subst en
          cases l1
          exact q _ _ H M (Go.refl S) (.tup h2 l2) f.2
        · subst en
          cases l2
          have z := f.2
          rw [List.append_nil] at z
          exact q _ _ H M (Go.refl S) (.tup h1 l1) z
        · obtain ⟨g, n⟩ := Go.laid (o := .tup (vs ++ ws)) S ho
          exact q _ _ _ _ g (.tup (.inl (.inl n)) ((l1.app l2).up g.ex)) f.2
  · exact viaL f
theorem de_add (ha : DE X a ta wa) (hb : DE X b tb wb) : DE X (.BinOp a .Add b pos) (tOp (rAddA X.K) ta tb) (wOp addD wa wb) := de_op op_addA sim_addA ha hb
theorem de_sub (ha : DE X a ta wa) (hb : DE X b tb wb) : DE X (.BinOp a .Sub b pos) (tOp (rI0 fun i j => .int (i - j)) ta tb) (wOp (fI0 fun i j => .int (i - j)) wa wb) := de_op op_sub (sim_I0 fun _ _ _ => .int _) ha hb
/-- products: one is not too great, or both together -/
def CM (i j : Int) : Prop := CMul i j ∨ CMulW i j
theorem op_mulM {X : Cx} : OpR X (binaryOp .Mult) (rI CM fun i j => .int (i * j)) := fun pins s σ H x y v u Q I r1 r2 ⟨i, j, e1, e2, c, q⟩ => c.elim (fun c => op_mul pins s σ H x y v u Q I r1 r2 ⟨i, j, e1, e2, c, q⟩) fun c => op_mulW pins s σ H x y v u Q I r1 r2 ⟨i, j, e1, e2, c, q⟩
theorem de_mul (ha : DE X a ta wa) (hb : DE X b tb wb) : DE X (.BinOp a .Mult b pos) (tOp (rI CM fun i j => .int (i * j)) ta tb) (wOp (fI CM fun i j => .int (i * j)) wa wb) := de_op op_mulM (sim_I fun _ _ _ => .int _) ha hb
theorem de_fdiv (ha : DE X a ta wa) (hb : DE X b tb wb) : DE X (.BinOp a .FloorDiv b pos) (tOp (rI CDivW fun i j => .int (i / j)) ta tb) (wOp (fI CDivW fun i j => .int (i / j)) wa wb) := de_op op_fdivW (sim_I fun _ _ _ => .int _) ha hb
theorem de_mod (ha : DE X a ta wa) (hb : DE X b tb wb) : DE X (.BinOp a .Mod b pos) (tOp (rI (fun _ j => 0 < j) fun i j => .int (i % j)) ta tb) (wOp (fI (fun _ j => 0 < j) fun i j => .int (i % j)) wa wb) := de_op op_mod (sim_I fun _ _ _ => .int _) ha hb
theorem de_pow (ha : DE X a ta wa) (hb : DE X b tb wb) : DE X (.BinOp a .Pow b pos) (tOp (rI CPow fun i j => .int (i ^ j.toNat)) ta tb) (wOp (fI CPow fun i j => .int (i ^ j.toNat)) wa wb) := de_op op_pow (sim_I fun _ _ _ => .int _) ha hb
def wNeg (wa : WE) : WE := fun ρ M Q => wa ρ M fun d M1 => match d with
  | .int i => Q (.int (-i)) M1
  | _ => False
theorem de_neg (ha : DE X a ta wa) : DE X (.UnaryOp .USub a pos) (tUn (rU fun i => .int (-i)) ta) (wNeg wa) := by
  refine ⟨pe_un un_neg ha.pe, fun Z ρ M σ H Q Q' s h q => ?_⟩
  refine ha.sm Z ρ M σ H _ _ s h fun x d H1 M1 g1 r1 q1 => ?_
  cases d with
  | int i =>
    cases r1
    exact ⟨i, rfl, q _ _ H1 M1 g1 (.int _) q1⟩
  | _ => exact q1.elim

/-! ### comparisons -/
def eqD2 (neg : Bool) : F2 := fun d e M Q => (∃ n, n ≤ 60 ∧ fit n (res M d) ∧ fit n (res M e)) ∧ Q (.bl (if neg then !eqD (res M d) (res M e) else eqD (res M d) (res M e))) M
theorem sim_eq {K : PySem.W.Frag} : SimR K (rEqD K) (eqD2 false) := by
  intro Z x y d e H M Q Q' S r1 r2 ⟨⟨n, hn, f1, f2⟩, f⟩ q
  exact ⟨_, _, Rep.dp n _ _ f1 (res_rep S r1), Rep.dp n _ _ f2 (res_rep S r2), fit_shaped f1 (by omega), fit_shaped f2 (by omega), q _ _ H M (Go.refl S) (.bl _) f⟩
theorem sim_ne {K : PySem.W.Frag} : SimR K (rNeD K) (eqD2 true) := by
  intro Z x y d e H M Q Q' S r1 r2 ⟨⟨n, hn, f1, f2⟩, f⟩ q
  exact ⟨_, _, Rep.dp n _ _ f1 (res_rep S r1), Rep.dp n _ _ f2 (res_rep S r2), fit_shaped f1 (by omega), fit_shaped f2 (by omega), q _ _ H M (Go.refl S) (.bl _) f⟩
theorem op_eqG (hr : Room k X.A) : OpR X (compareOp .Eq) (rEqD X.K) := op_eqD hr.units
theorem op_neG (hr : Room k X.A) : OpR X (compareOp .NotEq) (rNeD X.K) := op_neD hr.units
abbrev fLt : F2 := fI0 fun i j => .bl (decide (i < j))
abbrev fLe : F2 := fI0 fun i j => .bl (decide (i ≤ j))
abbrev fGt : F2 := fI0 fun i j => .bl (decide (j < i))
abbrev fGe : F2 := fI0 fun i j => .bl (decide (j ≤ i))
theorem sim_lt {K : PySem.W.Frag} : SimR K (rI0 fun i j => .bl (decide (i < j))) fLt := sim_I0 fun _ _ _ => .bl _
theorem sim_le {K : PySem.W.Frag} : SimR K (rI0 fun i j => .bl (decide (i ≤ j))) fLe := sim_I0 fun _ _ _ => .bl _
theorem sim_gt {K : PySem.W.Frag} : SimR K (rI0 fun i j => .bl (decide (j < i))) fGt := sim_I0 fun _ _ _ => .bl _
theorem sim_ge {K : PySem.W.Frag} : SimR K (rI0 fun i j => .bl (decide (j ≤ i))) fGe := sim_I0 fun _ _ _ => .bl _
def fIsN (neg : Bool) : F2 := fun d e M Q => match d, e with
  | .non, .non => Q (.bl (!neg)) M
  | _, .non => Q (.bl neg) M
  | _, _ => False
theorem rep_non {K : PySem.W.Frag} {H : Hp} {x : V} {d : D} (r : Rep K H x d) (h : d ≠ .non) : x ≠ .non := fun z => by
  subst z
  cases r
  exact h rfl
theorem sim_isN {K : PySem.W.Frag} : SimR K (fun x y H Q => y = .non ∧ Q (.bl (decide (x = .non))) H) (fIsN false) := by
  intro Z x y d e H M Q Q' S r1 r2 f q
  unfold fIsN at f
  split at f
  · cases r1
    cases r2
    exact ⟨rfl, q _ _ H M (Go.refl S) (.bl _) f⟩
  · rename_i h
    cases r2
    rw [decide_eq_false (rep_non r1 h)]
    exact ⟨rfl, q _ _ H M (Go.refl S) (.bl _) f⟩
  · exact f.elim
theorem sim_notN {K : PySem.W.Frag} : SimR K (fun x y H Q => y = .non ∧ Q (.bl (!decide (x = .non))) H) (fIsN true) := by
  intro Z x y d e H M Q Q' S r1 r2 f q
  unfold fIsN at f
  split at f
  · cases r1
    cases r2
    exact ⟨rfl, q _ _ H M (Go.refl S) (.bl _) f⟩
  · rename_i h
    cases r2
    rw [decide_eq_false (rep_non r1 h)]
    exact ⟨rfl, q _ _ H M (Go.refl S) (.bl _) f⟩
  · exact f.elim

/-! ### tests -/
/-- a bool's own value as a test: a name, a call, a subscript .. -/
theorem dt_val (h : DE X e t w) (he : ∀ whole, isTrue e X.env whole = (do let v ← whole; standAt e.pos; holding [v] (truthy v)) := by intro _; rfl) : DT X e (tB t) (wB w) := ⟨pt_val h.pe he, sim_test h.sm⟩
def wNot (w : WT) : WT := fun ρ M Q => w ρ M fun b M1 => Q (!b) M1
def wAnd (w u : WT) : WT := fun ρ M Q => w ρ M fun b M1 => if b = true then u ρ M1 Q else Q false M1
def wOr (w u : WT) : WT := fun ρ M Q => w ρ M fun b M1 => if b = true then Q true M1 else u ρ M1 Q
variable {tA tB' : TT} {wA wB' : WT} {rest : List Expr}
theorem dt_not (ha : DT X a tA wA) : DT X (.UnaryOp .Not a pos) (tNot tA) (wNot wA) := ⟨pt_not ha.pe, fun Z ρ M σ H Q Q' s h q => ha.sm Z ρ M σ H _ _ s h fun b H1 M1 g z => q _ H1 M1 g z⟩
theorem sim_and {K : PySem.W.Frag} (ha : SimT K tA wA) (hb : SimT K tB' wB') : SimT K (tAnd tA tB') (wAnd wA wB') := by
  intro Z ρ M σ H Q Q' s h q
  refine ha Z ρ M σ H _ _ s h fun b H1 M1 g z => ?_
  cases b with
  | true => exact hb Z ρ M1 σ H1 _ _ (s.go g) z fun b' H2 M2 g2 z2 => q b' H2 M2 (g.trans g2) z2
  | false => exact q _ H1 M1 g z
theorem sim_or {K : PySem.W.Frag} (ha : SimT K tA wA) (hb : SimT K tB' wB') : SimT K (tOr tA tB') (wOr wA wB') := by
  intro Z ρ M σ H Q Q' s h q
  refine ha Z ρ M σ H _ _ s h fun b H1 M1 g z => ?_
  cases b with
  | false => exact hb Z ρ M1 σ H1 _ _ (s.go g) z fun b' H2 M2 g2 z2 => q b' H2 M2 (g.trans g2) z2
  | true => exact q _ H1 M1 g z
theorem dw_and1 (ha : DT X a tA wA) : DW X (.BoolOp .And [a] pos) tA wA := ⟨pw_and1 ha.pe, ha.sm⟩
theorem dw_or1 (ha : DT X a tA wA) : DW X (.BoolOp .Or [a] pos) tA wA := ⟨pw_or1 ha.pe, ha.sm⟩
theorem dw_and (ha : DT X a tA wA) (hb : DW X (.BoolOp .And (b :: rest) pos) tB' wB') : DW X (.BoolOp .And (a :: b :: rest) pos) (tAnd tA tB') (wAnd wA wB') := ⟨pw_and ha.pe hb.pe, sim_and ha.sm hb.sm⟩
theorem dw_or (ha : DT X a tA wA) (hb : DW X (.BoolOp .Or (b :: rest) pos) tB' wB') : DW X (.BoolOp .Or (a :: b :: rest) pos) (tOr tA tB') (wOr wA wB') := ⟨pw_or ha.pe hb.pe, sim_or ha.sm hb.sm⟩
theorem DW.dt {t : TT} {w : WT} (h : DW X e t w) : DT X e t w := ⟨h.pe.pt, h.sm⟩
/-! .. as values -/
def wAndV (wa wb : WE) : WE := fun ρ M Q => wa ρ M fun d M1 => match d with
  | .bl true => wb ρ M1 Q
  | .bl false => Q (.bl false) M1
  | _ => False
def wOrV (wa wb : WE) : WE := fun ρ M Q => wa ρ M fun d M1 => match d with
  | .bl false => wb ρ M1 Q
  | .bl true => Q (.bl true) M1
  | _ => False
def wNotV (wa : WE) : WE := fun ρ M Q => wa ρ M fun d M1 => match d with
  | .bl b => Q (.bl (!b)) M1
  | _ => False
theorem de_one {op} (h : DE X a t w) : DE X (.BoolOp op [a] pos) t w := ⟨pe_one h.pe, h.sm⟩
theorem de_and (ha : DE X a ta wa) (hb : DE X (.BoolOp .And (b :: rest) pos) tb wb) : DE X (.BoolOp .And (a :: b :: rest) pos) (tAndV ta tb) (wAndV wa wb) := by
  refine ⟨pe_and ha.pe hb.pe, fun Z ρ M σ H Q Q' s h q => ?_⟩
  refine ha.sm Z ρ M σ H _ _ s h fun x d H1 M1 g1 r1 q1 => ?_
  cases d with
  | bl y =>
    cases r1
    cases y with
    | true => exact ⟨true, rfl, hb.sm Z ρ M1 σ H1 _ _ (s.go g1) q1 fun v d2 H2 M2 g2 r2 q2 => q v d2 H2 M2 (g1.trans g2) r2 q2⟩
    | false => exact ⟨false, rfl, q _ _ H1 M1 g1 (.bl _) q1⟩
  | _ => exact q1.elim
theorem de_or (ha : DE X a ta wa) (hb : DE X (.BoolOp .Or (b :: rest) pos) tb wb) : DE X (.BoolOp .Or (a :: b :: rest) pos) (tOrV ta tb) (wOrV wa wb) := by
  refine ⟨pe_or ha.pe hb.pe, fun Z ρ M σ H Q Q' s h q => ?_⟩
  refine ha.sm Z ρ M σ H _ _ s h fun x d H1 M1 g1 r1 q1 => ?_
  cases d with
  | bl y =>
    cases r1
    cases y with
    | false => exact ⟨false, rfl, hb.sm Z ρ M1 σ H1 _ _ (s.go g1) q1 fun v d2 H2 M2 g2 r2 q2 => q v d2 H2 M2 (g1.trans g2) r2 q2⟩
    | true => exact ⟨true, rfl, q _ _ H1 M1 g1 (.bl _) q1⟩
  | _ => exact q1.elim
theorem de_not (ha : DE X a ta wa) : DE X (.UnaryOp .Not a pos) (tNotV ta) (wNotV wa) := by
  refine ⟨pe_not ha.pe, fun Z ρ M σ H Q Q' s h q => ?_⟩
  refine ha.sm Z ρ M σ H _ _ s h fun x d H1 M1 g1 r1 q1 => ?_
  cases d with
  | bl y =>
    cases r1
    exact ⟨y, rfl, q _ _ H1 M1 g1 (.bl _) q1⟩
  | _ => exact q1.elim
def wIf (c : WT) (wa wb : WE) : WE := fun ρ M Q => c ρ M fun b M1 => if b = true then wa ρ M1 Q else wb ρ M1 Q
theorem de_if {c : Expr} (hc : DT X c tA wA) (ha : DE X a ta wa) (hb : DE X b tb wb) : DE X (.IfExp c a b pos) (tIf tA ta tb) (wIf wA wa wb) := by
  refine ⟨pe_ifExp hc.pe ha.pe hb.pe, fun Z ρ M σ H Q Q' s h q => ?_⟩
  refine hc.sm Z ρ M σ H _ _ s h fun y H1 M1 g1 q1 => ?_
  cases y with
  | true => exact ha.sm Z ρ M1 σ H1 _ _ (s.go g1) q1 fun v d2 H2 M2 g2 r2 q2 => q v d2 H2 M2 (g1.trans g2) r2 q2
  | false => exact hb.sm Z ρ M1 σ H1 _ _ (s.go g1) q1 fun v d2 H2 M2 g2 r2 q2 => q v d2 H2 M2 (g1.trans g2) r2 q2

/-! ### arguments, displays, calls -/
def wNil : WA := fun _ M Q => Q [] M
def wCons (w : WE) (r : WA) : WA := fun ρ M Q => w ρ M fun d M1 => r ρ M1 fun ds M2 => Q (d :: ds) M2
variable {tr : TA} {wr : WA}
theorem sim_nil {K : PySem.W.Frag} : SimA K tNil wNil := fun Z ρ M σ H Q Q' s h q => q [] [] H M s.refl .nil h
theorem sim_cons {K : PySem.W.Frag} (ha : SimE K te we) (hr : SimA K tr wr) : SimA K (tCons te tr) (wCons we wr) := by
  intro Z ρ M σ H Q Q' s h q
  refine ha Z ρ M σ H _ _ s h fun x d H1 M1 g1 r1 q1 => ?_
  refine hr Z ρ M1 σ H1 _ _ (s.go g1) q1 fun xs ds H2 M2 g2 r2 q2 => ?_
  exact q (x :: xs) (d :: ds) H2 M2 (g1.trans g2) (.cons (r1.up g2.ex) r2) q2
theorem da_nil : DA X [] tNil wNil := ⟨pa_nil, sim_nil⟩
theorem da_cons (ha : DE X e te we) (hr : DA X es tr wr) (hs : starEach (e :: es) X.env = (false, eval e X.env) :: starEach es X.env := by rfl) : DA X (e :: es) (tCons te tr) (wCons we wr) := ⟨pa_cons ha.pe hr.pe hs, sim_cons ha.sm hr.sm⟩
def wTup (r : WA) : WE := fun ρ M Q => r ρ M fun ds M1 => ds.length ≤ sizeLine ∧ Q (.tup ds) M1
def wLst (r : WA) : WE := fun ρ M Q => r ρ M fun ds M1 => ds.length ≤ sizeLine ∧ Q (.lst ds) M1
theorem de_tup {x1} (h : DA X es tr wr) : DE X (.Tuple es x1 pos) (tTup tr) (wTup wr) := by
  refine ⟨pe_tup h.pe, fun Z ρ M σ H Q Q' s hh q => ?_⟩
  refine h.sm Z ρ M σ H _ _ s hh fun xs ds H1 M1 g1 r1 ⟨l, q1⟩ => ⟨by rw [r1.len]; exact l, fun p hp => ?_⟩
  obtain ⟨g, n⟩ := Go.laid (o := .tup xs) g1.sat hp
  exact q _ _ _ _ (g1.trans g) (.tup (.inl (.inl n)) (r1.up g.ex)) q1
theorem de_lst (h : DA X es tr wr) : DE X (.List es pos) (tLst tr) (wLst wr) := by
  refine ⟨pe_lst h.pe, fun Z ρ M σ H Q Q' s hh q => ?_⟩
  refine h.sm Z ρ M σ H _ _ s hh fun xs ds H1 M1 g1 r1 ⟨l, q1⟩ => ⟨by rw [r1.len]; exact l, fun p hp => ?_⟩
  obtain ⟨g, n⟩ := Go.laid (o := .lst xs) g1.sat hp
  exact q _ _ _ _ (g1.trans g) (.lst (.inl (.inl n)) (r1.up g.ex)) q1
/-- a list that is to change -/
def wLstM (r : WA) : WE := fun ρ M Q => r ρ M fun ds M1 => ds.length ≤ sizeLine ∧ ∀ p, M1 p = none → Q (.tok p) (setM M1 p (.lst ds))
theorem de_lstM (h : DA X es tr wr) : DE X (.List es pos) (tLst tr) (wLstM wr) := by
  refine ⟨pe_lst h.pe, fun Z ρ M σ H Q Q' s hh q => ?_⟩
  refine h.sm Z ρ M σ H _ _ s hh fun xs ds H1 M1 g1 r1 ⟨l, q1⟩ => ⟨by rw [r1.len]; exact l, fun p hp => ?_⟩
  exact q _ _ _ _ (g1.trans (Go.putL g1.sat (.inl hp) r1)) (.tok p) (q1 p (g1.sat.free hp))
/-- f(e, ..) by its contract -/
def wCall (F : Fs) (r : WA) : WE := fun ρ M Q => r ρ M fun ds M1 => F ds M1 Q fun _ _ _ => False
theorem sim_call {K : PySem.W.Frag} {F : Fs} (ha : SimA K tr wr) : SimE K (tCallG (lift K F) [] E0 tr) (wCall F wr) := by
  intro Z ρ M σ H Q Q' s h q
  refine ha Z ρ M σ H _ _ s h fun xs ds H1 M1 g1 r1 q1 => ?_
  show lift K F (xs ++ []) H1 Q' E0
  rw [List.append_nil]
  exact ⟨Z, ds, M1, Q, _, g1.sat, r1, q1, fun v d H2 M2 g2 r2 q2 => q v d H2 M2 (g1.trans g2) r2 q2, fun _ _ _ _ _ _ _ _ _ _ _ _ z => z.elim⟩
variable {f : Addr} {fd : FuncData} {ps : List Str} {F : Fs} {x : Str} {p : Pos}
theorem de_call (G : FnG X.prog X.w X.K X.mg X.base k f fd ps (lift X.K F)) (hr : Room k X.A) (gd : X.A.guards = some []) (hm : X.mg x = some (.ref f)) (hk : PySem.W.keepIn X.K (.ref f) = true) (hb : Binds X.K fd ps [])
    (ha : DA X (e :: es) tr wr) (hg : Gl X x := by rfl) (hdb : (x == ("__debug__" : Str)) = false := by decide) (he : starEach (e :: es) X.env = (false, eval e X.env) :: starEach es X.env := by rfl) (hpl : (backTo pos (starEach es X.env)).any (·.1) = false := by rfl) :
    DE X (.Call (.Name x p) (e :: es) [] pos) (tCallG (lift X.K F) [] E0 tr) (wCall F wr) := ⟨pe_callG G hr gd hg hm hk hb .nil passL ha.pe hdb he hpl, sim_call ha.sm⟩
theorem de_call0 (G : FnG X.prog X.w X.K X.mg X.base k f fd ps (lift X.K F)) (hr : Room k X.A) (gd : X.A.guards = some []) (hm : X.mg x = some (.ref f)) (hk : PySem.W.keepIn X.K (.ref f) = true) (hb : Binds X.K fd ps [])
    (hg : Gl X x := by rfl) (hdb : (x == ("__debug__" : Str)) = false := by decide) : DE X (.Call (.Name x p) [] [] pos) (tCallG (lift X.K F) [] E0 tNil) (wCall F wNil) := ⟨pe_callG0 G hr gd hg hm hk hb .nil passL hdb, sim_call sim_nil⟩
end
end L3
namespace L3
open PySem L2
section
variable {X : Cx} {E : XK} {e a b c : Expr} {es : List Expr} {t ta tb tc te : TE} {w wa wb wc we : WE} {pos : Pos} {k : Nat} {tr : TA} {wr : WA}
/-! ### keywords -/
structure DK (X : Cx) (kws : List Keyword) (t : TA) (w : WA) : Prop where
  pe : PK X kws t
  sm : SimA X.K t w
variable {nm : Option Str} {kpos : Pos} {kws : List Keyword} {tk : TA} {wk : WA}
theorem dk_nil : DK X [] tNil wNil := ⟨pk_nil, sim_nil⟩
theorem dk_cons (ha : DE X e te we) (hr : DK X kws tk wk) : DK X (⟨nm, e, kpos⟩ :: kws) (tCons te tk) (wCons we wk) := ⟨pk_cons ha.pe hr.pe, sim_cons ha.sm hr.sm⟩
def permD (idx : List Nat) (ds es : List D) : List D := idx.map fun i => (ds ++ es).getD i .non
theorem rep_getD {K : PySem.W.Frag} {H : Hp} : ∀ {vs : List V} {ds : List D} (i : Nat), RepL K H vs ds → Rep K H (vs.getD i .non) (ds.getD i .non)
  | _, _, _, .nil => .non
  | _, _, 0, .cons r _ => r
  | _, _, i + 1, .cons _ q => rep_getD i q
theorem perm_repL {K : PySem.W.Frag} {H : Hp} (idx : List Nat) {vs zs : List V} {ds es : List D} (r : RepL K H vs ds) (q : RepL K H zs es) : RepL K H (perm idx vs zs) (permD idx ds es) := by
  have ra := r.app q
  unfold perm permD
  induction idx with
  | nil => exact .nil
  | cons i is ih => exact .cons (rep_getD i ra) ih
def wCallK (n m : Nat) (idx : List Nat) (F : Fs) (r rk : WA) : WE := fun ρ M Q => r ρ M fun ds M1 => rk ρ M1 fun es M2 => ds.length = n ∧ es.length = m ∧ F (permD idx ds es) M2 Q fun _ _ _ => False
theorem sim_callK {K : PySem.W.Frag} {F : Fs} {n m : Nat} {idx : List Nat} (ha : SimA K tr wr) (hk : SimA K tk wk) : SimE K (tCallGK n m idx (lift K F) E0 tr tk) (wCallK n m idx F wr wk) := by
  intro Z ρ M σ H Q Q' s h q
  refine ha Z ρ M σ H _ _ s h fun xs ds H1 M1 g1 r1 q1 => ?_
  refine hk Z ρ M1 σ H1 _ _ (s.go g1) q1 fun ys es H2 M2 g2 r2 ⟨l1, l2, q2⟩ => ⟨by rw [r1.len]; exact l1, by rw [r2.len]; exact l2, ?_⟩
  exact ⟨Z, _, M2, Q, _, g2.sat, perm_repL idx (r1.up g2.ex) r2, q2, fun v d H3 M3 g3 r3 q3 => q v d H3 M3 ((g1.trans g2).trans g3) r3 q3, fun _ _ _ _ _ _ _ _ _ _ _ _ z => z.elim⟩
variable {f : Addr} {fd : FuncData} {ps : List Str} {F : Fs} {x : Str} {p : Pos}
theorem de_callK {n : Nat} {ks : List Str} {idx : List Nat} (G : FnG X.prog X.w X.K X.mg X.base k f fd ps (lift X.K F)) (hr : Room k X.A) (gd : X.A.guards = some []) (hm : X.mg x = some (.ref f)) (hk : PySem.W.keepIn X.K (.ref f) = true) (hb : KB X.K fd ps n ks idx)
    (ha : DA X (e :: es) tr wr) (hkw : DK X kws tk wk) (hg : Gl X x := by rfl) (hall : (backToKw pos (keywordEach kws X.env)).all (·.1.isSome) = true := by rfl) (hks : (backToKw pos (keywordEach kws X.env)).filterMap (·.1) = ks := by rfl)
    (hdb : (x == ("__debug__" : Str)) = false := by decide) (he : starEach (e :: es) X.env = (false, eval e X.env) :: starEach es X.env := by rfl)
    (hpl : ((backTo pos (starEach (e :: es) X.env)).any (·.1) || (backToKw pos (keywordEach kws X.env)).any (·.1.isNone)) = false := by rfl) :
    DE X (.Call (.Name x p) (e :: es) kws pos) (tCallGK n ks.length idx (lift X.K F) E0 tr tk) (wCallK n ks.length idx F wr wk) := ⟨pe_callGK G hr gd hg hm hk hb passL ha.pe hkw.pe hall hks hdb he hpl, sim_callK ha.sm hkw.sm⟩
theorem de_callK0 {ks : List Str} {idx : List Nat} (G : FnG X.prog X.w X.K X.mg X.base k f fd ps (lift X.K F)) (hr : Room k X.A) (gd : X.A.guards = some []) (hm : X.mg x = some (.ref f)) (hk : PySem.W.keepIn X.K (.ref f) = true) (hb : KB X.K fd ps 0 ks idx)
    (hkw : DK X kws tk wk) (hg : Gl X x := by rfl) (hall : (backToKw pos (keywordEach kws X.env)).all (·.1.isSome) = true := by rfl) (hks : (backToKw pos (keywordEach kws X.env)).filterMap (·.1) = ks := by rfl)
    (hdb : (x == ("__debug__" : Str)) = false := by decide)
    (hpl : ((backTo pos (starEach [] X.env)).any (·.1) || (backToKw pos (keywordEach kws X.env)).any (·.1.isNone)) = false := by rfl) :
    DE X (.Call (.Name x p) [] kws pos) (tCallGK 0 ks.length idx (lift X.K F) E0 tNil tk) (wCallK 0 ks.length idx F wNil wk) := ⟨pe_callGK0 G hr gd hg hm hk hb passL hkw.pe hall hks hdb hpl, sim_callK sim_nil hkw.sm⟩

/-! ### places of lists, tuples, texts -/
def ixD : F2 := fun d e M Q => match d, e with
  | .str z, .int i => z.length ≤ sizeLine ∧ ∃ c, atI z.cps.toList i = some c ∧ Q (.str ⟨#[c]⟩) M
  | d, .int i => ∃ ds x, seqD M d = some ds ∧ atI ds i = some x ∧ Q x M
  | _, _ => False
theorem atI_len {α β : Type} {xs : List α} {ys : List β} {i : Int} {x : α} (h : atI xs i = some x) (l : xs.length = ys.length) : ∃ (y : β) (j : Nat), atI ys i = some y ∧ ys[j]? = some y ∧ xs[j]? = some x := by
  unfold atI at h ⊢
  rw [l] at h
  cases q : ixN ys.length i with
  | none =>
    rw [q] at h
    cases h
  | some j =>
    rw [q] at h
    have h' : xs[j]? = some x := h
    have hj : j < ys.length := by
      rw [← l]
      exact (List.getElem?_eq_some_iff.mp h').1
    exact ⟨ys[j], j, List.getElem?_eq_getElem hj, List.getElem?_eq_getElem hj, h'⟩
theorem sim_ix {K : PySem.W.Frag} : SimR K (rIx K) ixD := by
  intro Z x y d e H M Q Q' S r1 r2 f q
  unfold ixD at f
  split at f
  · cases r1
    cases r2
    obtain ⟨l, c, ha, z⟩ := f
    exact .inr (.inr ⟨_, _, c, rfl, rfl, l, ha, q _ _ H M (Go.refl S) (.str _) z⟩)
  · cases r2
    obtain ⟨ds, x', hs, ha, z⟩ := f
    obtain ⟨a, vs, rfl, hv, rl⟩ := seq_of S r1 hs
    obtain ⟨v, j, a1, a2, a3⟩ := atI_len ha rl.len.symm
    obtain ⟨v', b1, b2⟩ := rl.get a3
    rw [a2] at b1
    cases b1
    rcases hv with hv | hv
    · exact .inl ⟨a, vs, _, v, rfl, rfl, hv, a1, q _ _ H M (Go.refl S) b2 z⟩
    · exact .inr (.inl ⟨a, vs, _, v, rfl, rfl, hv, a1, q _ _ H M (Go.refl S) b2 z⟩)
  · exact f.elim
theorem de_ix (ha : DE X a ta wa) (hb : DE X b tb wb) (hs : PlainIx b := by intro _ _; rfl) : DE X (.Subscript a b pos) (tOp (rIx X.K) ta tb) (wOp ixD wa wb) := ⟨pe_ix ix_seq ha.pe hb.pe hs, sim_op ha.sm hb.sm sim_ix⟩

/-! ### slices -/
abbrev WO := En → Mp → (Option Int → Mp → Prop) → Prop
def SimO (K : PySem.W.Frag) (t : TO) (w : WO) : Prop := ∀ (Z : Hp) (ρ : En) (M : Mp) (σ : L2.St) (H : Hp) (Q : Option Int → Mp → Prop) (Q' : Option Int → Hp → Prop), R3 K Z ρ M σ H → w ρ M Q → (∀ b H' M', Go K Z H M H' M' → Q b M' → Q' b H') → t σ H Q'
structure DO (X : Cx) (e : Option Expr) (t : TO) (w : WO) : Prop where
  pe : PO X e t
  sm : SimO X.K t w
def wNoP : WO := fun _ M Q => Q none M
def wPart (w : WE) : WO := fun ρ M Q => w ρ M fun d M1 => match d with
  | .int i => Q (some i) M1
  | _ => False
theorem do_none : DO X none tNoPart wNoP := ⟨po_none, fun Z ρ M σ H Q Q' s h q => q _ H M s.refl h⟩
theorem do_some (h : DE X e te we) : DO X (some e) (tPart te) (wPart we) := by
  refine ⟨po_some h.pe, fun Z ρ M σ H Q Q' s hh q => ?_⟩
  refine h.sm Z ρ M σ H _ _ s hh fun x d H1 M1 g1 r1 q1 => ?_
  cases d with
  | int i =>
    cases r1
    exact ⟨i, rfl, q _ H1 M1 g1 q1⟩
  | _ => exact q1.elim
def cutD (xs : List D) (lo hi : Option Int) : List D := (xs.drop (HT.sIx xs.length 0 lo)).take (HT.sIx xs.length xs.length hi - HT.sIx xs.length 0 lo)
theorem cut_rep {K : PySem.W.Frag} {H : Hp} {vs : List V} {ds : List D} (r : RepL K H vs ds) (lo hi : Option Int) : RepL K H (cutV vs lo hi) (cutD ds lo hi) := by
  unfold cutV cutD
  rw [r.len]
  exact (r.drop _).take _
def slD : D → Option Int → Option Int → Mp → KD → Prop := fun d lo hi M Q => match d with
  | .tup ds => Q (.tup (cutD ds lo hi)) M
  | .str z => z.length ≤ sizeLine ∧ Q (.str (cutS z lo hi)) M
  | d => ∃ ds, (∃ a, d = .tok a ∨ d = .lst ds) ∧ seqD M d = some ds ∧ Q (.lst (cutD ds lo hi)) M
def rSlU (K : PySem.W.Frag) : V → Option Int → Option Int → Hp → VK → Prop := fun x lo hi H Q => rSlL K x lo hi H Q ∨ rSlA K x lo hi H Q ∨ rSlS x lo hi H Q
theorem sl_any : SlR X (rSlU X.K) := sl_list.or (sl_tupA.or sl_str)
def wSl (w : WE) (wl wh : WO) : WE := fun ρ M Q => w ρ M fun d M1 => wl ρ M1 fun l M2 => wh ρ M2 fun u M3 => slD d l u M3 Q
theorem sim_sl {K : PySem.W.Frag} {tl th : TO} {wl wh : WO} (h : SimE K te we) (hl : SimO K tl wl) (hh : SimO K th wh) : SimE K (tSl (rSlU K) te tl th) (wSl we wl wh) := by
  intro Z ρ M σ H Q Q' s hw q
  refine h Z ρ M σ H _ _ s hw fun x d H1 M1 g1 r1 q1 => ?_
  refine hl Z ρ M1 σ H1 _ _ (s.go g1) q1 fun lo H2 M2 g2 q2 => ?_
  refine hh Z ρ M2 σ H2 _ _ (s.go (g1.trans g2)) q2 fun hi H3 M3 g3 q3 => ?_
  have g := (g1.trans g2).trans g3
  have r3 := (r1.up g2.ex).up g3.ex
  unfold slD at q3
  split at q3
  · rename_i ds
    cases r3 with
    | @tup a vs _ hs rl =>
      refine .inr (.inl ⟨a, vs, rfl, sqt_mono fz_sub hs, fun ⟨e1, e2⟩ => ?_, fun _ p hp => ?_⟩)
      · have e : cutD ds lo hi = ds := by
          unfold cutD
          rw [← rl.len, e1, e2, Nat.sub_zero, List.drop_zero, rl.len, List.take_length]
        rw [e] at q3
        exact q _ _ H3 M3 g (.tup hs rl) q3
      · obtain ⟨g4, n⟩ := Go.laid (o := .tup (cutV vs lo hi)) g3.sat hp
        exact q _ _ _ _ (g.trans g4) (.tup (.inl (.inl n)) ((cut_rep rl lo hi).up g4.ex)) q3
  · rename_i z
    cases r3
    exact .inr (.inr ⟨z, rfl, q3.1, q _ _ H3 M3 g (.str _) q3.2⟩)
  · obtain ⟨ds, hd, hs, z⟩ := q3
    obtain ⟨a, vs, rfl, ha, rl⟩ := lst_of g3.sat r3 hd hs
    refine .inl ⟨a, vs, rfl, ha, fun p hp => ?_⟩
    obtain ⟨g4, n⟩ := Go.laid (o := .lst (cutV vs lo hi)) g3.sat hp
    exact q _ _ _ _ (g.trans g4) (.lst (.inl (.inl n)) ((cut_rep rl lo hi).up g4.ex)) z
theorem de_slice {lo hi : Option Expr} {tl th : TO} {wl wh : WO} {p2 : Pos} (he : DE X e te we) (hl : DO X lo tl wl) (hu : DO X hi th wh) : DE X (.Subscript e (.Slice lo hi none p2) pos) (tSl (rSlU X.K) te tl th) (wSl we wl wh) := ⟨pe_slice sl_any he.pe hl.pe hu.pe, sim_sl he.sm hl.sm hu.sm⟩
end
end L3
namespace L3
open PySem L2
section
variable {X : Cx} {E : WX3} {e a b c : Expr} {es : List Expr} {t ta tb tc te : TE} {w wa wb wc we : WE} {pos : Pos} {k : Nat} {tr : TA} {wr : WA} {st : Stmt} {rest : List Stmt} {ts tu : TS} {ws wu : WS} {tA : TT} {wA : WT}
/-! ### truth of any value -/
def truD : D → Mp → Option Bool
  | .non, _ => some false
  | .bl b, _ => some b
  | .int i, _ => some (i != 0)
  | .str x, _ => if x.length ≤ sizeLine then some ((x.length : Int) != 0) else none
  | .tup ds, _ => some (!ds.isEmpty)
  | .lst ds, _ => some (!ds.isEmpty)
  | .tok a, M => match M a with
    | some (.lst ds) => some (!ds.isEmpty)
    | _ => none
  | .ty _, _ => none
  | .exc _ _ _ _ _, _ => none
  | .tpl _, _ => none
  | .dct _ _, _ => none
def wTru (w : WE) : WT := fun ρ M Q => w ρ M fun d M1 => match truD d M1 with
  | some b => Q b M1
  | none => False
theorem rep_empty {K : PySem.W.Frag} {H : Hp} {vs : List V} {ds : List D} (r : RepL K H vs ds) : vs.isEmpty = ds.isEmpty := by
  cases r <;> rfl
theorem tru_of {K : PySem.W.Frag} {Z H : Hp} {M : Mp} {v : V} : ∀ {d : D} {b : Bool}, Sat K Z H M → Rep K (fz Z H M) v d → truD d M = some b → TruV K v H b
  | .non, b, _, r, e => by cases r; cases e; rfl
  | .bl x, b, _, r, e => by cases r; cases e; rfl
  | .int i, b, _, r, e => by cases r; cases e; rfl
  | .str x, b, _, r, e => by
    cases r
    have e' : (if x.length ≤ sizeLine then some ((x.length : Int) != 0) else none) = some b := e
    by_cases h : x.length ≤ sizeLine
    · rw [if_pos h] at e'
      cases e'
      exact ⟨h, rfl⟩
    · rw [if_neg h] at e'
      cases e'
  | .tup ds, b, S, r, e => by
    cases e
    cases r with
    | tup hs rl => exact .inr (.inl ⟨_, sqt_mono fz_sub hs, by rw [rep_empty rl]⟩)
  | .lst ds, b, S, r, e => by
    cases e
    cases r with
    | lst hs rl => exact .inl ⟨_, fz_sub.seq hs, by rw [rep_empty rl]⟩
  | .ty _, b, _, _, e => by cases e
  | .exc _ _ _ _ _, b, _, _, e => by cases e
  | .tpl _, b, _, _, e => by cases e
  | .dct _ _, b, _, _, e => by cases e
  | .tok a, b, S, r, e => by
    cases r
    have e' : (match M a with | some (.lst ds) => some (!ds.isEmpty) | _ => none) = some b := e
    cases q : M a with
    | none =>
      rw [q] at e'
      cases e'
    | some c =>
      rw [q] at e'
      cases c with
      | lst ds =>
        cases e'
        obtain ⟨vs, e1, rl⟩ := S.cell a _ q
        exact .inl ⟨vs, .inl (.inl e1), by rw [rep_empty rl]⟩
      | aux => cases e'
      | drw _ => cases e'
      | ins _ _ => cases e'
      | dic _ _ => cases e'
theorem dt_tru (h : DE X e t w) (he : ∀ whole, isTrue e X.env whole = (do let v ← whole; standAt e.pos; holding [v] (truthy v)) := by intro _; rfl) : DT X e (fun σ H Q => t σ H fun x H' => ∃ k, TruV X.K x H' k ∧ Q k H') (wTru w) := by
  refine ⟨pt_truth h.pe he, fun Z ρ M σ H Q Q' s hw q => ?_⟩
  refine h.sm Z ρ M σ H _ _ s hw fun x d H1 M1 g1 r1 q1 => ?_
  cases z : truD d M1 with
  | none =>
    rw [z] at q1
    exact q1.elim
  | some b =>
    rw [z] at q1
    exact ⟨b, tru_of g1.sat r1 z, q b H1 M1 g1 q1⟩

/-! ### blocks and small statements -/
def wNext : WS := fun D ρ M => D.nx ρ M
def wSeq (w u : WS) : WS := fun D ρ M => w { D with nx := u D } ρ M
theorem sim_seq {K : PySem.W.Frag} (h1 : SimS K E ts ws) (h2 : SimS K E tu wu) : SimS K E (tSeq ts tu) (wSeq ws wu) := by
  intro Z D3 ρ M σ H D r h en
  refine h1 Z _ ρ M σ H _ r h ⟨fun ρ' M' σ' H' r' g n => ?_, en.rt, en.bk, en.ct, en.xr⟩
  exact h2 Z D3 ρ' M' σ' H' D r' n (en.go g)
theorem dss_nil : DSs X E [] tNext wNext := ⟨pss_nil, fun Z D3 ρ M σ H D r h en => en.nx ρ M σ H r r.refl h⟩
theorem dss_cons (h1 : DS X E st ts ws) (h2 : DSs X E rest tu wu) : DSs X E (st :: rest) (tSeq ts tu) (wSeq ws wu) := ⟨pss_cons h1.pe h2.pe, sim_seq h1.sm h2.sm⟩
theorem dss_one (h1 : DS X E st ts ws) : DSs X E [st] ts ws := ⟨pss_one h1.pe, h1.sm⟩
theorem ds_pass : DS X E (.Pass pos) tNext wNext := ⟨ps_pass, fun Z D3 ρ M σ H D r h en => en.nx ρ M σ H r r.refl h⟩
def wBreak : WS := fun D ρ M => D.bk ρ M
def wCont : WS := fun D ρ M => D.ct ρ M
theorem ds_break : DS X E (.Break pos) tBreak wBreak := ⟨ps_break, fun Z D3 ρ M σ H D r h en => en.bk ρ M σ H r r.refl h⟩
theorem ds_cont : DS X E (.Continue pos) tCont wCont := ⟨ps_continue, fun Z D3 ρ M σ H D r h en => en.ct ρ M σ H r r.refl h⟩
def wDrop (w : WE) : WS := fun D ρ M => w ρ M fun _ M1 => D.nx ρ M1
theorem ds_expr (he : DE X e te we) (hs : swapsWith e none pos.line X.env = pure false := by rfl) : DS X E (.Expr e pos) (tDrop te) (wDrop we) :=
  ⟨ps_expr he.pe hs, fun Z D3 ρ M σ H D r h en => he.sm Z ρ M σ H _ _ r h fun v d H1 M1 g r1 q => en.nx ρ M1 σ H1 (r.go g) g q⟩
def wRet (w : WE) : WS := fun D ρ M => w ρ M D.rt
theorem ds_ret (he : DE X e te we) : DS X E (.Return (some e) pos) (tRet te) (wRet we) := ⟨ps_ret he.pe, fun Z D3 ρ M σ H D r h en => he.sm Z ρ M σ H _ _ r h fun v d H1 M1 g r1 q => en.rt v d H1 M1 g r1 q⟩
/-- a list of the store is handed back: it never changes again -/
def wRetF (w : WE) : WS := fun D ρ M => w ρ M fun d M1 => match d with
  | .tok a => match M1 a with
    | some (.lst ds) => D.rt (.lst ds) (delM M1 a)
    | _ => False
  | _ => False
theorem ds_retF (he : DE X e te we) : DS X E (.Return (some e) pos) (tRet te) (wRetF we) := by
  refine ⟨ps_ret he.pe, fun Z D3 ρ M σ H D r h en => he.sm Z ρ M σ H _ _ r h fun v d H1 M1 g r1 q => ?_⟩
  cases d with
  | tok a =>
    cases r1
    dsimp only at q
    cases z : M1 a with
    | none =>
      rw [z] at q
      exact q.elim
    | some c =>
      rw [z] at q
      cases c with
      | lst ds =>
        obtain ⟨g2, vs, e1, rl⟩ := Go.frozen g.sat z
        exact en.rt _ _ H1 _ (g.trans g2) (.lst (.inl (.inl e1)) rl) q
      | aux => exact q.elim
      | drw _ => exact q.elim
      | ins _ _ => exact q.elim
      | dic _ _ => exact q.elim
  | _ => exact q.elim
def wRetN : WS := fun D _ M => D.rt .non M
theorem ds_retN : DS X E (.Return none pos) tRetN wRetN := ⟨ps_retN, fun Z D3 ρ M σ H D r h en => en.rt _ _ H M r.refl .non h⟩
def wIfS (c : WT) (w u : WS) : WS := fun D ρ M => c ρ M fun b M1 => if b = true then w D ρ M1 else u D ρ M1
theorem ds_if {c : Expr} {p q : List Stmt} (hc : DT X c tA wA) (hp : DSs X E p ts ws) (hq : DSs X E q tu wu) : DS X E (.If c p q pos) (tIfS tA ts tu) (wIfS wA ws wu) := by
  refine ⟨ps_if hc.pe hp.pe hq.pe, fun Z D3 ρ M σ H D r h en => hc.sm Z ρ M σ H _ _ r h fun b H1 M1 g z => ?_⟩
  cases b with
  | true => exact hp.sm Z D3 ρ M1 σ H1 D (r.go g) z (en.go g)
  | false => exact hq.sm Z D3 ρ M1 σ H1 D (r.go g) z (en.go g)

/-! ### targets -/
abbrev WG := D → En → Mp → (En → Mp → Prop) → Prop
abbrev WGs := List D → En → Mp → (En → Mp → Prop) → Prop
def SimG (K : PySem.W.Frag) (t : TG) (w : WG) : Prop := ∀ (Z : Hp) (v : V) (d : D) (ρ : En) (M : Mp) (σ : L2.St) (H : Hp) (Q : En → Mp → Prop) (Q' : L2.St → Hp → Prop), R3 K Z ρ M σ H → Rep K (fz Z H M) v d → w d ρ M Q → (∀ ρ' M' σ' H', R3 K Z ρ' M' σ' H' → Go K Z H M H' M' → Q ρ' M' → Q' σ' H') → t v σ H Q'
def SimGs (K : PySem.W.Frag) (t : TGs) (w : WGs) : Prop := ∀ (Z : Hp) (v : List V) (d : List D) (ρ : En) (M : Mp) (σ : L2.St) (H : Hp) (Q : En → Mp → Prop) (Q' : L2.St → Hp → Prop), R3 K Z ρ M σ H → RepL K (fz Z H M) v d → w d ρ M Q → (∀ ρ' M' σ' H', R3 K Z ρ' M' σ' H' → Go K Z H M H' M' → Q ρ' M' → Q' σ' H') → t v σ H Q'
structure DG (X : Cx) (e : Expr) (t : TG) (w : WG) : Prop where
  pe : PG X e t
  sm : SimG X.K t w
structure DGs (X : Cx) (e : List Expr) (t : TGs) (w : WGs) : Prop where
  pe : PGs X e t
  sm : SimGs X.K t w
def wgName (i : Nat) : WG := fun d ρ M Q => Q (ρ.set i (some d)) M
theorem sim_gname {K : PySem.W.Frag} (i : Nat) : SimG K (gName i) (wgName i) := fun Z v d ρ M σ H Q Q' r rp h q => q _ M _ H ⟨r.sat, r.env.set i rp⟩ r.refl h
theorem dg_name (i : Nat) {x : Str} (hN : X.N.Nodup) (hi : X.N[i]? = some x := by rfl) (hx : Loc X.env.scope x := by first | exact .inl rfl | exact .inr rfl) (hf : X.fn x = true ∨ X.env.scope.names.lookup x = some .local := by first | exact .inl rfl | exact .inr rfl) : DG X (.Name x pos) (gName i) (wgName i) := ⟨pg_name hN hi hx hf, sim_gname i⟩
def wgNil : WGs := fun ds ρ M Q => ds = [] ∧ Q ρ M
def wgCons (w : WG) (u : WGs) : WGs := fun ds ρ M Q => match ds with
  | [] => False
  | d :: r => w d ρ M fun ρ' M' => u r ρ' M' Q
variable {tg : TG} {wg : WG} {tgs : TGs} {wgs : WGs}
theorem dgs_nil : DGs X [] gNil wgNil := ⟨pgs_nil, fun Z v d ρ M σ H Q Q' r rp h q => by
  obtain ⟨rfl, h⟩ := h
  cases rp
  exact ⟨rfl, q ρ M σ H r r.refl h⟩⟩
theorem dgs_cons (h1 : DG X e tg wg) (h2 : DGs X es tgs wgs) (hs : (assignEach (e :: es) X.env).map (·.2) = assign e X.env :: (assignEach es X.env).map (·.2) := by rfl) : DGs X (e :: es) (gCons tg tgs) (wgCons wg wgs) := by
  refine ⟨pgs_cons h1.pe h2.pe hs, fun Z v d ρ M σ H Q Q' r rp h q => ?_⟩
  cases rp with
  | nil => exact h.elim
  | cons r1 r2 =>
    refine ⟨_, _, rfl, h1.sm Z _ _ ρ M σ H _ _ r r1 h fun ρ1 M1 σ1 H1 s1 g1 z => ?_⟩
    exact h2.sm Z _ _ ρ1 M1 σ1 H1 _ _ s1 (r2.up g1.ex) z fun ρ2 M2 σ2 H2 s2 g2 z2 => q ρ2 M2 σ2 H2 s2 (g1.trans g2) z2
def wgTup (n : Nat) (w : WGs) : WG := fun d ρ M Q => match d with
  | .tup ds => ds.length = n ∧ w ds ρ M Q
  | _ => False
theorem sim_gtup {K : PySem.W.Frag} {n : Nat} (h : SimGs K tgs wgs) : SimG K (gTup K n tgs) (wgTup n wgs) := by
  intro Z v d ρ M σ H Q Q' r rp hw q
  cases d with
  | tup ds =>
    cases rp with
    | tup hs rl => exact ⟨_, _, rfl, sqt_mono fz_sub hs, by rw [rl.len]; exact hw.1, h Z _ _ ρ M σ H _ _ r rl hw.2 q⟩
  | _ => exact hw.elim
theorem dg_tup {es : List Expr} {k : Nat} {n : Nat} (hc : X.calm = true) (h : DGs X es tgs wgs) (hn : (assignEach es X.env).length = n := by rfl) (hst : (assignEach es X.env).findIdx? (·.1) = none := by rfl) : DG X (.Tuple es k pos) (gTup X.K n tgs) (wgTup n wgs) := ⟨pg_tup hc h.pe hn hst, sim_gtup h.sm⟩
/-- o[i] = v of a list of the store -/
def setD (o i v : D) (M : Mp) (Q : Mp → Prop) : Prop := match o, i with
  | .tok a, .int n => ∃ ds j, M a = some (.lst ds) ∧ ixN ds.length n = some j ∧ Q (setM M a (.lst (ds.set j v)))
  | _, _ => False
def wgSub (wo wi : WE) : WG := fun d ρ M Q => wo ρ M fun o M1 => wi ρ M1 fun i M2 => setD o i d M2 fun M3 => Q ρ M3
theorem dg_sub {o i : Expr} {to ti : TE} {wo wi : WE} (ho : DE X o to wo) (hi : DE X i ti wi) (ha : ∀ v, assign (.Subscript o i pos) X.env v = (do
      let ov ← holding [v] (eval o X.env)
      let iv ← holding [v, ov] (eval i X.env)
      standAt pos
      holding [v, ov, iv] (setItem ov iv v)
      release [v, ov, iv] []) := by intro _; rfl) : DG X (.Subscript o i pos) (gSub to ti rSetL) (wgSub wo wi) := by
  refine ⟨pg_sub ho.pe hi.pe set_list ha, fun Z v d ρ M σ H Q Q' r rp hw q => ?_⟩
  refine ho.sm Z ρ M σ H _ _ r hw fun x d1 H1 M1 g1 r1 q1 => ?_
  refine hi.sm Z ρ M1 σ H1 _ _ (r.go g1) q1 fun y d2 H2 M2 g2 r2 q2 => ?_
  unfold setD at q2
  split at q2
  · rename_i a n
    obtain ⟨ds, j, hm, hj, z⟩ := q2
    have r1' := r1.up g2.ex
    cases r1'
    cases r2
    obtain ⟨vs, e1, rl⟩ := g2.sat.cell a _ hm
    have g3 := Go.putL (p := a) g2.sat (.inr ⟨ds, hm⟩) (RepL.set ((rp.up g1.ex).up g2.ex) j rl)
    exact ⟨a, vs, n, j, rfl, rfl, e1, by rw [rl.len]; exact hj, q ρ _ σ _ (r.go ((g1.trans g2).trans g3)) ((g1.trans g2).trans g3) z⟩
  · exact q2.elim
def wAsg (w : WE) (g : WG) : WS := fun D ρ M => w ρ M fun d M1 => g d ρ M1 D.nx
theorem sim_asg {K : PySem.W.Frag} (he : SimE K te we) (hg : SimG K tg wg) : SimS K E (tAsg te tg) (wAsg we wg) := by
  intro Z D3 ρ M σ H D r h en
  refine he Z ρ M σ H _ _ r h fun v d H1 M1 g1 r1 q1 => ?_
  exact hg Z v d ρ M1 σ H1 _ _ (r.go g1) r1 q1 fun ρ2 M2 σ2 H2 s2 g2 z => en.nx ρ2 M2 σ2 H2 s2 (g1.trans g2) z
theorem ds_set (i : Nat) {x : Str} {pos' : Pos} (hN : X.N.Nodup) (he : DE X e te we) (hi : X.N[i]? = some x := by rfl) (hx : Loc X.env.scope x := by first | exact .inl rfl | exact .inr rfl) (hs : swapsWith e (some (.Name x pos')) pos.line X.env = pure false := by rfl)
    (hf : X.fn x = true ∨ X.env.scope.names.lookup x = some .local := by first | exact .inl rfl | exact .inr rfl) : DS X E (.Assign [.Name x pos'] e pos) (tAsg te (gName i)) (wAsg we (wgName i)) := ⟨ps_set hN hi hx he.pe hs hf, sim_asg he.sm (sim_gname i)⟩
theorem ds_asg {tgt : Expr} (he : DE X e te we) (hg : DG X tgt tg wg) (hs : swapsWithSole [tgt] e pos.line X.env = pure false := by rfl) (hw : swappedStores [tgt] e X.env = pure none := by rfl)
    (h1 : (assignEach [tgt] X.env).map (·.2) = [assign tgt X.env] := by rfl) : DS X E (.Assign [tgt] e pos) (tAsg te tg) (wAsg we wg) := ⟨ps_asg he.pe hg.pe hs hw h1, sim_asg he.sm hg.sm⟩
/-- a, b = x, y -/
def wPar (i j : Nat) (w : WA) : WS := fun D ρ M => w ρ M fun ds M1 => match ds with
  | [d, e] => D.nx ((ρ.set i (some d)).set j (some e)) M1
  | _ => False
theorem ds_par (i j : Nat) {x y : Str} {a b : Expr} {px py pt : Pos} {kt k2 pt2} (hc : X.calm = true) (hN : X.N.Nodup) (ha : DA X [a, b] tr wr) (hi : X.N[i]? = some x := by rfl) (hj : X.N[j]? = some y := by rfl) (hij : i ≠ j := by decide)
    (hx : X.env.scope.names.lookup x = some .local := by rfl) (hy : X.env.scope.names.lookup y = some .local := by rfl)
    (hw : swappedStores [.Tuple [.Name x px, .Name y py] kt pt] (.Tuple [a, b] k2 pt2) X.env = pure (some [x, y]) := by rfl)
    (hs : swapsWithSole [.Tuple [.Name x px, .Name y py] kt pt] (.Tuple [a, b] k2 pt2) pos.line X.env = pure false := by rfl) :
    DS X E (.Assign [.Tuple [.Name x px, .Name y py] kt pt] (.Tuple [a, b] k2 pt2) pos) (tPar i j tr) (wPar i j wr) := by
  refine ⟨ps_par hc hN hi hj hij hx hy ha.pe hw hs, fun Z D3 ρ M σ H D r h en => ?_⟩
  refine ha.sm Z ρ M σ H _ _ r h fun vs ds H1 M1 g1 r1 q1 => ?_
  cases r1 with
  | nil => exact q1.elim
  | cons r1 r2 =>
    cases r2 with
    | nil => exact q1.elim
    | cons r2 r3 =>
      cases r3 with
      | nil => exact ⟨_, _, rfl, en.nx _ M1 _ H1 ⟨g1.sat, (((r.go g1).env.set i r1).set j r2)⟩ g1 q1⟩
      | cons _ _ => exact q1.elim
def wPar3 (i j l : Nat) (w : WA) : WS := fun D ρ M => w ρ M fun ds M1 => match ds with
  | [d, e, f] => D.nx (((ρ.set i (some d)).set j (some e)).set l (some f)) M1
  | _ => False
theorem ds_par3 (i j l : Nat) {x y z : Str} {a b c : Expr} {px py pz pt : Pos} {kt k2 pt2} (hc : X.calm = true) (hN : X.N.Nodup) (ha : DA X [a, b, c] tr wr) (hi : X.N[i]? = some x := by rfl) (hj : X.N[j]? = some y := by rfl) (hl : X.N[l]? = some z := by rfl) (hij : i ≠ j := by decide) (hil : i ≠ l := by decide) (hjl : j ≠ l := by decide)
    (hx : X.env.scope.names.lookup x = some .local := by rfl) (hy : X.env.scope.names.lookup y = some .local := by rfl) (hz : X.env.scope.names.lookup z = some .local := by rfl)
    (hw : swappedStores [.Tuple [.Name x px, .Name y py, .Name z pz] kt pt] (.Tuple [a, b, c] k2 pt2) X.env = pure (some [x, y, z]) := by rfl)
    (hs : swapsWithSole [.Tuple [.Name x px, .Name y py, .Name z pz] kt pt] (.Tuple [a, b, c] k2 pt2) pos.line X.env = pure false := by rfl) :
    DS X E (.Assign [.Tuple [.Name x px, .Name y py, .Name z pz] kt pt] (.Tuple [a, b, c] k2 pt2) pos) (tPar3 i j l tr) (wPar3 i j l wr) := by
  refine ⟨ps_par3 hc hN hi hj hl hij hil hjl hx hy hz ha.pe hw hs, fun Z D3 ρ M σ H D r h en => ?_⟩
  refine ha.sm Z ρ M σ H _ _ r h fun vs ds H1 M1 g1 r1 q1 => ?_
  cases r1 with
  | nil => exact q1.elim
  | cons r1 r2 =>
    cases r2 with
    | nil => exact q1.elim
    | cons r2 r3 =>
      cases r3 with
      | nil => exact q1.elim
      | cons r3 r4 =>
        cases r4 with
        | nil => exact ⟨_, _, _, rfl, en.nx _ M1 _ H1 ⟨g1.sat, ((((r.go g1).env.set i r1).set j r2).set l r3)⟩ g1 q1⟩
        | cons _ _ => exact q1.elim
/-- x += e -/
def wAug (i : Nat) (w : WE) (f : F2) : WS := fun D ρ M => match ρ[i]? with
  | some (some d) => w ρ M fun e M1 => f d e M1 fun z M2 => D.nx (ρ.set i (some z)) M2
  | _ => False
theorem ip_int {op : Operator} {g : Int → Int → Int} (h : PIp X op (ipI g)) : PIp X op (rI0 fun i j => .int (g i j)) := fun pins s σ H x y v u Q I r1 r2 ⟨i, j, e1, e2, q⟩ => h pins s σ H x y v u Q I r1 r2 ⟨i, j, e1, e2, q⟩
theorem ds_augI (i : Nat) {x : Str} {op : Operator} {g : Int → Int → Int} {pos' : Pos} (hN : X.N.Nodup) (he : DE X e te we) (ho : PIp X op (ipI g)) (hi : X.N[i]? = some x := by rfl) (hx : Loc X.env.scope x := by first | exact .inl rfl | exact .inr rfl)
    (hf : X.fn x = true ∨ X.env.scope.names.lookup x = some .local := by first | exact .inl rfl | exact .inr rfl) : DS X E (.AugAssign (.Name x pos') op e pos) (tAug i te (rI0 fun i j => .int (g i j))) (wAug i we (fI0 fun i j => .int (g i j))) := by
  refine ⟨ps_aug hN hi hx he.pe (ip_int ho) hf, fun Z D3 ρ M σ H D r h en => ?_⟩
  unfold wAug at h
  split at h
  · rename_i d e1
    obtain ⟨v, e2, rp⟩ := r.env.2 i d e1
    refine ⟨v, e2, he.sm Z ρ M σ H _ _ r h fun y d2 H1 M1 g1 r1 q1 => ?_⟩
    refine sim_I0 (g := fun i j => .int (g i j)) (fun _ _ _ => .int _) Z v y d d2 H1 M1 _ _ g1.sat (rp.up g1.ex) r1 q1 fun z d3 H2 M2 g2 r2 q2 => ?_
    exact en.nx _ M2 _ H2 ⟨g2.sat, ((r.go (g1.trans g2)).env.set i r2)⟩ (g1.trans g2) q2
  · exact h.elim
end
end L3
namespace L3
open PySem L2
section
variable {X : Cx} {E : WX3} {e a b c : Expr} {es : List Expr} {t ta tb tc te : TE} {w wa wb wc we : WE} {pos : Pos} {k : Nat} {tr : TA} {wr : WA} {st : Stmt} {rest : List Stmt} {ts tu : TS} {ws wu : WS} {tA : TT} {wA : WT} {tg : TG} {wg : WG} {tgt : Expr}
/-! ### what is walked -/
/-- the iterator yields the data ds, one by one, as long as Ok holds of the store -/
def Walks3 (K : PySem.W.Frag) (Z : Hp) (H : Hp) (M : Mp) (J : It) (ds : List D) (Ok : Mp → Prop) : Prop := ∀ (Z2 H2 : Hp) (M2 : Mp), Sat K Z2 H2 M2 → Same (fz Z H M) (fz Z2 H2 M2) → Ok M2 →
  (∀ (i : Nat) (d : D), ds[i]? = some d → J.go i H2 ∧ ∀ x H3, J.yld i H2 x H3 → Go K Z2 H2 M2 H3 M2 ∧ Rep K (fz Z2 H3 M2) x d) ∧ ∀ i, ds.length ≤ i → J.stop i H2
abbrev WI := En → Mp → (List D → (Mp → Prop) → Mp → Prop) → Prop
def SimI (K : PySem.W.Frag) (t : TI) (w : WI) : Prop := ∀ (Z : Hp) (ρ : En) (M : Mp) (σ : L2.St) (H : Hp) (R : List D → (Mp → Prop) → Mp → Prop) (R' : It → Hp → Prop), R3 K Z ρ M σ H → w ρ M R → (∀ J ds Ok H' M', Go K Z H M H' M' → Walks3 K Z H' M' J ds Ok → R ds Ok M' → R' J H') → t σ H R'
structure DI (X : Cx) (tgt e : Expr) (t : TI) (w : WI) : Prop where
  pe : PI X tgt e t
  sm : SimI X.K t w
def AnyM : Mp → Prop := fun _ => True
/-- a list, a tuple -/
def iSeq (K : PySem.W.Frag) (tl : TE) : TI := fun σ H R => tl σ H fun x J => ∃ p, x = .ref p ∧ (((∃ xs, SqL K J p xs) ∧ R (Itl K p) J) ∨ ((∃ xs, SqT K J p xs) ∧ R (Itt K p) J))
theorem pi_seq {l : Expr} {tl : TE} (hl : PE X l tl) : PI X tgt l (iSeq X.K tl) := by
  constructor
  intro pins s σ H R I h
  refine thn (hl.run pins s σ H _ I h) fun v s1 ⟨x, H1, I1, r1, p, e, q1⟩ => ?_
  subst e
  cases r1
  rcases q1 with ⟨⟨xs, hq⟩, q⟩ | ⟨⟨xs, hq⟩, q⟩
  · obtain ⟨its, rv, pl, hz⟩ := I1.list hq
    refine wpAny_pyIter_list pl.isList ?_
    refine ⟨s1.heap.objs.size, [s1.heap.objs.size], _, _, H1, rfl, I1.kept (t' := s1.toks) fun b o e => Heap.get?_push_of_some _ e, turn_list p _, ⟨_, Heap.get?_push_size _ rfl, rfl, rfl⟩, fun b hb => ?_, q⟩
    obtain rfl : b = s1.heap.objs.size := by simpa using hb
    exact I1.fpOk (Nat.le_refl _) (I1.hok.fresh (Nat.le_refl _))
  · obtain ⟨its, rv, pl, hz⟩ := I1.tuple hq
    refine wpAny_pyIter_tuple (show s1.heap.IsTuple p its.toArray from pl) ?_
    refine ⟨s1.heap.objs.size, [s1.heap.objs.size], _, _, H1, rfl, I1.kept (t' := s1.toks) fun b o e => Heap.get?_push_of_some _ e, turn_tuple p _, ⟨_, Heap.get?_push_size _ rfl, rfl, rfl⟩, fun b hb => ?_, q⟩
    obtain rfl : b = s1.heap.objs.size := by simpa using hb
    exact I1.fpOk (Nat.le_refl _) (I1.hok.fresh (Nat.le_refl _))
def wiSeq (w : WE) : WI := fun ρ M R => w ρ M fun d M1 => match d with
  | .tup ds => R ds AnyM M1
  | .lst ds => R ds AnyM M1
  | .tok p => ∃ ds, M1 p = some (.lst ds) ∧ R ds (fun M2 => M2 p = some (.lst ds)) M1
  | _ => False
theorem walks_l {K : PySem.W.Frag} {Z H : Hp} {M : Mp} {p : Addr} {vs : List V} {ds : List D} (h : SqL K (fz Z H M) p vs) (r : RepL K (fz Z H M) vs ds) : Walks3 K Z H M (Itl K p) ds AnyM := by
  intro Z2 H2 M2 S ex _
  have hq : SqL K H2 p vs := (ex.trans fz_sub).seq h
  refine ⟨fun i d e => ?_, fun i hi => ⟨vs, hq, by rw [r.len]; exact hi⟩⟩
  obtain ⟨v, e1, rp⟩ := r.get e
  refine ⟨⟨vs, v, hq, e1⟩, fun x H3 ⟨e2, y⟩ => ?_⟩
  subst e2
  obtain rfl : x = v := Option.some.inj ((y vs hq).symm.trans e1)
  exact ⟨Go.refl S, rp.up ex⟩
theorem walks_t {K : PySem.W.Frag} {Z H : Hp} {M : Mp} {p : Addr} {vs : List V} {ds : List D} (h : SqT K (fz Z H M) p vs) (r : RepL K (fz Z H M) vs ds) : Walks3 K Z H M (Itt K p) ds AnyM := by
  intro Z2 H2 M2 S ex _
  have hq : SqT K H2 p vs := sqt_mono (ex.trans fz_sub) h
  refine ⟨fun i d e => ?_, fun i hi => ⟨vs, hq, by rw [r.len]; exact hi⟩⟩
  obtain ⟨v, e1, rp⟩ := r.get e
  refine ⟨⟨vs, v, hq, e1⟩, fun x H3 ⟨e2, y⟩ => ?_⟩
  subst e2
  obtain rfl : x = v := Option.some.inj ((y vs hq).symm.trans e1)
  exact ⟨Go.refl S, rp.up ex⟩
theorem walks_m {K : PySem.W.Frag} {Z H : Hp} {M : Mp} {p : Addr} {ds : List D} : Walks3 K Z H M (Itl K p) ds (fun M2 => M2 p = some (.lst ds)) := by
  intro Z2 H2 M2 S ex ok
  obtain ⟨vs, e0, r⟩ := S.cell p _ ok
  have hq : SqL K H2 p vs := .inl (.inl e0)
  refine ⟨fun i d e => ?_, fun i hi => ⟨vs, hq, by rw [r.len]; exact hi⟩⟩
  obtain ⟨v, e1, rp⟩ := r.get e
  refine ⟨⟨vs, v, hq, e1⟩, fun x H3 ⟨e2, y⟩ => ?_⟩
  subst e2
  have e3 := y vs hq
  obtain rfl : x = v := Option.some.inj (e3.symm.trans e1)
  exact ⟨Go.refl S, rp⟩
theorem di_seq (h : DE X e te we) : DI X tgt e (iSeq X.K te) (wiSeq we) := by
  refine ⟨pi_seq h.pe, fun Z ρ M σ H R R' s hw q => ?_⟩
  refine h.sm Z ρ M σ H _ _ s hw fun x d H1 M1 g1 r1 q1 => ?_
  cases d with
  | tup ds =>
    cases r1 with
    | tup hs rl => exact ⟨_, rfl, .inr ⟨⟨_, sqt_mono fz_sub hs⟩, q _ _ _ H1 M1 g1 (walks_t hs rl) q1⟩⟩
  | lst ds =>
    cases r1 with
    | lst hs rl => exact ⟨_, rfl, .inl ⟨⟨_, fz_sub.seq hs⟩, q _ _ _ H1 M1 g1 (walks_l hs rl) q1⟩⟩
  | tok p =>
    cases r1
    obtain ⟨ds, hm, z⟩ := q1
    obtain ⟨vs, e1, rl⟩ := g1.sat.cell p _ hm
    exact ⟨_, rfl, .inl ⟨⟨vs, .inl (.inl e1)⟩, q _ _ _ H1 M1 g1 walks_m z⟩⟩
  | _ => exact q1.elim
/-- range(n), range(a, b) -/
def intsD (lo : Int) (n : Nat) : List D := (List.range n).map fun (i : Nat) => D.int (lo + (i : Int))
theorem walks_r {K : PySem.W.Frag} {Z H : Hp} {M : Mp} (lo : Int) (n : Nat) : Walks3 K Z H M (Itr lo n) (intsD lo n) AnyM := by
  intro Z2 H2 M2 S ex _
  refine ⟨fun i d e => ?_, fun i hi => ?_⟩
  · have hi : i < n := by
      have z := (List.getElem?_eq_some_iff.mp e).1
      unfold intsD at z
      rw [List.length_map, List.length_range] at z
      exact z
    have ed : d = .int (lo + (i : Int)) := by
      unfold intsD at e
      rw [List.getElem?_map, List.getElem?_range hi] at e
      exact (Option.some.inj e).symm
    subst ed
    refine ⟨hi, fun x H3 ⟨e1, e2⟩ => ?_⟩
    subst e1
    subst e2
    exact ⟨Go.refl S, .int _⟩
  · unfold intsD at hi
    rw [List.length_map, List.length_range] at hi
    exact hi
def wiRange1 (w : WA) : WI := fun ρ M R => w ρ M fun ds M1 => match ds with
  | [.int j] => j < 2 ^ 62 ∧ -(2 ^ 62) ≤ j ∧ R (intsD 0 j.toNat) AnyM M1
  | _ => False
theorem di_range1 {p : Pos} (hm : X.mg "range" = none) (ha : DA X [a] tr wr) (hg : Gl X "range" := by rfl) (hs : starEach [a] X.env = [(false, eval a X.env)] := by rfl) : DI X tgt (.Call (.Name "range" p) [a] [] pos) (iRng1 tr) (wiRange1 wr) := by
  refine ⟨pi_range1 hg hm ha.pe hs, fun Z ρ M σ H R R' s hw q => ?_⟩
  refine ha.sm Z ρ M σ H _ _ s hw fun xs ds H1 M1 g1 r1 q1 => ?_
  unfold wiRange1 at hw
  split at q1
  · cases r1 with
    | cons r1 r2 =>
      cases r1
      cases r2
      exact ⟨_, rfl, q1.2.1, q1.1, q _ _ _ H1 M1 g1 (walks_r _ _) q1.2.2⟩
  · exact q1.elim
def wiRange2 (w : WA) : WI := fun ρ M R => w ρ M fun ds M1 => match ds with
  | [.int i, .int j] => (-(2 ^ 62) ≤ i ∧ i < 2 ^ 62 ∧ -(2 ^ 62) ≤ j ∧ j < 2 ^ 62) ∧ R (intsD i (j - i).toNat) AnyM M1
  | _ => False
theorem di_range2 {p : Pos} (hm : X.mg "range" = none) (ha : DA X [a, b] tr wr) (hg : Gl X "range" := by rfl) (hs : starEach [a, b] X.env = [(false, eval a X.env), (false, eval b X.env)] := by rfl) (hs2 : starEach [b] X.env = [(false, eval b X.env)] := by rfl) : DI X tgt (.Call (.Name "range" p) [a, b] [] pos) (iRng2 tr) (wiRange2 wr) := by
  refine ⟨pi_range2 hg hm ha.pe hs hs2, fun Z ρ M σ H R R' s hw q => ?_⟩
  refine ha.sm Z ρ M σ H _ _ s hw fun xs ds H1 M1 g1 r1 q1 => ?_
  split at q1
  · cases r1 with
    | cons r1 r2 =>
      cases r1
      cases r2 with
      | cons r2 r3 =>
        cases r2
        cases r3
        exact ⟨_, _, rfl, q1.1, q _ _ _ H1 M1 g1 (walks_r _ _) q1.2⟩
  · exact q1.elim
/-- a text, sign by sign -/
def signs (x : Str) : List D := x.cps.toList.map fun c => D.str ⟨#[c]⟩
def wiStr (w : WE) : WI := fun ρ M R => w ρ M fun d M1 => match d with
  | .str x => R (signs x) AnyM M1
  | _ => False
theorem walks_s {K : PySem.W.Frag} {Z H : Hp} {M : Mp} (x : Str) : Walks3 K Z H M (Its x) (signs x) AnyM := by
  intro Z2 H2 M2 S ex _
  refine ⟨fun i d e => ?_, fun i hi => ?_⟩
  · unfold signs at e
    rw [List.getElem?_map] at e
    cases q : x.cps.toList[i]? with
    | none =>
      rw [q] at e
      cases e
    | some c =>
      rw [q] at e
      obtain rfl : D.str ⟨#[c]⟩ = d := Option.some.inj e
      have hi : i < x.cps.size := by
        have z := (List.getElem?_eq_some_iff.mp q).1
        rw [Array.length_toList] at z
        exact z
      refine ⟨hi, fun y H3 ⟨e1, c', hc, e2⟩ => ?_⟩
      subst e1
      subst e2
      have e3 : x.cps[i]? = some c := by
        rw [← Array.getElem?_toList]
        exact q
      rw [e3] at hc
      cases hc
      exact ⟨Go.refl S, .str _⟩
  · unfold signs at hi
    rw [List.length_map, Array.length_toList] at hi
    exact hi
theorem di_str (h : DE X e te we) : DI X tgt e (iStr te) (wiStr we) := by
  refine ⟨pi_str h.pe, fun Z ρ M σ H R R' s hw q => ?_⟩
  refine h.sm Z ρ M σ H _ _ s hw fun x d H1 M1 g1 r1 q1 => ?_
  cases d with
  | str y =>
    cases r1
    exact ⟨y, rfl, q _ _ _ H1 M1 g1 (walks_s y) q1⟩
  | _ => exact q1.elim

/-! ### for -/
def wLoop (g : WG) (wb : WS) (Ok : Mp → Prop) (D3 : Ends3) : List D → En → Mp → Prop
  | [], ρ, M => Ok M ∧ D3.nx ρ M
  | d :: ds, ρ, M => Ok M ∧ g d ρ M fun ρ1 M1 => wb { D3 with nx := wLoop g wb Ok D3 ds, ct := wLoop g wb Ok D3 ds, bk := D3.nx } ρ1 M1
def wFor (wi : WI) (g : WG) (wb : WS) : WS := fun D3 ρ M => wi ρ M fun ds Ok M1 => wLoop g wb Ok D3 ds ρ M1
theorem sim_for {ti : TI} {wi : WI} (K : PySem.W.Frag) (hi : SimI K ti wi) (hg : SimG K tg wg) (hb : SimS K E ts ws) : SimS K E (tFor ti tg ts) (wFor wi wg ws) := by
  intro Z D3 ρ M σ H D r h en
  refine hi Z ρ M σ H _ _ r h fun J ds Ok H1 M1 g1 wk q1 => ?_
  refine ⟨fun i m σ' H' => m + i = ds.length ∧ ∃ ρ' M', R3 K Z ρ' M' σ' H' ∧ Go K Z H1 M1 H' M' ∧ wLoop wg ws Ok D3 (ds.drop i) ρ' M', ⟨ds.length, rfl, ρ, M1, r.go g1, Go.refl g1.sat, q1⟩, fun i m σ' H' ⟨em, ρ', M', r', g', l⟩ => ?_⟩
  by_cases hlt : i < ds.length
  · have e : ds.drop i = ds[i] :: ds.drop (i + 1) := List.drop_eq_getElem_cons hlt
    rw [e] at l
    obtain ⟨ok, l⟩ := l
    obtain ⟨go, yl⟩ := (wk Z H' M' g'.sat g'.ex ok).1 i ds[i] (List.getElem?_eq_getElem hlt)
    refine .inr ⟨go, fun σ2 H2 => ∃ ρ2 M2, R3 K Z ρ2 M2 σ2 H2 ∧ Go K Z H1 M1 H2 M2 ∧ wLoop wg ws Ok D3 (ds.drop (i + 1)) ρ2 M2, fun σ2 H2 ⟨ρ2, M2, r2, g2, l2⟩ => ⟨m - 1, by omega, by omega, ρ2, M2, r2, g2, l2⟩, fun x H3 hy => ?_⟩
    obtain ⟨g3, rp⟩ := yl x H3 hy
    refine hg Z x _ ρ' M' σ' H3 _ _ (r'.go g3) rp l fun ρ4 M4 σ4 H4 r4 g4 z => ?_
    have g14 := (g'.trans g3).trans g4
    refine hb Z _ ρ4 M4 σ4 H4 _ r4 z ⟨fun ρ5 M5 σ5 H5 r5 g5 z5 => ⟨ρ5, M5, r5, g14.trans g5, z5⟩, fun v d H5 M5 g5 rp5 z5 => en.rt v d H5 M5 ((g1.trans g14).trans g5) rp5 z5,
      fun ρ5 M5 σ5 H5 r5 g5 z5 => en.nx ρ5 M5 σ5 H5 r5 ((g1.trans g14).trans g5) z5, fun ρ5 M5 σ5 H5 r5 g5 z5 => ⟨ρ5, M5, r5, g14.trans g5, z5⟩, fun x C dx vs fs ρ5 σ5 H5 M5 ca5 r5 g5 e5 l5 rf5 z5 => en.xr x C dx vs fs ρ5 σ5 H5 M5 ca5 r5 ((g1.trans g14).trans g5) e5 l5 rf5 z5⟩
  · have e : ds.drop i = [] := List.drop_eq_nil_of_le (by omega)
    rw [e] at l
    exact .inl ⟨(wk Z H' M' g'.sat g'.ex l.1).2 i (by omega), en.nx ρ' M' σ' H' r' (g1.trans g') l.2⟩
theorem ds_for {ti : TI} {wi : WI} {body : List Stmt} (hp : PassesOwn (model X.prog X.w) X.A X.env X.xe) (hc : X.calm = true) (hi : DI X tgt e ti wi) (hg : DG X tgt tg wg) (hb : DSs X E body ts ws) (hs : ∀ x, foldedSetIterable e X.env x = pure x := by intro _; rfl) :
    DS X E (.For tgt e body [] pos) (tFor ti tg ts) (wFor wi wg ws) := ⟨ps_for hp hc hi.pe hg.pe hb.pe hs, sim_for X.K hi.sm hg.sm hb.sm⟩

/-! ### while -/
def wWhile (c : WT) (wb : WS) : WS := fun D3 ρ M => ∃ W : Nat → En → Mp → Prop, (∃ m, W m ρ M) ∧ ∀ m ρ M, W m ρ M →
  c ρ M fun b M1 => if b = true then wb { D3 with nx := fun ρ' M' => ∃ m', m' < m ∧ W m' ρ' M', ct := fun ρ' M' => ∃ m', m' < m ∧ W m' ρ' M', bk := D3.nx } ρ M1 else D3.nx ρ M1
theorem ds_while {body : List Stmt} {c : Expr} (hp : PassesOwn (model X.prog X.w) X.A X.env X.xe) (hc : DT X c tA wA) (hb : DSs X E body ts ws) : DS X E (.While c body [] pos) (tWhile tA ts) (wWhile wA ws) := by
  refine ⟨ps_while hp hc.pe hb.pe, fun Z D3 ρ M σ H D r h en => ?_⟩
  obtain ⟨W, ⟨m0, w0⟩, turn⟩ := h
  refine ⟨fun m σ' H' => ∃ ρ' M', R3 X.K Z ρ' M' σ' H' ∧ Go X.K Z H M H' M' ∧ W m ρ' M', ⟨m0, ρ, M, r, r.refl, w0⟩, fun m σ' H' ⟨ρ', M', r', g', w'⟩ => ?_⟩
  refine hc.sm Z ρ' M' σ' H' _ _ r' (turn m ρ' M' w') fun b H1 M1 g1 z => ?_
  cases b with
  | true =>
    rw [if_pos rfl] at z ⊢
    refine ⟨fun σ2 H2 => ∃ m', m' < m ∧ ∃ ρ2 M2, R3 X.K Z ρ2 M2 σ2 H2 ∧ Go X.K Z H M H2 M2 ∧ W m' ρ2 M2, fun _ _ z2 => z2, ?_⟩
    have g := g'.trans g1
    exact hb.sm Z _ ρ' M1 σ' H1 _ (r'.go g1) z ⟨fun ρ5 M5 σ5 H5 r5 g5 ⟨m', l, z5⟩ => ⟨m', l, ρ5, M5, r5, g.trans g5, z5⟩, fun v d H5 M5 g5 rp5 z5 => en.rt v d H5 M5 (g.trans g5) rp5 z5,
      fun ρ5 M5 σ5 H5 r5 g5 z5 => en.nx ρ5 M5 σ5 H5 r5 (g.trans g5) z5, fun ρ5 M5 σ5 H5 r5 g5 ⟨m', l, z5⟩ => ⟨m', l, ρ5, M5, r5, g.trans g5, z5⟩, fun x C dx vs fs ρ5 σ5 H5 M5 ca5 r5 g5 e5 l5 rf5 z5 => en.xr x C dx vs fs ρ5 σ5 H5 M5 ca5 r5 (g.trans g5) e5 l5 rf5 z5⟩
  | false =>
    rw [if_neg Bool.false_ne_true] at z ⊢
    exact en.nx ρ' M1 σ' H1 (r'.go g1) (g'.trans g1) z
end
end L3
namespace L3
open PySem L2
section
variable {X : Cx} {E : WX3} {e a b c elt iter tgt : Expr} {es ifs : List Expr} {t ta tb tc te : TE} {w wa wb wc we : WE} {pos : Pos} {k : Nat} {tr : TA} {wr : WA} {tt : TT} {wt : WT} {tg : TG} {wg : WG} {ti : TI} {wi : WI}
/-! ### comprehensions -/
def wipeE (ρ : En) : List Nat → En
  | [] => ρ
  | v :: vs => (wipeE ρ vs).set v none
theorem wipe_rel {K : PySem.W.Frag} {H : Hp} {σ : L2.St} {ρ : En} (r : RelS K H σ ρ) : ∀ vs : List Nat, RelS K H (wipe σ vs) (wipeE ρ vs)
  | [] => r
  | v :: vs => by
    have ih := wipe_rel r vs
    refine ⟨by show ((wipe σ vs).set v none).length = ((wipeE ρ vs).set v none).length; rw [List.length_set, List.length_set]; exact ih.1, fun i d q => ?_⟩
    have q' : ((wipeE ρ vs).set v none)[i]? = some (some d) := q
    by_cases hi : v = i
    · subst hi
      rw [List.getElem?_set_self'] at q'
      cases z : (wipeE ρ vs)[v]? with
      | none =>
        rw [z] at q'
        cases q'
      | some o =>
        rw [z] at q'
        cases q'
    · rw [List.getElem?_set_ne hi] at q'
      obtain ⟨u, h1, h2⟩ := ih.2 i d q'
      exact ⟨u, by show ((wipe σ vs).set v none)[i]? = _; rw [List.getElem?_set_ne hi]; exact h1, h2⟩
theorem wipe_set {σ : L2.St} {j : Nat} {o : Option V} : ∀ {vs : List Nat}, j ∈ vs → wipe (σ.set j o) vs = wipe σ vs
  | v :: vs, h => by
    show (wipe (σ.set j o) vs).set v none = (wipe σ vs).set v none
    by_cases hm : j ∈ vs
    · rw [wipe_set hm]
    · have hj : j = v := (List.mem_cons.mp h).resolve_right hm
      subst hj
      have cm : ∀ (us : List Nat), wipe (σ.set j o) us = wipe σ us ∨ wipe (σ.set j o) us = (wipe σ us).set j o := fun us => by
        induction us with
        | nil => exact .inr rfl
        | cons u us ih =>
          rcases ih with h1 | h1
          · left
            show (wipe (σ.set j o) us).set u none = (wipe σ us).set u none
            rw [h1]
          · by_cases hu : u = j
            · subst hu
              left
              show (wipe (σ.set u o) us).set u none = (wipe σ us).set u none
              rw [h1, List.set_set]
            · right
              show (wipe (σ.set j o) us).set u none = ((wipe σ us).set u none).set j o
              rw [h1, List.set_comm _ _ (Ne.symm hu)]
      rcases cm vs with h1 | h1
      · rw [h1]
      · rw [h1, List.set_set]
/-- the target stores into the block's own slots alone -/
def KeepG (vs : List Nat) (tg : TG) : Prop := ∀ (v : V) (σ0 σ : L2.St) (H : Hp) (Q : L2.St → Hp → Prop), wipe σ vs = σ0 → tg v σ H Q → tg v σ H fun σ2 H2 => wipe σ2 vs = σ0 ∧ Q σ2 H2
def KeepGs (vs : List Nat) (tg : TGs) : Prop := ∀ (v : List V) (σ0 σ : L2.St) (H : Hp) (Q : L2.St → Hp → Prop), wipe σ vs = σ0 → tg v σ H Q → tg v σ H fun σ2 H2 => wipe σ2 vs = σ0 ∧ Q σ2 H2
theorem keep_name {vs : List Nat} {j : Nat} (h : j ∈ vs := by decide) : KeepG vs (gName j) := fun v σ0 σ H Q e q => ⟨by rw [wipe_set h]; exact e, q⟩
theorem keep_nil {vs : List Nat} : KeepGs vs gNil := fun v σ0 σ H Q e q => ⟨q.1, e, q.2⟩
theorem keep_cons {vs : List Nat} {t : TG} {u : TGs} (h1 : KeepG vs t) (h2 : KeepGs vs u) (mono : ∀ v σ H (Q Q' : L2.St → Hp → Prop), (∀ s J, Q s J → Q' s J) → t v σ H Q → t v σ H Q') : KeepGs vs (gCons t u) := fun v σ0 σ H Q e q => by
  obtain ⟨x, r, e1, q⟩ := q
  refine ⟨x, r, e1, ?_⟩
  exact mono x σ H _ _ (fun s J z => h2 r σ0 s J Q z.1 z.2) (h1 x σ0 σ H _ e q)
theorem mono_name {j : Nat} : ∀ v σ H (Q Q' : L2.St → Hp → Prop), (∀ s J, Q s J → Q' s J) → gName j v σ H Q → gName j v σ H Q' := fun _ _ _ _ _ h q => h _ _ q
theorem keep_tup {vs : List Nat} {K : PySem.W.Frag} {n : Nat} {u : TGs} (h : KeepGs vs u) : KeepG vs (gTup K n u) := fun v σ0 σ H Q e q => by
  obtain ⟨p, xs, e1, h1, h2, q⟩ := q
  exact ⟨p, xs, e1, h1, h2, h xs σ0 σ H Q e q⟩
structure DTs (X : Cx) (ifs : List Expr) (t : TT) (w : WT) : Prop where
  pe : PTs X ifs t
  sm : SimT X.K t w
def wYes : WT := fun _ M Q => Q true M
theorem dts_nil : DTs X [] tYes wYes := ⟨pts_nil, fun Z ρ M σ H Q Q' s h q => q true H M s.refl h⟩
theorem dts_one (h : DT X e tt wt) : DTs X [e] tt wt := ⟨pts_one h.pe, h.sm⟩
def wLcL (g : WG) (wt : WT) (we : WE) (Ok : Mp → Prop) (ρ : En) : List D → List D → Mp → KD → Prop
  | [], acc, M, Q => Ok M ∧ Q (.lst acc) M
  | d :: ds, acc, M, Q => Ok M ∧ acc.length < sizeLine ∧ g d ρ M fun ρ1 M1 => wt ρ1 M1 fun b M2 => if b = true then we ρ1 M2 fun y M3 => wLcL g wt we Ok ρ ds (acc ++ [y]) M3 Q else wLcL g wt we Ok ρ ds acc M2 Q
def wLc (wi : WI) (g : WG) (wt : WT) (we : WE) (vs : List Nat) : WE := fun ρ M Q => wi ρ M fun ds Ok M1 => wLcL g wt we Ok (wipeE ρ vs) ds [] M1 Q
theorem sim_lc {K : PySem.W.Frag} {vs : List Nat} (hi : SimI K ti wi) (hg : SimG K tg wg) (ht : SimT K tt wt) (he : SimE K te we) (kp : KeepG vs tg) : SimE K (tLc ti tg tt te vs) (wLc wi wg wt we vs) := by
  intro Z ρ M σ H Q Q' r h q
  refine hi Z ρ M σ H _ _ r h fun J ds Ok H1 M1 g1 wk q1 => ?_
  intro D hD
  have m1 := g1.sat.free hD
  have z1 := g1.sat.freeZ hD
  have f1 : fz Z H1 M1 D = none := by
    rw [fz_none m1 z1]
    exact hD
  have s0 := Sat.swap (Z' := upd Z D (.lst [])) (H' := upd H1 D (.lst [])) g1.sat m1 f1 (fun b hb => upd_ne hb) (fun b hb => upd_ne hb) (fun o e => by rw [upd_same] at e ⊢; exact e)
  refine ⟨fun i m H' => m + i = ds.length ∧ ∃ (acc : List L3.D) (va : List V) (M' : Mp), Sat K (upd Z D (.lst va)) H' M' ∧ Same (fz Z H1 M1) (fz (upd Z D (.lst va)) H' M') ∧ RepL K (fz (upd Z D (.lst va)) H' M') va acc ∧ wLcL wg wt we Ok (wipeE ρ vs) (ds.drop i) acc M' Q,
    ⟨ds.length, rfl, [], [], M1, s0.1, s0.2, .nil, q1⟩, fun i m H' ⟨em, acc, va, M', S, ex, ra, l⟩ => ?_⟩
  have zd : upd Z D (.lst va) D = some (.lst va) := upd_same
  by_cases hlt : i < ds.length
  · have e : ds.drop i = ds[i] :: ds.drop (i + 1) := List.drop_eq_getElem_cons hlt
    rw [e] at l
    obtain ⟨ok, hacc, l⟩ := l
    obtain ⟨go, yl⟩ := (wk _ H' M' S ex ok).1 i ds[i] (List.getElem?_eq_getElem hlt)
    refine .inr ⟨go, fun H2 => ∃ (acc : List L3.D) (va : List V) (M' : Mp), Sat K (upd Z D (.lst va)) H2 M' ∧ Same (fz Z H1 M1) (fz (upd Z D (.lst va)) H2 M') ∧ RepL K (fz (upd Z D (.lst va)) H2 M') va acc ∧ wLcL wg wt we Ok (wipeE ρ vs) (ds.drop (i + 1)) acc M' Q,
      fun H2 z => ⟨m - 1, by omega, by omega, z⟩, fun x H3 hy => ?_⟩
    obtain ⟨g3, rp⟩ := yl x H3 hy
    have r3 : R3 K (upd Z D (.lst va)) (wipeE ρ vs) M' (wipe σ vs) H3 := ⟨g3.sat, (wipe_rel (r.env.up g1.ex) vs).up (ex.trans g3.ex)⟩
    have ww : wipe (wipe σ vs) vs = wipe σ vs := by
      have idem : ∀ us : List Nat, (∀ u ∈ us, u ∈ vs) → wipe (wipe σ us) vs = wipe σ vs := fun us => by
        induction us with
        | nil => intro _; rfl
        | cons u us ih =>
          intro hu
          show wipe ((wipe σ us).set u none) vs = _
          rw [wipe_set (hu u List.mem_cons_self)]
          exact ih fun y hy => hu y (List.mem_cons_of_mem _ hy)
      exact idem vs fun u hu => hu
    refine kp x _ _ H3 _ ww ?_
    refine hg _ x _ _ M' _ H3 _ _ r3 rp l fun ρ4 M4 σ4 H4 r4 g4 z => ?_
    refine ht _ ρ4 M4 σ4 H4 _ _ r4 z fun b H5 M5 g5 z5 => ?_
    have g35 := (g3.trans g4).trans g5
    cases b with
    | true =>
      rw [if_pos rfl] at z5 ⊢
      refine he _ ρ4 M5 σ4 H5 _ _ (r4.go g5) z5 fun y d H6 M6 g6 r6 z6 => ?_
      have g36 := g35.trans g6
      have h6 := g36.sat.zed D _ zd
      refine ⟨va, h6.1, by rw [ra.len]; exact hacc, ?_⟩
      have s6 := Sat.swap (Z' := upd Z D (.lst (va ++ [y]))) (H' := upd H6 D (.lst (va ++ [y]))) g36.sat h6.2 (fz_hid zd) (fun b hb => upd_ne hb) (fun b hb => by rw [upd_ne hb, upd_ne hb]) (fun o e => by rw [upd_same] at e ⊢; exact e)
      exact ⟨acc ++ [d], va ++ [y], M6, s6.1, (ex.trans g36.ex).trans s6.2, ((ra.up g36.ex).up s6.2).app (.cons (r6.up s6.2) .nil), z6⟩
    | false =>
      rw [if_neg Bool.false_ne_true] at z5 ⊢
      exact ⟨acc, va, M5, g35.sat, ex.trans g35.ex, ra.up g35.ex, z5⟩
  · have e : ds.drop i = [] := List.drop_eq_nil_of_le (by omega)
    rw [e] at l
    have hd := S.zed D _ zd
    have s2 := Sat.swap (Z' := Z) (H' := H') S hd.2 (fz_hid zd) (fun b hb => rfl) (fun b hb => by rw [upd_ne hb]) (fun o e => by rw [z1] at e; cases e)
    refine .inl ⟨(wk _ H' M' S ex l.1).2 i (by omega), ?_⟩
    exact q _ _ H' M' ⟨s2.1, (g1.ex.trans ex).trans s2.2⟩ (.lst (.inl (.inl (fz_to hd.2 z1 hd.1))) (ra.up s2.2)) l.2
theorem de_lc0 {scope : Scope} {own : List (Str × Nat)} (hc : X.calm = true) (hN : X.N.Nodup) (hi : DI X tgt iter ti wi) (ok : BlkOk X.N X.env.scope scope own)
    (hg : ∀ (s : Shared) (H : Hp) (C : Addr) (cl : List (Str × Addr)) (fp : List Addr), DG (X.blk s H scope (compEnvC scope cl C X.env) fp) tgt tg wg) (ht : ∀ (s : Shared) (H : Hp) (C : Addr) (cl : List (Str × Addr)) (fp : List Addr), DTs (X.blk s H scope (compEnvC scope cl C X.env) fp) ifs tt wt)
    (he : ∀ (s : Shared) (H : Hp) (C : Addr) (cl : List (Str × Addr)) (fp : List Addr), DE (X.blk s H scope (compEnvC scope cl C X.env) fp) elt te we) (kp : KeepG (own.map (·.2)) tg) (hs : ∀ x, foldedSetIterable iter X.env x = pure x := by intro _; rfl) :
    DE X (.ListComp elt [⟨tgt, iter, ifs, 0⟩] scope pos) (tLc ti tg tt te (own.map (·.2))) (wLc wi wg wt we (own.map (·.2))) :=
  ⟨pe_lc hc hN hi.pe ok (fun s H C cl fp => (hg s H C cl fp).pe) (fun s H C cl fp => (ht s H C cl fp).pe) (fun s H C cl fp => (he s H C cl fp).pe) hs, sim_lc hi.sm (hg X.s_0 X.H_0 0 [] []).sm (ht X.s_0 X.H_0 0 [] []).sm (he X.s_0 X.H_0 0 [] []).sm kp⟩
/-- name = [..] on one line -/
theorem ds_setLc0 (i : Nat) {y : Str} {py : Pos} {scope : Scope} {own : List (Str × Nat)} {spos : Pos} (hc : X.calm = true) (hN : X.N.Nodup)
    (hi : DI X tgt iter ti wi) (ok : BlkOk X.N X.env.scope scope own)
    (hg : ∀ (s : Shared) (H : Hp) (C : Addr) (cl : List (Str × Addr)) (fp : List Addr), DG (X.blk s H scope (compEnvC scope cl C X.env) fp) tgt tg wg) (ht : ∀ (s : Shared) (H : Hp) (C : Addr) (cl : List (Str × Addr)) (fp : List Addr), DTs (X.blk s H scope (compEnvC scope cl C X.env) fp) ifs tt wt)
    (he : ∀ (s : Shared) (H : Hp) (C : Addr) (cl : List (Str × Addr)) (fp : List Addr), DE (X.blk s H scope (compEnvC scope cl C X.env) fp) elt te we) (kp : KeepG (own.map (·.2)) tg)
    (hsw : swapsWith (.ListComp elt [⟨tgt, iter, ifs, 0⟩] scope pos) (some (.Name y py)) spos.line X.env = pure true) (hy : X.N[i]? = some y := by rfl) (hyl : X.env.scope.names.lookup y = some .local := by rfl) (hs : ∀ x, foldedSetIterable iter X.env x = pure x := by intro _; rfl) :
    DS X E (.Assign [.Name y py] (.ListComp elt [⟨tgt, iter, ifs, 0⟩] scope pos) spos) (tAsg (tLc ti tg tt te (own.map (·.2))) (gName i)) (wAsg (wLc wi wg wt we (own.map (·.2))) (wgName i)) :=
  ⟨ps_setLc hc hN hy hyl hsw hi.pe ok (fun s H C cl fp => (hg s H C cl fp).pe) (fun s H C cl fp => (ht s H C cl fp).pe) (fun s H C cl fp => (he s H C cl fp).pe) hs, sim_asg (sim_lc hi.sm (hg X.s_0 X.H_0 0 [] []).sm (ht X.s_0 X.H_0 0 [] []).sm (he X.s_0 X.H_0 0 [] []).sm kp) (sim_gname i)⟩

section
variable {scope : Scope} {own : List (Str × Nat)} {gF : Shared → Hp → Addr → List (Str × Addr) → List Addr → TG} {tF : Shared → Hp → Addr → List (Str × Addr) → List Addr → TT} {eF : Shared → Hp → Addr → List (Str × Addr) → List Addr → TE}
theorem de_lc (hc : X.calm = true) (hN : X.N.Nodup) (hi : DI X tgt iter ti wi) (ok : BlkOk X.N X.env.scope scope own)
    (hg : ∀ (s : Shared) (H : Hp) (C : Addr) (cl : List (Str × Addr)) (fp : List Addr), DG (X.blk s H scope (compEnvC scope cl C X.env) fp) tgt (gF s H C cl fp) wg) (ht : ∀ (s : Shared) (H : Hp) (C : Addr) (cl : List (Str × Addr)) (fp : List Addr), DTs (X.blk s H scope (compEnvC scope cl C X.env) fp) ifs (tF s H C cl fp) wt)
    (he : ∀ (s : Shared) (H : Hp) (C : Addr) (cl : List (Str × Addr)) (fp : List Addr), DE (X.blk s H scope (compEnvC scope cl C X.env) fp) elt (eF s H C cl fp) we) (kp : KeepG (own.map (·.2)) (gF X.s_0 X.H_0 0 [] [])) (hs : ∀ x, foldedSetIterable iter X.env x = pure x := by intro _; rfl)
    (qg : ∀ s H C cl fp, gF s H C cl fp = gF X.s_0 X.H_0 0 [] [] := by intros; rfl) (qt : ∀ s H C cl fp, tF s H C cl fp = tF X.s_0 X.H_0 0 [] [] := by intros; rfl) (qe : ∀ s H C cl fp, eF s H C cl fp = eF X.s_0 X.H_0 0 [] [] := by intros; rfl) :
    DE X (.ListComp elt [⟨tgt, iter, ifs, 0⟩] scope pos) (tLc ti (gF X.s_0 X.H_0 0 [] []) (tF X.s_0 X.H_0 0 [] []) (eF X.s_0 X.H_0 0 [] []) (own.map (·.2))) (wLc wi wg wt we (own.map (·.2))) :=
  de_lc0 hc hN hi ok (fun s H C cl fp => qg s H C cl fp ▸ hg s H C cl fp) (fun s H C cl fp => qt s H C cl fp ▸ ht s H C cl fp) (fun s H C cl fp => qe s H C cl fp ▸ he s H C cl fp) kp hs
theorem ds_setLc (i : Nat) {y : Str} {py : Pos} {spos : Pos} (hc : X.calm = true) (hN : X.N.Nodup) (hi : DI X tgt iter ti wi) (ok : BlkOk X.N X.env.scope scope own)
    (hg : ∀ (s : Shared) (H : Hp) (C : Addr) (cl : List (Str × Addr)) (fp : List Addr), DG (X.blk s H scope (compEnvC scope cl C X.env) fp) tgt (gF s H C cl fp) wg) (ht : ∀ (s : Shared) (H : Hp) (C : Addr) (cl : List (Str × Addr)) (fp : List Addr), DTs (X.blk s H scope (compEnvC scope cl C X.env) fp) ifs (tF s H C cl fp) wt)
    (he : ∀ (s : Shared) (H : Hp) (C : Addr) (cl : List (Str × Addr)) (fp : List Addr), DE (X.blk s H scope (compEnvC scope cl C X.env) fp) elt (eF s H C cl fp) we) (kp : KeepG (own.map (·.2)) (gF X.s_0 X.H_0 0 [] []))
    (hsw : swapsWith (.ListComp elt [⟨tgt, iter, ifs, 0⟩] scope pos) (some (.Name y py)) spos.line X.env = pure true) (hy : X.N[i]? = some y := by rfl) (hyl : X.env.scope.names.lookup y = some .local := by rfl) (hs : ∀ x, foldedSetIterable iter X.env x = pure x := by intro _; rfl)
    (qg : ∀ s H C cl fp, gF s H C cl fp = gF X.s_0 X.H_0 0 [] [] := by intros; rfl) (qt : ∀ s H C cl fp, tF s H C cl fp = tF X.s_0 X.H_0 0 [] [] := by intros; rfl) (qe : ∀ s H C cl fp, eF s H C cl fp = eF X.s_0 X.H_0 0 [] [] := by intros; rfl) :
    DS X E (.Assign [.Name y py] (.ListComp elt [⟨tgt, iter, ifs, 0⟩] scope pos) spos) (tAsg (tLc ti (gF X.s_0 X.H_0 0 [] []) (tF X.s_0 X.H_0 0 [] []) (eF X.s_0 X.H_0 0 [] []) (own.map (·.2))) (gName i)) (wAsg (wLc wi wg wt we (own.map (·.2))) (wgName i)) :=
  ds_setLc0 i hc hN hi ok (fun s H C cl fp => qg s H C cl fp ▸ hg s H C cl fp) (fun s H C cl fp => qt s H C cl fp ▸ ht s H C cl fp) (fun s H C cl fp => qe s H C cl fp ▸ he s H C cl fp) kp hsw hy hyl hs
end
/-! ### built-in functions -/
abbrev FC := List D → Mp → KD → Prop
def SimC (K : PySem.W.Frag) (r : List V → Hp → VK → Prop) (f : FC) : Prop := ∀ (Z : Hp) (xs : List V) (ds : List D) (H : Hp) (M : Mp) (Q : KD) (Q' : VK), Sat K Z H M → RepL K (fz Z H M) xs ds → f ds M Q → (∀ v d' H' M', Go K Z H M H' M' → Rep K (fz Z H' M') v d' → Q d' M' → Q' v H') → r xs H Q'
def wCB (f : FC) (r : WA) : WE := fun ρ M Q => r ρ M fun ds M1 => f ds M1 Q
theorem sim_CB {K : PySem.W.Frag} {r : List V → Hp → VK → Prop} {f : FC} (ha : SimA K tr wr) (hs : SimC K r f) : SimE K (tCB r tr) (wCB f wr) := by
  intro Z ρ M σ H Q Q' s h q
  refine ha Z ρ M σ H _ _ s h fun xs ds H1 M1 g1 r1 q1 => ?_
  exact hs Z xs ds H1 M1 Q Q' g1.sat r1 q1 fun v d H2 M2 g2 r2 q2 => q v d H2 M2 (g1.trans g2) r2 q2
theorem de_callB {x : Str} {p : Pos} {id : String} {r : List V → Hp → VK → Prop} {f : FC} (hc : CallR X (.builtin id) r) (hs : SimC X.K r f) (hm : X.mg x = none) (hv : bootBuiltins x = some (.builtin id)) (ha : DA X (e :: es) tr wr) (hg : Gl X x := by rfl) (hn : x ≠ "__name__" := by decide) (hdb : (x == ("__debug__" : Str)) = false := by decide)
    (he : starEach (e :: es) X.env = (false, eval e X.env) :: starEach es X.env := by rfl) (hpl : (backTo pos (starEach es X.env)).any (·.1) = false := by rfl) : DE X (.Call (.Name x p) (e :: es) [] pos) (tCB r tr) (wCB f wr) := ⟨pe_callB hc hg hm hv ha.pe hn hdb he hpl, sim_CB ha.sm hs⟩
theorem de_callTy {x : Str} {p : Pos} {T : String} {r : List V → Hp → VK → Prop} {f : FC} (hc : CallR X (.type T) r) (hs : SimC X.K r f) (hm : X.mg x = none) (hv : bootBuiltins x = some (.type T)) (ha : DA X (e :: es) tr wr) (hg : Gl X x := by rfl) (hn : x ≠ "__name__" := by decide) (hdb : (x == ("__debug__" : Str)) = false := by decide)
    (he : starEach (e :: es) X.env = (false, eval e X.env) :: starEach es X.env := by rfl) (hpl : (backTo pos (starEach es X.env)).any (·.1) = false := by rfl) : DE X (.Call (.Name x p) (e :: es) [] pos) (tCB r tr) (wCB f wr) := ⟨pe_callTy hc hg hm hv ha.pe hn hdb he hpl, sim_CB ha.sm hs⟩
/-- repr -/
def fRepr : FC := fun ds M Q => match ds with
  | [d] => (∃ n, n ≤ 60 ∧ shw n (res M d)) ∧ cost (res M d) ≤ 16000000 ∧ Q (.str (shown (res M d))) M
  | _ => False
theorem sim_repr {K : PySem.W.Frag} : SimC K (fun xs H Q => ∃ (x : V) (d : D) (n : Nat), xs = [x] ∧ Rep K H x d ∧ shw n d ∧ n ≤ 60 ∧ cost d ≤ 16000000 ∧ Q (.str (shown d)) H) fRepr := by
  intro Z xs ds H M Q Q' S r f q
  unfold fRepr at f
  split at f
  · cases r with
    | cons r1 r2 =>
      cases r2
      obtain ⟨⟨n, hn, hs⟩, hc, z⟩ := f
      exact ⟨_, _, n, rfl, res_rep S r1, hs, hn, hc, q _ _ H M (Go.refl S) (.str _) z⟩
  · exact f.elim
/-- len -/
def fLen : FC := fun ds M Q => match ds with
  | [.str x] => x.length ≤ sizeLine ∧ Q (.int (x.length : Int)) M
  | [d] => ∃ es, seqD M d = some es ∧ Q (.int (es.length : Int)) M
  | _ => False
def rLenA (K : PySem.W.Frag) : List V → Hp → VK → Prop := fun xs H Q => (∃ p ys, xs = [.ref p] ∧ (SqL K H p ys ∨ SqT K H p ys) ∧ Q (.int ys.length) H) ∨ ∃ z, xs = [.str z] ∧ z.length ≤ sizeLine ∧ Q (.int z.length) H
theorem call_lenA : CallR X (.builtin "len") (rLenA X.K) := call_len_seq.or call_len_str
theorem sim_len {K : PySem.W.Frag} : SimC K (rLenA K) fLen := by
  intro Z xs ds H M Q Q' S r f q
  unfold fLen at f
  split at f
  · cases r with
    | cons r1 r2 =>
      cases r2
      cases r1
      exact .inr ⟨_, rfl, f.1, q _ _ H M (Go.refl S) (.int _) f.2⟩
  · cases r with
    | cons r1 r2 =>
      cases r2
      obtain ⟨es, hs, z⟩ := f
      obtain ⟨p, vs, rfl, hv, rl⟩ := seq_of S r1 hs
      refine .inl ⟨p, vs, rfl, hv, q _ _ H M (Go.refl S) ?_ z⟩
      rw [rl.len]
      exact .int _
  · exact f.elim
/-- int(x) of an int, a bool -/
def fInt : FC := fun ds M Q => match ds with
  | [.int i] => Q (.int i) M
  | [.bl b] => Q (.int (if b then 1 else 0)) M
  | _ => False
theorem sim_int {K : PySem.W.Frag} : SimC K (fun xs H Q => (∃ i, xs = [.int i] ∧ Q (.int i) H) ∨ ∃ k, xs = [.bl k] ∧ Q (.int (if k then 1 else 0)) H) fInt := by
  intro Z xs ds H M Q Q' S r f q
  unfold fInt at f
  split at f
  · cases r with
    | cons r1 r2 =>
      cases r2
      cases r1
      exact .inl ⟨_, rfl, q _ _ H M (Go.refl S) (.int _) f⟩
  · cases r with
    | cons r1 r2 =>
      cases r2
      cases r1
      exact .inr ⟨_, rfl, q _ _ H M (Go.refl S) (.int _) f⟩
  · exact f.elim
def fAbs : FC := fun ds M Q => match ds with
  | [.int i] => Q (.int (if i < 0 then -i else i)) M
  | _ => False
theorem sim_abs {K : PySem.W.Frag} : SimC K (fun xs H Q => ∃ i, xs = [.int i] ∧ Q (.int (if i < 0 then -i else i)) H) fAbs := by
  intro Z xs ds H M Q Q' S r f q
  unfold fAbs at f
  split at f
  · cases r with
    | cons r1 r2 =>
      cases r2
      cases r1
      exact ⟨_, rfl, q _ _ H M (Go.refl S) (.int _) f⟩
  · exact f.elim
def f2I (g : Int → Int → Int) : FC := fun ds M Q => match ds with
  | [.int i, .int j] => Q (.int (g i j)) M
  | _ => False
theorem sim_2I {K : PySem.W.Frag} {g : Int → Int → Int} : SimC K (fun xs H Q => ∃ i j, xs = [.int i, .int j] ∧ Q (.int (g i j)) H) (f2I g) := by
  intro Z xs ds H M Q Q' S r f q
  unfold f2I at f
  split at f
  · cases r with
    | cons r1 r2 =>
      cases r2 with
      | cons r2 r3 =>
        cases r3
        cases r1
        cases r2
        exact ⟨_, _, rfl, q _ _ H M (Go.refl S) (.int _) f⟩
  · exact f.elim
/-- tuple(x), list(x) of a list or a tuple -/
def fTuple : FC := fun ds M Q => match ds with
  | [d] => ∃ es, seqD M d = some es ∧ Q (.tup es) M
  | _ => False
theorem sim_tuple {K : PySem.W.Frag} : SimC K (fun xs H Q => ∃ p ys, xs = [.ref p] ∧ ((SqL K H p ys ∧ ∀ l, H l = none → Q (.ref l) (upd H l (.tup ys))) ∨ (SqT K H p ys ∧ Q (.ref p) H))) fTuple := by
  intro Z xs ds H M Q Q' S r f q
  unfold fTuple at f
  split at f
  · cases r with
    | cons r1 r2 =>
      cases r2
      obtain ⟨es, hs, z⟩ := f
      cases hd : ‹D› with
      | tup us =>
        subst hd
        obtain rfl : us = es := Option.some.inj hs
        cases r1 with
        | tup h1 rl => exact ⟨_, _, rfl, .inr ⟨sqt_mono fz_sub h1, q _ _ H M (Go.refl S) (.tup h1 rl) z⟩⟩
      | lst us =>
        subst hd
        obtain ⟨p, vs, rfl, hv, rl⟩ := lst_of S r1 ⟨0, .inr (by obtain rfl : us = es := Option.some.inj hs; rfl)⟩ hs
        refine ⟨p, vs, rfl, .inl ⟨hv, fun l hl => ?_⟩⟩
        obtain ⟨g, n⟩ := Go.laid (o := .tup vs) S hl
        exact q _ _ _ _ g (.tup (.inl (.inl n)) (rl.up g.ex)) z
      | tok p0 =>
        subst hd
        obtain ⟨p, vs, rfl, hv, rl⟩ := lst_of S r1 ⟨p0, .inl rfl⟩ hs
        refine ⟨p, vs, rfl, .inl ⟨hv, fun l hl => ?_⟩⟩
        obtain ⟨g, n⟩ := Go.laid (o := .tup vs) S hl
        exact q _ _ _ _ g (.tup (.inl (.inl n)) (rl.up g.ex)) z
      | non => subst hd; cases hs
      | bl _ => subst hd; cases hs
      | int _ => subst hd; cases hs
      | str _ => subst hd; cases hs
      | ty _ => subst hd; cases hs
      | exc _ _ _ _ _ => subst hd; cases hs
      | tpl us =>
        subst hd
        obtain rfl : us = es := Option.some.inj hs
        cases r1 with
        | tpl h1 h2 rl => exact ⟨_, _, rfl, .inr ⟨.inl (.inr ⟨_, fz_sub _ _ h1⟩), q _ _ H M (Go.refl S) (.tup (.inl (.inr ⟨_, h1⟩)) rl) z⟩⟩
      | dct _ _ => subst hd; cases hs
  · exact f.elim
def fList : FC := fun ds M Q => match ds with
  | [d] => ∃ es, seqD M d = some es ∧ Q (.lst es) M
  | _ => False
def rListA (K : PySem.W.Frag) : List V → Hp → VK → Prop := fun xs H Q => ∃ p ys, xs = [.ref p] ∧ (SqL K H p ys ∨ SqT K H p ys) ∧ ∀ l, H l = none → Q (.ref l) (upd H l (.lst ys))
theorem sim_list {K : PySem.W.Frag} : SimC K (rListA K) fList := by
  intro Z xs ds H M Q Q' S r f q
  unfold fList at f
  split at f
  · cases r with
    | cons r1 r2 =>
      cases r2
      obtain ⟨es, hs, z⟩ := f
      obtain ⟨p, vs, rfl, hv, rl⟩ := seq_of S r1 hs
      refine ⟨p, vs, rfl, hv, fun l hl => ?_⟩
      obtain ⟨g, n⟩ := Go.laid (o := .lst vs) S hl
      exact q _ _ _ _ g (.lst (.inl (.inl n)) (rl.up g.ex)) z
  · exact f.elim
def fListM : FC := fun ds M Q => match ds with
  | [d] => ∃ es, seqD M d = some es ∧ ∀ p, M p = none → Q (.tok p) (setM M p (.lst es))
  | _ => False
theorem sim_listM {K : PySem.W.Frag} : SimC K (rListA K) fListM := by
  intro Z xs ds H M Q Q' S r f q
  unfold fListM at f
  split at f
  · cases r with
    | cons r1 r2 =>
      cases r2
      obtain ⟨es, hs, z⟩ := f
      obtain ⟨p, vs, rfl, hv, rl⟩ := seq_of S r1 hs
      refine ⟨p, vs, rfl, hv, fun l hl => ?_⟩
      exact q _ _ _ _ (Go.putL S (.inl hl) rl) (.tok l) (z l (S.free hl))
  · exact f.elim
/-- sum, any, all of lists -/
def fSum : FC := fun ds M Q => match ds with
  | [d] => ∃ ns : List Int, (∃ a, d = .tok a ∨ d = .lst (ns.map .int)) ∧ seqD M d = some (ns.map .int) ∧ Q (.int ns.sum) M
  | _ => False
theorem sim_sum {K : PySem.W.Frag} : SimC K (rSum K) fSum := by
  intro Z xs ds H M Q Q' S r f q
  unfold fSum at f
  split at f
  · cases r with
    | cons r1 r2 =>
      cases r2
      obtain ⟨ns, hd, hs, z⟩ := f
      obtain ⟨p, vs, rfl, hv, rl⟩ := lst_of S r1 hd hs
      obtain rfl := rl.ints
      exact ⟨p, ns, rfl, hv, q _ _ H M (Go.refl S) (.int _) z⟩
  · exact f.elim
def fBls (g : List Bool → Bool) : FC := fun ds M Q => match ds with
  | [d] => ∃ ns : List Bool, (∃ a, d = .tok a ∨ d = .lst (ns.map .bl)) ∧ seqD M d = some (ns.map .bl) ∧ Q (.bl (g ns)) M
  | _ => False
theorem sim_any {K : PySem.W.Frag} : SimC K (rAny K) (fBls fun bs => bs.any id) := by
  intro Z xs ds H M Q Q' S r f q
  unfold fBls at f
  split at f
  · cases r with
    | cons r1 r2 =>
      cases r2
      obtain ⟨ns, hd, hs, z⟩ := f
      obtain ⟨p, vs, rfl, hv, rl⟩ := lst_of S r1 hd hs
      obtain rfl := rl.bls
      exact ⟨p, ns, rfl, hv, q _ _ H M (Go.refl S) (.bl _) z⟩
  · exact f.elim
theorem sim_all {K : PySem.W.Frag} : SimC K (rAll K) (fBls fun bs => bs.all id) := by
  intro Z xs ds H M Q Q' S r f q
  unfold fBls at f
  split at f
  · cases r with
    | cons r1 r2 =>
      cases r2
      obtain ⟨ns, hd, hs, z⟩ := f
      obtain ⟨p, vs, rfl, hv, rl⟩ := lst_of S r1 hd hs
      obtain rfl := rl.bls
      exact ⟨p, ns, rfl, hv, q _ _ H M (Go.refl S) (.bl _) z⟩
  · exact f.elim
/-- the greatest, the least of a list of ints -/
def fMost (le : Int → Int → Prop) : FC := fun ds M Q => match ds with
  | [d] => ∃ ns : List Int, (∃ a, d = .tok a ∨ d = .lst (ns.map .int)) ∧ seqD M d = some (ns.map .int) ∧ 0 < ns.length ∧ ∀ m, m ∈ ns → (∀ y ∈ ns, le y m) → Q (.int m) M
  | _ => False
theorem sim_max {K : PySem.W.Frag} : SimC K (rMax K) (fMost fun y m => y ≤ m) := by
  intro Z xs ds H M Q Q' S r f q
  unfold fMost at f
  split at f
  · cases r with
    | cons r1 r2 =>
      cases r2
      obtain ⟨ns, hd, hs, hl, z⟩ := f
      obtain ⟨p, vs, rfl, hv, rl⟩ := lst_of S r1 hd hs
      obtain rfl := rl.ints
      exact ⟨p, ns, rfl, hv, hl, fun m h1 h2 => q _ _ H M (Go.refl S) (.int _) (z m h1 h2)⟩
  · exact f.elim
theorem sim_min {K : PySem.W.Frag} : SimC K (rMin K) (fMost fun y m => m ≤ y) := by
  intro Z xs ds H M Q Q' S r f q
  unfold fMost at f
  split at f
  · cases r with
    | cons r1 r2 =>
      cases r2
      obtain ⟨ns, hd, hs, hl, z⟩ := f
      obtain ⟨p, vs, rfl, hv, rl⟩ := lst_of S r1 hd hs
      obtain rfl := rl.ints
      exact ⟨p, ns, rfl, hv, hl, fun m h1 h2 => q _ _ H M (Go.refl S) (.int _) (z m h1 h2)⟩
  · exact f.elim
/-- sorted of a list of ints -/
def fSorted : FC := fun ds M Q => match ds with
  | [d] => ∃ ns : List Int, (∃ a, d = .tok a ∨ d = .lst (ns.map .int)) ∧ seqD M d = some (ns.map .int) ∧ ns.length < 64 ∧ ∀ ms : List Int, ms.Perm ns → ms.Pairwise (· ≤ ·) → Q (.lst (ms.map .int)) M
  | _ => False
theorem sim_sorted {K : PySem.W.Frag} : SimC K (rSorted K) fSorted := by
  intro Z xs ds H M Q Q' S r f q
  unfold fSorted at f
  split at f
  · cases r with
    | cons r1 r2 =>
      cases r2
      obtain ⟨ns, hd, hs, hl, z⟩ := f
      obtain ⟨p, vs, rfl, hv, rl⟩ := lst_of S r1 hd hs
      obtain rfl := rl.ints
      refine ⟨p, ns, rfl, hv, hl, fun ms l h1 h2 hl => ?_⟩
      obtain ⟨g, n⟩ := Go.laid (o := .lst (ms.map V.int)) S hl
      exact q _ _ _ _ g (.lst (.inl (.inl n)) (.ofInts ms)) (z ms h1 h2)
  · exact f.elim
end
end L3
namespace L3
open PySem L2
/-! ### the law's own call -/
theorem law_g {P : Program} {w : World} {K : PySem.W.Frag} {mg mb : Str → Option Value} {k : Nat} {fa a : Addr} {fd : FuncData} {x : Str} {sp : Sp} {s1 : Shared} {vs : List Value} {ns : List Int}
    (KX : K.In s1.heap) (hns : s1.heap.Ns mainGlobals mg) (hb : s1.heap.Ns builtinsNs mb) (hbb : ∀ x : Str, x ≠ "__name__" → mb x = bootBuiltins x) (hlim : s1.heap.NoLimit) (hg : s1.gens = #[])
    (ha : s1.heap.get? a = some { cls := .type "list", data := .seq vs.toArray }) (hi : PyProof.Rows.IntsAre vs ns) (hl : ns.length ≤ sizeLine) (hr : Room k callerA)
    (F : ∀ base : Heap, K.In base → base.Ns mainGlobals mg → FnG P w K mg base k fa fd [x] sp) (hbind : ∀ (s : Shared) (u : Value), BindsTo s fd ⟨[u], []⟩ [(x, u)])
    (hsp : ∀ H : Hp, SqL K H a (ns.map V.int) → sp [.ref a] H (fun v _ => v = .bl true) fun _ _ _ => False) :
    codeAny (model P w) callerA (.call (.ref fa) ⟨[.ref a], []⟩) (fun r s' => r = .ok (.ret (.bool true)) ∧ OldK s1.heap s'.heap ∧ s'.os = s1.os ∧ PyProof.Rows.AllBare s'.gens) s1 := by
  have vals := vals_ints hi
  have hlen := hi.length
  have main : ∀ H : Hp, Only H → SqL K H a (ns.map V.int) → HOk P w H s1.heap → (∀ b, H b ≠ none → b = a) → (H a ≠ none → K.lookup a = none) →
      codeAny (model P w) callerA (.call (.ref fa) ⟨[.ref a], []⟩) (fun r s' => r = .ok (.ret (.bool true)) ∧ OldK s1.heap s'.heap ∧ s'.os = s1.os ∧ PyProof.Rows.AllBare s'.gens) s1 := by
    intro H only sq hok hA hK
    have eqa : ∀ {b : Addr} {u : HO}, H b = some u → b = a := fun {b u} q => hA b (by rw [q]; exact fun z => nomatch z)
    have free : ∀ {b : Addr} {o : Obj}, s1.heap.get? b = some o → o ≠ { cls := .type "list", data := .seq vs.toArray } → H b = none := fun {b o} e d => by
      cases q : H b with
      | none => rfl
      | some u =>
        have e' := eqa q
        subst e'
        rw [ha] at e
        exact absurd (Option.some.inj e).symm d
    have nsK : ∀ {b : Addr} {m : Str → Option Value}, s1.heap.Ns b m → (hidT s1.heap H).Ns b m := fun {b m} ⟨o, es, ep, e, d, r⟩ =>
      ⟨o, es, ep, hidT_get e (free e fun z => by rw [z] at d; exact nomatch d), d, r⟩
    have kin : K.In (hidT s1.heap H) := fun b o e => hidT_get (KX b o e) (by
      cases q : H b with
      | none => rfl
      | some u =>
        have e' := eqa q
        subst e'
        rw [hK (by rw [q]; exact fun z => nomatch z)] at e
        exact nomatch e)
    have md : Mod K mg (hidT s1.heap H) := ⟨kin, nsK hns, ⟨mb, nsK hb, hbb⟩, hlim.elim fun mc h => ⟨mc, nsK h.1, h.2⟩⟩
    have e0 : Env0 P w K mg (hidT s1.heap H) callerA [] s1 H := ⟨rfl, md, fun b o e => of_hidT e, Nat.le_of_eq (hidT_size _ _), trivial, fun b z => absurd z List.not_mem_nil, hok, .of_eq hg⟩
    refine codeAny_mono ((F _ kin (nsK hns)).run callerA [] s1 H ⟨[.ref a], []⟩ [.ref a] [.ref a] _ _ rfl hr e0 (hbind s1 (.ref a)) (.cons rfl .nil) (hsp H sq)) fun r s' h => ?_
    cases r with
    | error e =>
      obtain ⟨_, _, _, _, _, _, _, _, _, _, _, _, z⟩ := h
      exact z.elim
    | ok fl =>
      cases fl with
      | next => exact h.elim
      | brk => exact h.elim
      | cont => exact h.elim
      | ret u =>
        obtain ⟨v, H', os, bare, un, hok', rv, q⟩ := h
        subst q
        obtain rfl : u = Value.bool true := rv
        refine ⟨rfl, OldK.of_keep fun b o e => ?_, os, bare⟩
        cases q : H b with
        | none => exact un.keep b o e q List.not_mem_nil List.not_mem_nil
        | some u =>
          rcases only b with z | ⟨ob, xs, z⟩
          · rw [q] at z
            exact nomatch z
          · have e1 := (hok b _ z).1
            have e2 := (hok' b _ (un.frzs b ob _ z)).1
            rw [e] at e1
            rw [Option.some.inj e1]
            exact e2
  cases hk : K.lookup a with
  | some o =>
    have e := KX a o hk
    rw [ha] at e
    cases e
    exact main (fun _ => none) (fun _ => .inl rfl) (.inr ⟨_, vs.toArray, _, hk, rfl, rfl, rfl, by rw [List.size_toArray, hlen]; exact hl, by simpa using vals⟩) (fun _ _ z => nomatch z) (fun _ z => absurd rfl z) fun z => absurd rfl z
  | none =>
    refine main (fun b => if b = a then some (.frz { cls := .type "list", data := .seq vs.toArray } (.lst (ns.map V.int))) else none) (fun b => ?_) (.inl (.inr ⟨{ cls := .type "list", data := .seq vs.toArray }, if_pos rfl⟩)) (fun b u z => ?_) (fun b z => ?_) fun _ => hk
    · rcases Decidable.em (b = a) with e | e
      · exact .inr ⟨_, _, if_pos e⟩
      · exact .inl (if_neg e)
    · rcases Decidable.em (b = a) with e | e
      · have z' := (if_pos e).symm.trans z
        cases z'
        rw [e]
        exact ⟨ha, by rw [List.length_map]; exact hl, vs, _, vals, ha⟩
      · have z' := (if_neg e).symm.trans z
        cases z'
    · rcases Decidable.em (b = a) with e | e
      · exact e
      · exact absurd (if_neg e) z
theorem walk_g {l : PySem.W.OpenLaw} {n k : Nat} {q : Program} {loose : List Str} {XP : (Str → Option Value) → Heap → Prop} {YP : World → Heap → Prop} {d : DefRec} {K : Params → PySem.W.Frag} {sp : World → Sp} {x : Str}
    (hn : l.most = some n) (hn2 : n ≤ sizeLine) (hdf : d.params.defaults = []) (hr : Room k callerA) (hY : ∀ (w : World) (h : Heap), YP w h → (K w.params).In h)
    (F : ∀ (w : World) (mg : Str → Option Value) (fa : Addr) (h : Heap), (K w.params).In h → h.Ns mainGlobals mg → mg d.name = some (.ref fa) →
      ∃ fd : FuncData, (∀ (s : Shared) (u : Value), BindsTo s fd ⟨[u], []⟩ [(x, u)]) ∧ ∀ base : Heap, (K w.params).In base → base.Ns mainGlobals mg → FnG l.prog w (K w.params) mg base k fa fd [x] (sp w))
    (hsp : ∀ (w : World) (H : Hp) (a : Addr) (ns : List Int), ns.length ≤ n → SqL (K w.params) H a (ns.map V.int) → sp w [.ref a] H (fun v _ => v = .bl true) fun _ _ _ => False) :
    PySem.W.WalkO q loose XP YP l.row.toRowW d [] (fun f vs => PySem.call f vs) := by
  refine Att.attach_call hn hdf fun w s0 s1 mg mb fa o pm cd doc a vs ns G Y ho hd hcd hmg hobj hints hlen hg => ?_
  obtain ⟨fd, hb, hF⟩ := F w mg fa _ (hY w _ Y) G.T.g hmg
  exact law_g (hY w _ Y) G.T.g G.T.b G.T.builtins G.T.nolimit hg hobj hints (Nat.le_trans hlen hn2) hr hF hb fun H hS => hsp w H a ns hlen hS

/-! ### a def of the text with its contract -/
structure Has (P : Program) (w : World) (K : PySem.W.Frag) (mg : Str → Option Value) (base : Heap) (k : Nat) (x : Str) (st : Stmt) (ps : List Str) (F : Fs) : Prop where
  ex : ∃ (f : Addr) (fd : FuncData), FnG P w K mg base k f fd ps (lift K F) ∧ mg x = some (.ref f) ∧ Fun K x x st f fd ∧ Binds K fd ps []
section
variable {X : Cx} {E : WX3} {e a b c : Expr} {es : List Expr} {t ta tb tc te : TE} {w wa wb wc we : WE} {pos p : Pos} {k : Nat} {tr tk : TA} {wr wk : WA} {x : Str} {st : Stmt} {ps : List Str} {F : Fs} {kws : List Keyword}
theorem de_h (h : Has X.prog X.w X.K X.mg X.base k x st ps F) (hr : Room k X.A) (gd : X.A.guards = some []) (ha : DA X (e :: es) tr wr) (hg : Gl X x := by rfl) (hdb : (x == ("__debug__" : Str)) = false := by decide)
    (he : starEach (e :: es) X.env = (false, eval e X.env) :: starEach es X.env := by rfl) (hpl : (backTo pos (starEach es X.env)).any (·.1) = false := by rfl) : DE X (.Call (.Name x p) (e :: es) [] pos) (tCallG (lift X.K F) [] E0 tr) (wCall F wr) := by
  obtain ⟨f, fd, G, hm, Fn, hb⟩ := h.ex
  exact de_call G hr gd hm Fn.kp hb ha hg hdb he hpl
theorem de_h0 (h : Has X.prog X.w X.K X.mg X.base k x st ps F) (hr : Room k X.A) (gd : X.A.guards = some []) (hg : Gl X x := by rfl) (hdb : (x == ("__debug__" : Str)) = false := by decide) : DE X (.Call (.Name x p) [] [] pos) (tCallG (lift X.K F) [] E0 tNil) (wCall F wNil) := by
  obtain ⟨f, fd, G, hm, Fn, hb⟩ := h.ex
  exact de_call0 G hr gd hm Fn.kp hb hg hdb
/-- how a call with keywords binds: shown by «fun _ _ _ _ _ _ us ws h1 h2 => match us, ws, h1, h2 with | [_], [_, _], _, _ => rfl» -/
def Kw (x : Str) (st : Stmt) (ps : List Str) (n : Nat) (ks : List Str) (idx : List Nat) : Prop := ∀ (kV doc pm : Value) (an : Option Addr) (cdv ct : Value) (us ws : List Value), us.length = n → ws.length = ks.length →
  bindArgs (PySem.W.fnOf x x (defArgs st) (defBody st) (defScope st) .none kV doc pm an cdv ct) ⟨us, ks.zip ws⟩ = pure (ps.zip (permU idx us ws))
theorem kb_of {K : PySem.W.Frag} {f : Addr} {fd : FuncData} {n : Nat} {ks : List Str} {idx : List Nat} (Fn : Fun K x x st f fd) (h : Kw x st ps n ks idx) : KB K fd ps n ks idx := by
  obtain ⟨oc, od, kV, doc, pm, an, cdv, ct, osl, rfl, lk, hcd⟩ := Fn.ex
  exact fun s us ws _ h1 h2 => .of_eq (h kV doc pm an cdv ct us ws h1 h2)
theorem de_hk {n : Nat} {ks : List Str} {idx : List Nat} (h : Has X.prog X.w X.K X.mg X.base k x st ps F) (hr : Room k X.A) (gd : X.A.guards = some []) (kb : Kw x st ps n ks idx) (ha : DA X (e :: es) tr wr) (hkw : DK X kws tk wk) (hg : Gl X x := by rfl)
    (hall : (backToKw pos (keywordEach kws X.env)).all (·.1.isSome) = true := by rfl) (hks : (backToKw pos (keywordEach kws X.env)).filterMap (·.1) = ks := by rfl)
    (hdb : (x == ("__debug__" : Str)) = false := by decide) (he : starEach (e :: es) X.env = (false, eval e X.env) :: starEach es X.env := by rfl)
    (hpl : ((backTo pos (starEach (e :: es) X.env)).any (·.1) || (backToKw pos (keywordEach kws X.env)).any (·.1.isNone)) = false := by rfl) :
    DE X (.Call (.Name x p) (e :: es) kws pos) (tCallGK n ks.length idx (lift X.K F) E0 tr tk) (wCallK n ks.length idx F wr wk) := by
  obtain ⟨f, fd, G, hm, Fn, hb⟩ := h.ex
  exact de_callK G hr gd hm Fn.kp (kb_of Fn kb) ha hkw hg hall hks hdb he hpl
theorem de_hk0 {ks : List Str} {idx : List Nat} (h : Has X.prog X.w X.K X.mg X.base k x st ps F) (hr : Room k X.A) (gd : X.A.guards = some []) (kb : Kw x st ps 0 ks idx) (hkw : DK X kws tk wk) (hg : Gl X x := by rfl)
    (hall : (backToKw pos (keywordEach kws X.env)).all (·.1.isSome) = true := by rfl) (hks : (backToKw pos (keywordEach kws X.env)).filterMap (·.1) = ks := by rfl)
    (hdb : (x == ("__debug__" : Str)) = false := by decide)
    (hpl : ((backTo pos (starEach [] X.env)).any (·.1) || (backToKw pos (keywordEach kws X.env)).any (·.1.isNone)) = false := by rfl) :
    DE X (.Call (.Name x p) [] kws pos) (tCallGK 0 ks.length idx (lift X.K F) E0 tNil tk) (wCallK 0 ks.length idx F wNil wk) := by
  obtain ⟨f, fd, G, hm, Fn, hb⟩ := h.ex
  exact de_callK0 G hr gd hm Fn.kp (kb_of Fn kb) hkw hg hall hks hdb hpl
end
theorem Has.mk' {P : Program} {w : World} {K : PySem.W.Frag} {mg : Str → Option Value} {base : Heap} {k : Nat} {x : Str} {st : Stmt} {ps : List Str} {F : Fs} {f : Addr} {fd : FuncData} (Fn : Fun K x x st f fd) (hm : mg x = some (.ref f)) (G : FnG P w K mg base k f fd ps (lift K F))
    (hb : ∀ (kV doc pm : Value) (an : Option Addr) (cdv ct : Value) (us : List Value), us.length = ps.length → bindArgs (PySem.W.fnOf x x (defArgs st) (defBody st) (defScope st) .none kV doc pm an cdv ct) ⟨us, []⟩ = pure (ps.zip us)) : Has P w K mg base k x st ps F := ⟨f, fd, G, hm, Fn, Fn.binds hb⟩

/-! ### the draws -/
def drawF : Fs := fun ds M Q _ => ∃ a a0 n, ds = [.tok a, .int n] ∧ M a = some (.drw a0) ∧ 0 < n ∧ n.natAbs.log2 < 9000 ∧ ∀ k, 0 ≤ k → k < n → Q (.int k) M
/-- one of a list's or tuple's items -/
def pickF : Fs := fun ds M Q _ => ∃ a a0 d es, ds = [.tok a, d] ∧ M a = some (.drw a0) ∧ seqD M d = some es ∧ 0 < es.length ∧ es.length ≤ 1000000 ∧ ∀ x ∈ es, Q x M
end L3
namespace L3
open PySem L2
theorem call_isqrt {X : Cx} : CallR X (.builtin "math.isqrt") (fun xs H Q => ∃ a : Int, xs = [.int a] ∧ 0 ≤ a ∧ a < 2 ^ 13000 ∧ Q (.int (Float64.isqrt a.toNat : Nat)) H) := by
  intro pins s σ H xs us Q I r h
  obtain ⟨a, rfl, h0, h1, q⟩ := h
  cases r with
  | cons r1 r2 =>
    cases r2
    obtain ⟨t, rfl⟩ := r1
    have hl : a.toNat.log2 < 13000 := by
      by_cases z : a.toNat = 0
      · rw [z]
        decide
      · rw [Nat.log2_lt z]
        have e : (a.toNat : Int) = a := Int.toNat_of_nonneg h0
        have e2 : (a.toNat : Int) < ((2 ^ 13000 : Nat) : Int) := by
          rw [e]
          exact_mod_cast h1
        exact_mod_cast e2
    refine PySem.Flt.call_fn_gives PySem.W.MGF.kind_isqrt PySem.W.MGF.plain_isqrt PySem.W.MGF.entry_isqrt (PySem.W.MGF.args_isqrt _) (PySem.W.mg_run_isqrt a t (by omega) (by omega) (by omega)) ?_
    exact ⟨.int _, H, I.tok _, ⟨_, rfl⟩, q⟩
def fIsq : FC := fun ds M Q => match ds with
  | [.int a] => 0 ≤ a ∧ a < 2 ^ 13000 ∧ Q (.int (Float64.isqrt a.toNat : Nat)) M
  | _ => False
theorem sim_isq {K : PySem.W.Frag} : SimC K (fun xs H Q => ∃ a : Int, xs = [.int a] ∧ 0 ≤ a ∧ a < 2 ^ 13000 ∧ Q (.int (Float64.isqrt a.toNat : Nat)) H) fIsq := by
  intro Z xs ds H M Q Q' S r f q
  unfold fIsq at f
  split at f
  · cases r with
    | cons r1 r2 =>
      cases r2
      cases r1
      exact ⟨_, rfl, f.1, f.2.1, q _ _ H M (Go.refl S) (.int _) f.2.2⟩
  · exact f.elim
section
variable {X : Cx} {e : Expr} {es : List Expr} {pos p : Pos} {tr : TA} {wr : WA}
/-- a function of another module of Python, taken by name -/
theorem de_callMB {x : Str} {id : String} {r : List V → Hp → VK → Prop} {g : FC} (hc : CallR X (.builtin id) r) (hs : SimC X.K r g) (hm : X.mg x = some (.builtin id)) (ha : DA X (e :: es) tr wr) (hg : Gl X x := by rfl) (hdb : (x == ("__debug__" : Str)) = false := by decide)
    (he : starEach (e :: es) X.env = (false, eval e X.env) :: starEach es X.env := by rfl) (hpl : (backTo pos (starEach es X.env)).any (·.1) = false := by rfl) : DE X (.Call (.Name x p) (e :: es) [] pos) (tCB r tr) (wCB g wr) := ⟨pe_callBfun hc hg hm ha.pe hdb he hpl, sim_CB ha.sm hs⟩
end
end L3
namespace L3
open PySem L2
def fIsB : F2 := fun d e M Q => match d, e with
  | .bl a, .bl b => Q (.bl (decide (a = b))) M
  | _, _ => False
theorem sim_isB {K : PySem.W.Frag} : SimR K rIsB fIsB := by
  intro Z x y d e H M Q Q' S r1 r2 f q
  unfold fIsB at f
  split at f
  · cases r1
    cases r2
    exact ⟨_, _, rfl, rfl, q _ _ H M (Go.refl S) (.bl _) f⟩
  · exact f.elim
end L3
namespace L3
open PySem L2
/-! ### what the draws need -/
theorem ix_l {K : PySem.W.Frag} {a : Addr} {xs : List V} {k : Int} {y : V} {H : Hp} {Q : VK} (h : H a = some (.lst xs)) (e : atI xs k = some y) (q : Q y H) : rIx K (.ref a) (.int k) H Q :=
  .inl ⟨a, xs, k, y, rfl, rfl, .inl (.inl h), e, q⟩
theorem ne_nil {K : PySem.W.Frag} {a p : Addr} {cs : List Int} {H : Hp} {Q : VK} (h : H a = some (.lst (cs.map V.int))) (hp : H p = some (.lst [])) (q : Q (.bl (decide (cs ≠ []))) H) : rNeD K (.ref a) (.ref p) H Q := by
  have r1 : Rep K H (.ref a) (.lst (cs.map .int)) := .lst (.inl (.inl h)) (.ofInts cs)
  have r2 : Rep K H (.ref p) (.lst []) := .lst (.inl (.inl hp)) .nil
  have f1 : fit 2 (.lst (cs.map .int)) := by
    simp [fit]
  have f2 : fit 2 (.lst []) := by
    simp [fit]
  refine ⟨_, _, Rep.dp 2 _ _ f1 r1, Rep.dp 2 _ _ f2 r2, fit_shaped f1 (by omega), fit_shaped f2 (by omega), ?_⟩
  cases cs with
  | nil => exact q
  | cons c cs => exact q
theorem eq_int {K : PySem.W.Frag} {i j : Int} {H : Hp} {Q : VK} (q : Q (.bl (decide (i = j))) H) : rEqD K (.int i) (.int j) H Q := by
  have f1 : ∀ i : Int, fit 1 (.int i) := fun i => by simp [fit]
  refine ⟨_, _, Rep.dp 1 _ _ (f1 i) (.int i), Rep.dp 1 _ _ (f1 j) (.int j), fit_shaped (f1 i) (by omega), fit_shaped (f1 j) (by omega), ?_⟩
  have e : PyData.eqv (D.py (.int i)) (D.py (.int j)) = decide (i = j) := by
    simp only [D.py, PyData.eqv]
    rfl
  rw [e]
  exact q
theorem at_last {cs : List Int} {c : Int} : atI ((cs ++ [c]).map V.int) (-1) = some (.int c) := by
  have e : ixN ((cs ++ [c]).map V.int).length (-1) = some cs.length := by
    unfold ixN
    simp
    omega
  unfold atI
  rw [e]
  simp
theorem pop_last {a : Addr} {cs : List Int} {c : Int} {H : Hp} {Q : VK} (h : H a = some (.lst ((cs ++ [c]).map V.int))) (q : Q (.int c) (upd H a (.lst (cs.map V.int)))) : rPop (.ref a) [] H Q := by
  refine ⟨a, _, .int c, rfl, rfl, h, by simp, ?_⟩
  rw [List.map_append]
  simpa using q
/-- what stands of the draws -/
structure Dr (H0 : Hp) (a a0 : Addr) (cs : List Int) (s : Int) (H : Hp) : Prop where
  keep : ∀ b o, b ≠ a → b ≠ a0 → H0 b = some o → H b = some o
  ha : H a = some (.lst [.ref a0, .int s])
  h0 : H a0 = some (.lst (cs.map V.int))
  lo : 0 ≤ s
  hi : s < 4294967296
  len : cs.length ≤ 100
  pos : ∀ c ∈ cs, 0 ≤ c
theorem Dr.new {H0 : Hp} {a a0 p : Addr} {cs : List Int} {s : Int} {H : Hp} {o : HO} (h : Dr H0 a a0 cs s H) (hp : H p = none) : Dr H0 a a0 cs s (upd H p o) :=
  ⟨fun b u h1 h2 e => by rw [upd_ne (ne_of_none (h.keep b u h1 h2 e) hp)]; exact h.keep b u h1 h2 e, by rw [upd_ne (ne_of_none h.ha hp)]; exact h.ha, by rw [upd_ne (ne_of_none h.h0 hp)]; exact h.h0, h.lo, h.hi, h.len, h.pos⟩
theorem Dr.ne {H0 : Hp} {a a0 : Addr} {cs : List Int} {s : Int} {H : Hp} (h : Dr H0 a a0 cs s H) : a ≠ a0 := fun e => by
  have z := h.ha
  rw [e, h.h0] at z
  have z2 := HO.lst.inj (Option.some.inj z)
  cases cs with
  | nil => cases z2
  | cons c cs => cases z2
theorem Dr.put {H0 : Hp} {a a0 : Addr} {cs cs' : List Int} {s : Int} {H : Hp} (h : Dr H0 a a0 cs s H) (l : cs'.length ≤ 100) (p : ∀ c ∈ cs', 0 ≤ c) : Dr H0 a a0 cs' s (upd H a0 (.lst (cs'.map V.int))) :=
  ⟨fun b u h1 h2 e => by rw [upd_ne h2]; exact h.keep b u h1 h2 e, by rw [upd_ne h.ne]; exact h.ha, upd_same, h.lo, h.hi, l, p⟩
theorem Dr.stir {H0 : Hp} {a a0 : Addr} {cs : List Int} {s s' : Int} {H : Hp} (h : Dr H0 a a0 cs s H) (l : 0 ≤ s') (u : s' < 4294967296) : Dr H0 a a0 cs s' (upd H a (.lst [.ref a0, .int s'])) :=
  ⟨fun b u h1 h2 e => by rw [upd_ne h1]; exact h.keep b u h1 h2 e, upd_same, by rw [upd_ne h.ne.symm]; exact h.h0, l, u, h.len, h.pos⟩
theorem Dr.ok {H0 : Hp} {a a0 : Addr} {cs : List Int} {s : Int} {H : Hp} (h : Dr H0 a a0 cs s H) : DrawOk H a a0 := ⟨cs, s, h.ha, h.h0, h.lo, h.hi, h.len, h.pos⟩
/-- [xs[::-1], s]: new draws -/
def wDrw (we : WE) (i : Nat) : WE := fun ρ M Q => we ρ M fun d M1 => ∃ (cs : List Int) (s : Int), d = .lst (cs.map .int) ∧ ρ[i]? = some (some (.int s)) ∧ cs.length ≤ 100 ∧ (∀ c ∈ cs, 0 ≤ c) ∧ 0 ≤ s ∧ s < 4294967296 ∧ ∀ p q, M1 p = none → M1 q = none → p ≠ q → Q (.tok q) (setM (setM M1 p .aux) q (.drw p))
section
variable {X : Cx} {e : Expr} {te : TE} {we : WE} {k : Nat} {p1 p2 p3 p4 p5 pos : Pos} {x : Str}
theorem sim_drw {K : PySem.W.Frag} (i : Nat) (he : SimE K te we) : SimE K (tLst (tCons (tRevL K te) (tCons (tVar i) tNil))) (wDrw we i) := by
  intro Z ρ M σ H Q Q' r h q
  refine he Z ρ M σ H _ _ r h fun x d H1 M1 g1 r1 q1 => ?_
  obtain ⟨cs, s, rfl, hi, hl, hpos, s0, s1, q2⟩ := q1
  cases r1 with
  | lst hs rl =>
    obtain rfl := rl.ints
    refine ⟨_, _, rfl, fz_sub.seq hs, fun p hp => ?_⟩
    obtain ⟨v, e1, rv⟩ := r.env.2 i _ hi
    cases rv
    refine ⟨.int s, e1, (by show 2 ≤ sizeLine; decide), fun o ho => ?_⟩
    have npo : p ≠ o := fun z => by
      subst z
      rw [upd_same] at ho
      cases ho
    have ho1 : H1 o = none := by
      rw [upd_ne npo.symm] at ho
      exact ho
    have m1p := g1.sat.free hp
    have m1o := g1.sat.free ho1
    have z1p := g1.sat.freeZ hp
    have z1o := g1.sat.freeZ ho1
    -- the two new lists
    have up : ∀ b u, H1 b = some u → upd (upd H1 p (.lst ((cs.map V.int).reverse))) o (.lst [.ref p, .int s]) b = some u := fun b u e => by
      rw [upd_ne (ne_of_none e ho1), upd_ne (ne_of_none e hp)]
      exact e
    have mo : ∀ b c, b ≠ p → b ≠ o → M1 b = c → setM (setM M1 p .aux) o (.drw p) b = c := fun b c h1 h2 e => by
      rw [setM_ne h2, setM_ne h1]
      exact e
    have mp : setM (setM M1 p .aux) o (.drw p) p = some .aux := by
      rw [setM_ne npo, setM_same]
    have ex : Same (fz Z H1 M1) (fz Z (upd (upd H1 p (.lst ((cs.map V.int).reverse))) o (.lst [.ref p, .int s])) (setM (setM M1 p .aux) o (.drw p))) := fun b u e => by
      obtain ⟨e1, e2, e3⟩ := fz_is e
      exact fz_to (mo b _ (ne_of_none e3 hp) (ne_of_none e3 ho1) e1) e2 (up b u e3)
    have aux : ∀ b, M1 b = some .aux → setM (setM M1 p .aux) o (.drw p) b = some .aux ∧ ∀ u, H1 b = some u → upd (upd H1 p (.lst ((cs.map V.int).reverse))) o (.lst [.ref p, .int s]) b = some u := fun b e => by
      refine ⟨mo b _ (fun z => ?_) (fun z => ?_) e, up b⟩
      · rw [z, m1p] at e
        cases e
      · rw [z, m1o] at e
        cases e
    have er : (cs.map V.int).reverse = cs.reverse.map V.int := by rw [List.map_reverse]
    have sat : Sat K Z (upd (upd H1 p (.lst ((cs.map V.int).reverse))) o (.lst [.ref p, .int s])) (setM (setM M1 p .aux) o (.drw p)) := by
      refine ⟨fun b c hb => ?_, fun b u hb => ?_⟩
      · by_cases h1 : b = o
        · subst h1
          rw [setM_same] at hb
          cases hb
          exact ⟨mp, cs.reverse, s, upd_same, by rw [upd_ne npo, upd_same, er], s0, s1, by rw [List.length_reverse]; exact hl, fun c hc => hpos c (List.mem_reverse.mp hc)⟩
        · by_cases h2 : b = p
          · subst h2
            rw [mp] at hb
            cases hb
            exact ⟨_, by rw [upd_ne npo, upd_same]⟩
          · rw [setM_ne h1, setM_ne h2] at hb
            exact (g1.sat.cell b c hb).same ex (up b) aux
      · obtain ⟨e1, e2⟩ := g1.sat.zed b u hb
        exact ⟨up b u e1, mo b _ (ne_of_none e1 hp) (ne_of_none e1 ho1) e2⟩
    exact q _ _ _ _ ⟨sat, g1.ex.trans ex⟩ (.tok o) (q2 p o m1p m1o npo)
theorem de_drw (i : Nat) (he : DE X e te we) (hN : X.N[i]? = some x := by rfl) (hv : Vis X.env.scope x := by first | exact Or.inl rfl | exact Or.inr (Or.inl rfl) | exact Or.inr (Or.inr rfl)) (hd : (x == ("__debug__" : Str)) = false := by decide)
    (hcd : (x == ("__classdict__" : Str)) = false := by decide) (h1 : starEach [(.Subscript e (.Slice none none (some (.UnaryOp .USub (.Constant (.int 1) k p1) p2)) p3) p4), (.Name x p5)] X.env = (false, eval (.Subscript e (.Slice none none (some (.UnaryOp .USub (.Constant (.int 1) k p1) p2)) p3) p4) X.env) :: starEach [(.Name x p5)] X.env := by rfl)
    (h2 : starEach [(.Name x p5)] X.env = (false, eval (.Name x p5) X.env) :: starEach [] X.env := by rfl) :
    DE X (.List [(.Subscript e (.Slice none none (some (.UnaryOp .USub (.Constant (.int 1) k p1) p2)) p3) p4), (.Name x p5)] pos) (tLst (tCons (tRevL X.K te) (tCons (tVar i) tNil))) (wDrw we i) :=
  ⟨pe_lst (pa_cons (pe_revL he.pe) (pa_cons (pe_var hN hv hd hcd) pa_nil h2) h1), sim_drw i he.sm⟩
end
/-! ### equality: plain values first -/
def rEqV (K : PySem.W.Frag) : R2 := fun x y H Q => rEq x y H Q ∨ rEqD K x y H Q
def rNeV (K : PySem.W.Frag) : R2 := fun x y H Q => rNe x y H Q ∨ rNeD K x y H Q
theorem op_eqV {X : Cx} {k : Nat} (hr : Room k X.A) : OpR X (compareOp .Eq) (rEqV X.K) := op_eq.or (op_eqG hr)
theorem op_neV {X : Cx} {k : Nat} (hr : Room k X.A) : OpR X (compareOp .NotEq) (rNeV X.K) := op_ne.or (op_neG hr)
def eqS : D → D → Option Bool
  | .int i, .int j => some (decide (i = j))
  | .str i, .str j => some (decide (i = j))
  | .bl i, .bl j => some (decide (i = j))
  | _, _ => none
def eqV (neg : Bool) : F2 := fun d e M Q => match eqS d e with
  | some b => Q (.bl (if neg then !b else b)) M
  | none => eqD2 neg d e M Q
theorem eqS_rep {K : PySem.W.Frag} {H : Hp} {x y : V} {d e : D} {b : Bool} (r1 : Rep K H x d) (r2 : Rep K H y e) (h : eqS d e = some b) : scal x y = true ∧ decide (x = y) = b := by
  unfold eqS at h
  split at h
  · cases r1
    cases r2
    refine ⟨rfl, ?_⟩
    rw [← Option.some.inj h]
    exact decide_eq_decide.mpr ⟨fun z => by cases z; rfl, fun z => by rw [z]⟩
  · cases r1
    cases r2
    refine ⟨rfl, ?_⟩
    rw [← Option.some.inj h]
    exact decide_eq_decide.mpr ⟨fun z => by cases z; rfl, fun z => by rw [z]⟩
  · cases r1
    cases r2
    refine ⟨rfl, ?_⟩
    rw [← Option.some.inj h]
    exact decide_eq_decide.mpr ⟨fun z => by cases z; rfl, fun z => by rw [z]⟩
  · cases h
theorem sim_eqV {K : PySem.W.Frag} : SimR K (rEqV K) (eqV false) := by
  intro Z x y d e H M Q Q' S r1 r2 f q
  unfold eqV at f
  split at f
  · rename_i b h
    obtain ⟨h1, h2⟩ := eqS_rep r1 r2 h
    refine .inl ⟨h1, ?_⟩
    rw [h2]
    exact q _ _ H M (Go.refl S) (.bl _) f
  · exact .inr (sim_eq Z x y d e H M Q Q' S r1 r2 f q)
theorem sim_neV {K : PySem.W.Frag} : SimR K (rNeV K) (eqV true) := by
  intro Z x y d e H M Q Q' S r1 r2 f q
  unfold eqV at f
  split at f
  · rename_i b h
    obtain ⟨h1, h2⟩ := eqS_rep r1 r2 h
    refine .inl ⟨h1, ?_⟩
    rw [h2]
    exact q _ _ H M (Go.refl S) (.bl _) f
  · exact .inr (sim_ne Z x y d e H M Q Q' S r1 r2 f q)
end L3
namespace L3
open PySem L2
theorem max_stepK {prog : Program} {w : World} {A : Around} {R : Result → Shared → Prop} {I : Addr} {fp wr : List Addr} {n : Nat} {P : Nat → Value → Prop} {St : Nat → Heap → Prop} {kw : List (Str × Value)}
    (W : Walks prog w A.in1 I fp wr n P St) (bt : Nat → Nat → Bool) (C : CmpOf prog w A.in1 .Gt P bt) (S : Addr) (hS : S ∉ fp) :
    ∀ (k j : Nat) (s : Shared) (vb : Value) (c : Nat), n - (j + 1) = k → j + 1 ≤ n → St (j + 1) s.heap → P (argBest bt j) vb → s.heap.get? S = some { cls := .type "list", data := .seq #[vb, vb] c } →
      (∀ (v : Value) (h' : Heap) (tk : Nat), P (argBest bt (n - 1)) v → (∀ (b : Addr) (o : Obj), b ∉ wr → b ≠ S → s.heap.get? b = some o → h'.get? b = some o) → R (.ok (.ret v)) { heap := h', gens := s.gens, drawn := s.drawn, toks := tk, os := s.os }) →
      codeAny (model prog w) A (.builtin "max.loop" { pos := [.ref I, .none, .ref S], kw := kw }) R s := by
  have hSw : S ∉ wr := fun z => hS (W.sub S z)
  intro k
  induction k with
  | zero =>
    intro j s vb c hk hj hSt hP hget q
    obtain rfl : n = j + 1 := by omega
    refine codeAny_builtin PySem.F.entry_max_loop ?_
    refine wpAny_bind (wpAny_seqItems hget rfl ?_)
    refine wpAny_bind ?_
    refine wpAny_tryCatch (W.done s _ _ hSt fun h' tk keep => ?_)
    refine wpAny_bind (wpAny_updateSeq (keep S _ hSw hget) rfl ?_)
    refine wpAny_bind (wpAny_letGo ?_)
    refine wpAny_pure ?_
    exact q vb _ tk hP fun b o hb hbs e => by
      show (Heap.update h' S _).get? b = some o
      rw [Heap.get?_update_ne _ _ _ _ hbs]
      exact keep b o hb e
  | succ k ih =>
    intro j s vb c hk hj hSt hP hget q
    refine codeAny_builtin PySem.F.entry_max_loop ?_
    refine wpAny_bind (wpAny_seqItems hget rfl ?_)
    refine wpAny_bind ?_
    refine wpAny_tryCatch (W.item (j + 1) s _ _ (by omega) hSt fun v h' tk hv hSt' keep => ?_)
    refine wpAny_bind (wpAny_pure ?_)
    refine wpAny_bind ?_
    refine wpAny_tryCatch (wpAny_holding (wpAny_bind (C (j + 1) (argBest bt j) v vb _ _ _ hv hP ?_)))
    refine wpAny_bind (wpAny_holding (wpAny_truthy_bool ?_))
    refine wpAny_bind (wpAny_letGo ?_)
    refine wpAny_pure ?_
    have eb : argBest bt (j + 1) = if bt (j + 1) (argBest bt j) then j + 1 else argBest bt j := rfl
    cases hb : bt (j + 1) (argBest bt j) with
    | true =>
      rw [hb, if_pos rfl] at eb
      refine wpAny_bind (wpAny_updateSeq (keep S _ hSw hget) rfl ?_)
      refine wpAny_bind (wpAny_letGo ?_)
      refine wpAny_pure ⟨rfl, ?_⟩
      refine ih (j + 1) _ v _ (by omega) (by omega) (W.frame _ _ _ hSt' fun b hbf o e => ?_) (by rw [eb]; exact hv) (Heap.get?_update_self _ (keep S _ hSw hget) rfl) fun v2 h2 tk2 hp2 keep2 => ?_
      · rw [Heap.get?_update_ne _ _ _ _ (fun z : b = S => hS (by rw [← z]; exact hbf))]
        exact e
      · exact q v2 h2 tk2 hp2 fun b o hbw hbs e => keep2 b o hbw hbs (by
          show (Heap.update h' S _).get? b = some o
          rw [Heap.get?_update_ne _ _ _ _ hbs]
          exact keep b o hbw e)
    | false =>
      rw [hb, if_neg Bool.false_ne_true] at eb
      refine wpAny_bind (wpAny_letGo ?_)
      refine wpAny_pure ⟨rfl, ?_⟩
      exact ih (j + 1) _ vb _ (by omega) (by omega) hSt' (by rw [eb]; exact hP) (keep S _ hSw hget) fun v2 h2 tk2 hp2 keep2 => q v2 h2 tk2 hp2 fun b o hbw hbs e => keep2 b o hbw hbs (keep b o hbw e)
/-- the first turn: something is there -/
theorem max_firstK {prog : Program} {w : World} {A : Around} {R : Result → Shared → Prop} {I : Addr} {fp wr : List Addr} {n : Nat} {P : Nat → Value → Prop} {St : Nat → Heap → Prop} {kw : List (Str × Value)}
    (W : Walks prog w A.in1 I fp wr n P St) (bt : Nat → Nat → Bool) (C : CmpOf prog w A.in1 .Gt P bt) (S : Addr) (hS : S ∉ fp) (hn : 0 < n) {s : Shared} {c : Nat} (hSt : St 0 s.heap)
    (hget : s.heap.get? S = some { cls := .type "list", data := .seq #[] c })
    (q : ∀ (v : Value) (h' : Heap) (tk : Nat), P (argBest bt (n - 1)) v → (∀ (b : Addr) (o : Obj), b ∉ wr → b ≠ S → s.heap.get? b = some o → h'.get? b = some o) → R (.ok (.ret v)) { heap := h', gens := s.gens, drawn := s.drawn, toks := tk, os := s.os }) :
    codeAny (model prog w) A (.builtin "max.loop" { pos := [.ref I, .none, .ref S], kw := kw }) R s := by
  have hSw : S ∉ wr := fun z => hS (W.sub S z)
  refine codeAny_builtin PySem.F.entry_max_loop ?_
  refine wpAny_bind (wpAny_seqItems hget rfl ?_)
  refine wpAny_bind ?_
  refine wpAny_tryCatch (W.item 0 s _ _ hn hSt fun v h' tk hv hSt' keep => ?_)
  refine wpAny_bind (wpAny_pure ?_)
  refine wpAny_bind (wpAny_updateSeq (keep S _ hSw hget) rfl ?_)
  refine wpAny_pure ⟨rfl, ?_⟩
  refine max_stepK W bt C S hS _ 0 _ v _ rfl hn (W.frame _ _ _ hSt' fun b hbf o e => ?_) hv (Heap.get?_update_self _ (keep S _ hSw hget) rfl) fun v2 h2 tk2 hp2 keep2 => ?_
  · rw [Heap.get?_update_ne _ _ _ _ (fun z : b = S => hS (by rw [← z]; exact hbf))]
    exact e
  · exact q v2 h2 tk2 hp2 fun b o hbw hbs e => keep2 b o hbw hbs (by
      show (Heap.update h' S _).get? b = some o
      rw [Heap.get?_update_ne _ _ _ _ hbs]
      exact keep b o hbw e)
/-- nothing is there: the default -/
theorem max_noneK {prog : Program} {w : World} {A : Around} {R : Result → Shared → Prop} {I : Addr} {fp wr : List Addr} {P : Nat → Value → Prop} {St : Nat → Heap → Prop} {x : Str} {d : Value} {kw : List (Str × Value)}
    (W : Walks prog w A.in1 I fp wr 0 P St) (S : Addr) {s : Shared} {c : Nat} (hSt : St 0 s.heap) (hget : s.heap.get? S = some { cls := .type "list", data := .seq #[] c })
    (q : ∀ (h' : Heap) (tk : Nat), (∀ (b : Addr) (o : Obj), b ∉ wr → s.heap.get? b = some o → h'.get? b = some o) → R (.ok (.ret d)) { heap := h', gens := s.gens, drawn := s.drawn, toks := tk, os := s.os }) :
    codeAny (model prog w) A (.builtin "max.loop" { pos := [.ref I, .none, .ref S], kw := (x, d) :: kw }) R s := by
  refine codeAny_builtin PySem.F.entry_max_loop ?_
  refine wpAny_bind (wpAny_seqItems hget rfl ?_)
  refine wpAny_bind ?_
  refine wpAny_tryCatch (W.done s _ _ hSt fun h' tk keep => ?_)
  refine wpAny_bind (wpAny_rule ?_)
  exact wpAny_pure (q h' tk keep)
theorem best_le (bt : Nat → Nat → Bool) : ∀ m, argBest bt m ≤ m
  | 0 => Nat.le_refl 0
  | m + 1 => by
    have ih := best_le bt m
    have e : argBest bt (m + 1) = if bt (m + 1) (argBest bt m) then m + 1 else argBest bt m := rfl
    rw [e]
    split <;> omega
theorem best_gt (f : Nat → Int) : ∀ m i, i ≤ m → f i ≤ f (argBest (fun i j => decide (f i > f j)) m)
  | 0, i, h => by
    obtain rfl : i = 0 := by omega
    exact Int.le_refl _
  | m + 1, i, h => by
    have e : argBest (fun i j => decide (f i > f j)) (m + 1) = if decide (f (m + 1) > f (argBest (fun i j => decide (f i > f j)) m)) = true then m + 1 else argBest (fun i j => decide (f i > f j)) m := rfl
    rw [e]
    rcases Nat.lt_or_ge i (m + 1) with z | z
    · have ih := best_gt f m i (by omega)
      split
      · rename_i h2
        have := of_decide_eq_true h2
        omega
      · exact ih
    · obtain rfl : i = m + 1 := by omega
      split
      · exact Int.le_refl _
      · rename_i h2
        have h3 : ¬ (f (m + 1) > f (argBest (fun i j => decide (f i > f j)) m)) := fun z => h2 (decide_eq_true z)
        omega
theorem aok_max (a d : Value) : argsOk "max" { pos := [a], kw := [("default", d)] } := by
  unfold argsOk
  rfl
theorem bind_max (d : Value) : Builtin.Builtins.bindParams "max" ["key", "default"] 0 { kw := [("default", d)] } = pure [none, some d] := by
  rfl
/-- max(xs, default=d) of a list of ints -/
def rMaxDf (K : PySem.W.Frag) : List V → List V → Hp → VK → Prop := fun xs zs H Q => ∃ (a : Addr) (ns : List Int) (d : V), xs = [.ref a] ∧ zs = [d] ∧ SqL K H a (ns.map V.int) ∧ (ns = [] → Q d H) ∧ ∀ m, m ∈ ns → (∀ y ∈ ns, y ≤ m) → Q (.int m) H
theorem cr_maxDf {X : Cx} (hc : X.calm = true) : CallRK X (.builtin "max") ["default"] (rMaxDf X.K) := by
  intro pins s σ H xs zs us ws Q I r1 r2 h
  obtain ⟨a, ns, d, rfl, rfl, hS, q0, q1⟩ := h
  cases r1 with
  | cons ra r1 =>
  cases r1
  cases r2 with
  | cons rd r2 =>
  cases r2
  rename_i ua ud
  cases ra
  obtain ⟨its, rv, pl, hz⟩ := I.list hS
  have hd : X.A.handled = none := I.ok.hd hc
  have il := pl.isList
  refine PyProof.Rows.kmb_tree PySem.F.kind_max PySem.F.plain_max PySem.F.entry_max (aok_max _ _) ?_
  refine wpAny_bind ?_
  rw [show Builtin.Builtins.bindParams "max" ["key", "default"] 0 { kw := ({ pos := [Value.ref a], kw := [Str.ofString "default"].zip [ud] } : Args).kw } = pure [none, some ud] from rfl]
  refine wpAny_pure ?_
  refine wpAny_bind (wpAny_pure ?_)
  refine wpAny_bind (wpAny_pyIter_list il ?_)
  refine wpAny_bind (wpAny_newList ?_)
  refine wpAny_pure ⟨rfl, ?_⟩
  have fr : ∀ b o, s.heap.get? b = some o → b ≠ s.heap.objs.size := fun b o e z => by
    subst z
    simp [Heap.get?] at e
  obtain ⟨o, eo, co, no, dd⟩ := il
  have il : s.heap.IsList a its.toArray := ⟨o, eo, co, no, dd⟩
  have fr1 : ∀ (h : Heap) b o, h.get? b = some o → b ≠ h.objs.size := fun h b o e z => by
    subst z
    simp [Heap.get?] at e
  have sI : a ≠ s.heap.objs.size := fr a o eo
  have g1 : ∀ b u, s.heap.get? b = some u → (s.heap.push { cls := .type "list_iterator", data := .fields #[.ref a, .int 0 0] }).get? b = some u := fun b u e => Heap.get?_push_of_some _ e
  have eI1 : (s.heap.push { cls := .type "list_iterator", data := .fields #[.ref a, .int 0 0] }).get? s.heap.objs.size = some { cls := .type "list_iterator", data := .fields #[.ref a, .int 0 0] } := Heap.get?_push_size _ rfl
  obtain ⟨h1, eh1⟩ : ∃ h1, h1 = s.heap.push { cls := .type "list_iterator", data := .fields #[.ref a, .int 0 0] } := ⟨_, rfl⟩
  rw [← eh1] at g1 eI1
  have g2 : ∀ b u, s.heap.get? b = some u → (h1.push { cls := .type "list", data := .seq #[] }).get? b = some u := fun b u e => Heap.get?_push_of_some _ (g1 b u e)
  have eI : (h1.push { cls := .type "list", data := .seq #[] }).get? s.heap.objs.size = some { cls := .type "list_iterator", data := .fields #[.ref a, .int 0 0] } := Heap.get?_push_of_some _ eI1
  have eS : (h1.push { cls := .type "list", data := .seq #[] }).get? h1.objs.size = some { cls := .type "list", data := .seq #[] } := Heap.get?_push_size _ rfl
  have nSI : h1.objs.size ≠ s.heap.objs.size := fun z => fr1 h1 _ _ eI1 z.symm
  have nSa : h1.objs.size ≠ a := fun z => fr1 h1 _ _ (g1 a o eo) z.symm
  have nin : h1.objs.size ∉ [s.heap.objs.size, a] := fun z => by
    rcases List.mem_cons.mp z with z | z
    · exact nSI z
    · exact nSa (List.mem_singleton.mp z)
  have W := Walks.list (prog := X.prog) (w := X.w) (A := X.A.in1) hd s.heap.objs.size a sI its.toArray
  have st0 : (h1.push { cls := .type "list", data := .seq #[] }).IsListIter s.heap.objs.size a 0 ∧ (h1.push { cls := .type "list", data := .seq #[] }).IsList a its.toArray := ⟨⟨_, eI, rfl, rfl⟩, ⟨o, g2 a o eo, co, no, dd⟩⟩
  have hl := rv.length
  rw [List.length_map] at hl
  show codeAny (model X.prog X.w) X.A (.builtin "max.loop" { pos := [.ref s.heap.objs.size, .none, .ref (s.heap.push { cls := .type "list_iterator", data := .fields #[.ref a, .int 0 0] }).objs.size], kw := [("default", ud)] }) _
    { heap := (s.heap.push { cls := .type "list_iterator", data := .fields #[.ref a, .int 0 0] }).push { cls := .type "list", data := .seq #[] }, gens := s.gens, drawn := s.drawn, toks := s.toks, os := s.os }
  rw [← eh1]
  by_cases hn : its = []
  · subst hn
    have hns : ns = [] := List.length_eq_zero_iff.mp hl
    refine max_noneK W _ st0 eS fun h' tk keep => ⟨d, H, I.kept fun b u e => ?_, rd, q0 hns⟩
    exact keep b u (fun z => fr b u e (List.mem_singleton.mp z)) (g2 b u e)
  · have hpos : 0 < its.toArray.size := by
      rw [List.size_toArray]
      exact List.length_pos_iff.mpr hn
    have val : ∀ i v, its.toArray[i]? = some v → ∃ m t, ns[i]? = some m ∧ v = Value.int m t := fun i v e => by
      rw [List.getElem?_toArray] at e
      have li := (List.getElem?_eq_some_iff.mp e).1
      have li2 : i < ns.length := by omega
      have e1 : (ns.map V.int)[i]? = some (V.int ns[i]) := by rw [List.getElem?_map, List.getElem?_eq_getElem li2]; rfl
      obtain ⟨u, e2, ru⟩ := rv.get e1
      obtain ⟨t, et⟩ := ru
      rw [e] at e2
      exact ⟨ns[i], t, List.getElem?_eq_getElem li2, (Option.some.inj e2).trans et⟩
    have C := CmpOf.ints_gt (prog := X.prog) (w := X.w) (A := X.A.in1) (P := fun i v => its.toArray[i]? = some v) (fun i => ns.getD i 0) fun i v e => by
      obtain ⟨m, t, e1, e2⟩ := val i v e
      refine ⟨t, ?_⟩
      rw [e2, List.getD_eq_getElem?_getD, e1]
      rfl
    refine max_firstK W _ C _ nin hpos st0 eS fun v h' tk hp keep => ?_
    obtain ⟨m, t, e1, e2⟩ := val _ v hp
    subst e2
    refine ⟨.int m, H, I.kept fun b u e => ?_, ⟨t, rfl⟩, q1 m (List.mem_of_getElem? e1) fun y hy => ?_⟩
    · exact keep b u (fun z => fr b u e (List.mem_singleton.mp z)) (fun z => fr1 h1 b u (g1 b u e) z) (g2 b u e)
    · obtain ⟨i, hi, ei⟩ := List.getElem_of_mem hy
      have b1 := best_gt (fun i => ns.getD i 0) (its.toArray.size - 1) i (by rw [List.size_toArray, ← hl]; omega)
      have b2 : ns.getD i 0 = y := by
        rw [List.getD_eq_getElem?_getD, List.getElem?_eq_getElem hi, ei]
        rfl
      have b3 : ns.getD (argBest (fun i j => decide (ns.getD i 0 > ns.getD j 0)) (its.toArray.size - 1)) 0 = m := by
        rw [List.getD_eq_getElem?_getD, e1]
        rfl
      rw [← b2, ← b3]
      exact b1
end L3
namespace L3
open PySem L2
/-- max(xs, default=d) of a tuple of ints -/
def rMaxDfT (K : PySem.W.Frag) : List V → List V → Hp → VK → Prop := fun xs zs H Q => ∃ (a : Addr) (ns : List Int) (d : V), xs = [.ref a] ∧ zs = [d] ∧ SqT K H a (ns.map V.int) ∧ (ns = [] → Q d H) ∧ ∀ m, m ∈ ns → (∀ y ∈ ns, y ≤ m) → Q (.int m) H
theorem cr_maxDfT {X : Cx} (hc : X.calm = true) : CallRK X (.builtin "max") ["default"] (rMaxDfT X.K) := by
  intro pins s σ H xs zs us ws Q I r1 r2 h
  obtain ⟨a, ns, d, rfl, rfl, hS, q0, q1⟩ := h
  cases r1 with
  | cons ra r1 =>
  cases r1
  cases r2 with
  | cons rd r2 =>
  cases r2
  rename_i ua ud
  cases ra
  obtain ⟨its, rv, pl, hz⟩ := I.tuple hS
  have hd : X.A.handled = none := I.ok.hd hc
  have il : s.heap.IsTuple a its.toArray := pl
  refine PyProof.Rows.kmb_tree PySem.F.kind_max PySem.F.plain_max PySem.F.entry_max (aok_max _ _) ?_
  refine wpAny_bind ?_
  rw [show Builtin.Builtins.bindParams "max" ["key", "default"] 0 { kw := ({ pos := [Value.ref a], kw := [Str.ofString "default"].zip [ud] } : Args).kw } = pure [none, some ud] from rfl]
  refine wpAny_pure ?_
  refine wpAny_bind (wpAny_pure ?_)
  refine wpAny_bind (wpAny_pyIter_tuple il ?_)
  refine wpAny_bind (wpAny_newList ?_)
  refine wpAny_pure ⟨rfl, ?_⟩
  have fr : ∀ b o, s.heap.get? b = some o → b ≠ s.heap.objs.size := fun b o e z => by
    subst z
    simp [Heap.get?] at e
  obtain ⟨o, eo, co, no, dd⟩ := il
  have il : s.heap.IsTuple a its.toArray := ⟨o, eo, co, no, dd⟩
  have fr1 : ∀ (h : Heap) b o, h.get? b = some o → b ≠ h.objs.size := fun h b o e z => by
    subst z
    simp [Heap.get?] at e
  have sI : a ≠ s.heap.objs.size := fr a o eo
  have g1 : ∀ b u, s.heap.get? b = some u → (s.heap.push { cls := .type "tuple_iterator", data := .fields #[.ref a, .int 0 0] }).get? b = some u := fun b u e => Heap.get?_push_of_some _ e
  have eI1 : (s.heap.push { cls := .type "tuple_iterator", data := .fields #[.ref a, .int 0 0] }).get? s.heap.objs.size = some { cls := .type "tuple_iterator", data := .fields #[.ref a, .int 0 0] } := Heap.get?_push_size _ rfl
  obtain ⟨h1, eh1⟩ : ∃ h1, h1 = s.heap.push { cls := .type "tuple_iterator", data := .fields #[.ref a, .int 0 0] } := ⟨_, rfl⟩
  rw [← eh1] at g1 eI1
  have g2 : ∀ b u, s.heap.get? b = some u → (h1.push { cls := .type "list", data := .seq #[] }).get? b = some u := fun b u e => Heap.get?_push_of_some _ (g1 b u e)
  have eI : (h1.push { cls := .type "list", data := .seq #[] }).get? s.heap.objs.size = some { cls := .type "tuple_iterator", data := .fields #[.ref a, .int 0 0] } := Heap.get?_push_of_some _ eI1
  have eS : (h1.push { cls := .type "list", data := .seq #[] }).get? h1.objs.size = some { cls := .type "list", data := .seq #[] } := Heap.get?_push_size _ rfl
  have nSI : h1.objs.size ≠ s.heap.objs.size := fun z => fr1 h1 _ _ eI1 z.symm
  have nSa : h1.objs.size ≠ a := fun z => fr1 h1 _ _ (g1 a o eo) z.symm
  have nin : h1.objs.size ∉ [s.heap.objs.size, a] := fun z => by
    rcases List.mem_cons.mp z with z | z
    · exact nSI z
    · exact nSa (List.mem_singleton.mp z)
  have W := Walks.tuple (prog := X.prog) (w := X.w) (A := X.A.in1) hd s.heap.objs.size a sI its.toArray
  have st0 : (h1.push { cls := .type "list", data := .seq #[] }).IsTupleIter s.heap.objs.size a 0 ∧ (h1.push { cls := .type "list", data := .seq #[] }).IsTuple a its.toArray := ⟨⟨_, eI, rfl, rfl⟩, ⟨o, g2 a o eo, co, no, dd⟩⟩
  have hl := rv.length
  rw [List.length_map] at hl
  show codeAny (model X.prog X.w) X.A (.builtin "max.loop" { pos := [.ref s.heap.objs.size, .none, .ref (s.heap.push { cls := .type "tuple_iterator", data := .fields #[.ref a, .int 0 0] }).objs.size], kw := [("default", ud)] }) _
    { heap := (s.heap.push { cls := .type "tuple_iterator", data := .fields #[.ref a, .int 0 0] }).push { cls := .type "list", data := .seq #[] }, gens := s.gens, drawn := s.drawn, toks := s.toks, os := s.os }
  rw [← eh1]
  by_cases hn : its = []
  · subst hn
    have hns : ns = [] := List.length_eq_zero_iff.mp hl
    refine max_noneK W _ st0 eS fun h' tk keep => ⟨d, H, I.kept fun b u e => ?_, rd, q0 hns⟩
    exact keep b u (fun z => fr b u e (List.mem_singleton.mp z)) (g2 b u e)
  · have hpos : 0 < its.toArray.size := by
      rw [List.size_toArray]
      exact List.length_pos_iff.mpr hn
    have val : ∀ i v, its.toArray[i]? = some v → ∃ m t, ns[i]? = some m ∧ v = Value.int m t := fun i v e => by
      rw [List.getElem?_toArray] at e
      have li := (List.getElem?_eq_some_iff.mp e).1
      have li2 : i < ns.length := by omega
      have e1 : (ns.map V.int)[i]? = some (V.int ns[i]) := by rw [List.getElem?_map, List.getElem?_eq_getElem li2]; rfl
      obtain ⟨u, e2, ru⟩ := rv.get e1
      obtain ⟨t, et⟩ := ru
      rw [e] at e2
      exact ⟨ns[i], t, List.getElem?_eq_getElem li2, (Option.some.inj e2).trans et⟩
    have C := CmpOf.ints_gt (prog := X.prog) (w := X.w) (A := X.A.in1) (P := fun i v => its.toArray[i]? = some v) (fun i => ns.getD i 0) fun i v e => by
      obtain ⟨m, t, e1, e2⟩ := val i v e
      refine ⟨t, ?_⟩
      rw [e2, List.getD_eq_getElem?_getD, e1]
      rfl
    refine max_firstK W _ C _ nin hpos st0 eS fun v h' tk hp keep => ?_
    obtain ⟨m, t, e1, e2⟩ := val _ v hp
    subst e2
    refine ⟨.int m, H, I.kept fun b u e => ?_, ⟨t, rfl⟩, q1 m (List.mem_of_getElem? e1) fun y hy => ?_⟩
    · exact keep b u (fun z => fr b u e (List.mem_singleton.mp z)) (fun z => fr1 h1 b u (g1 b u e) z) (g2 b u e)
    · obtain ⟨i, hi, ei⟩ := List.getElem_of_mem hy
      have b1 := best_gt (fun i => ns.getD i 0) (its.toArray.size - 1) i (by rw [List.size_toArray, ← hl]; omega)
      have b2 : ns.getD i 0 = y := by
        rw [List.getD_eq_getElem?_getD, List.getElem?_eq_getElem hi, ei]
        rfl
      have b3 : ns.getD (argBest (fun i j => decide (ns.getD i 0 > ns.getD j 0)) (its.toArray.size - 1)) 0 = m := by
        rw [List.getD_eq_getElem?_getD, e1]
        rfl
      rw [← b2, ← b3]
      exact b1
/-- .. of either -/
def rMaxDfA (K : PySem.W.Frag) : List V → List V → Hp → VK → Prop := fun xs zs H Q => rMaxDf K xs zs H Q ∨ rMaxDfT K xs zs H Q
theorem cr_maxDfA {X : Cx} (hc : X.calm = true) : CallRK X (.builtin "max") ["default"] (rMaxDfA X.K) := fun pins s σ H xs zs us ws Q I r1 r2 h => h.elim (cr_maxDf hc pins s σ H xs zs us ws Q I r1 r2) (cr_maxDfT hc pins s σ H xs zs us ws Q I r1 r2)
def fMaxDf (ds es : List D) (M : Mp) (Q : KD) : Prop := match ds, es with
  | [d], [e] => ∃ ns : List Int, seqD M d = some (ns.map .int) ∧ (ns = [] → Q e M) ∧ ∀ m, m ∈ ns → (∀ y ∈ ns, y ≤ m) → Q (.int m) M
  | _, _ => False
def wKw (f : List D → List D → Mp → KD → Prop) (r rk : WA) : WE := fun ρ M Q => r ρ M fun ds M1 => rk ρ M1 fun es M2 => f ds es M2 Q
section
variable {X : Cx} {e : Expr} {es : List Expr} {kws : List Keyword} {pos p : Pos} {tr tk : TA} {wr wk : WA}
theorem sim_maxDf {K : PySem.W.Frag} (ha : SimA K tr wr) (hk : SimA K tk wk) : SimE K (tCKw (rMaxDfA K) tr tk) (wKw fMaxDf wr wk) := by
  intro Z ρ M σ H Q Q' s h q
  refine ha Z ρ M σ H _ _ s h fun xs ds H1 M1 g1 r1 q1 => ?_
  refine hk Z ρ M1 σ H1 _ _ (s.go g1) q1 fun ys es H2 M2 g2 r2 q2 => ?_
  unfold fMaxDf at q2
  split at q2
  · cases r1 with
    | cons ra r1 =>
    cases r1
    cases r2 with
    | cons rd r2 =>
    cases r2
    obtain ⟨ns, hs, q0, q3⟩ := q2
    obtain ⟨a, vs, rfl, hv, rl⟩ := seq_of g2.sat (ra.up g2.ex) hs
    obtain rfl := rl.ints
    have g := g1.trans g2
    rcases hv with hv | hv
    · exact .inl ⟨a, ns, _, rfl, rfl, hv, fun e => q _ _ H2 M2 g rd (q0 e), fun m h1 h2 => q _ _ H2 M2 g (.int m) (q3 m h1 h2)⟩
    · exact .inr ⟨a, ns, _, rfl, rfl, hv, fun e => q _ _ H2 M2 g rd (q0 e), fun m h1 h2 => q _ _ H2 M2 g (.int m) (q3 m h1 h2)⟩
  · exact q2.elim
theorem de_maxDf (hc : X.calm = true) (hm : X.mg "max" = none) (ha : DA X (e :: es) tr wr) (hk : DK X kws tk wk) (hg : Gl X "max" := by rfl)
    (h1 : backTo pos (starEach (e :: es) X.env) = (false, eval e X.env) :: backTo pos (starEach es X.env) := by rfl) (h2 : (backTo pos (starEach (e :: es) X.env)).any (·.1) = false := by rfl)
    (h3 : (backToKw pos (keywordEach kws X.env)).all (·.1.isSome) = true := by rfl) (h4 : (backToKw pos (keywordEach kws X.env)).any (·.1.isNone) = false := by rfl) (h5 : (backToKw pos (keywordEach kws X.env)).filterMap (·.1) = [("default" : Str)] := by rfl) :
    DE X (.Call (.Name "max" p) (e :: es) kws pos) (tCKw (rMaxDfA X.K) tr tk) (wKw fMaxDf wr wk) :=
  ⟨pe_callBK (cr_maxDfA hc) hg hm (show bootBuiltins "max" = some (.builtin "max") from rfl) ha.pe hk.pe (by decide) (by decide) h1 h2 h3 h4 h5, sim_maxDf ha.sm hk.sm⟩
end
end L3
namespace L3
open PySem L2
theorem pre_sum (ns : List Int) : ∀ m, m ≤ ns.length → preSum (fun i => ns.getD i 0) m = (ns.take m).sum
  | 0, _ => by
    rw [List.take_zero]
    rfl
  | m + 1, h => by
    have e : preSum (fun i => ns.getD i 0) (m + 1) = preSum (fun i => ns.getD i 0) m + ns.getD m 0 := rfl
    rw [e, pre_sum ns m (by omega), List.take_succ, List.sum_append, List.getD_eq_getElem?_getD, List.getElem?_eq_getElem (by omega)]
    simp
/-- sum of a tuple of ints, none of whose beginnings is too great -/
def rSumT (K : PySem.W.Frag) : List V → Hp → VK → Prop := fun xs H Q => ∃ (a : Addr) (ns : List Int), xs = [.ref a] ∧ SqT K H a (ns.map V.int) ∧ (∀ j, j < ns.length → InLong (ns.getD j 0) ∧ InLong ((ns.take (j + 1)).sum)) ∧ Q (.int ns.sum) H
theorem cr_sumT {X : Cx} (hc : X.calm = true) : CallR X (.builtin "sum") (rSumT X.K) := by
  intro pins s σ H xs us Q I r1 h
  obtain ⟨a, ns, rfl, hS, hb, q1⟩ := h
  cases r1 with
  | cons ra r1 =>
  cases r1
  rename_i ua
  cases ra
  obtain ⟨its, rv, pl, hz⟩ := I.tuple hS
  have hd : X.A.handled = none := I.ok.hd hc
  have il : s.heap.IsTuple a its.toArray := pl
  refine PySem.call_function_tree PySem.F.kind_sum PySem.F.plain_sum PySem.F.entry_sum (PySem.F.args_sum1 _) ?_
  refine wpAny_bind ?_
  rw [show Builtin.Builtins.bindParams "sum" ["start"] 0 { pos := [], kw := ({ pos := [Value.ref a] } : Args).kw } = pure [none] from rfl]
  refine wpAny_pure ?_
  refine wpAny_bind (wpAny_pyIter_tuple il ?_)
  refine wpAny_bind (wpAny_mkInt ?_)
  refine wpAny_bind (wpAny_pure ?_)
  refine wpAny_bind ?_
  simp only [List.forIn_cons, List.forIn_nil]
  have st1 : isSubtype (Value.type "int") (Value.type "str") = pure false := by rfl
  have st2 : isSubtype (Value.type "int") (Value.type "bytes") = pure false := by rfl
  have st3 : isSubtype (Value.type "int") (Value.type "bytearray") = pure false := by rfl
  refine wpAny_bind (wpAny_bind (wpAny_isInstance_val (T := "int") rfl st1 ?_))
  refine wpAny_pure ?_
  refine wpAny_bind (wpAny_bind (wpAny_isInstance_val (T := "int") rfl st2 ?_))
  refine wpAny_pure ?_
  refine wpAny_bind (wpAny_bind (wpAny_isInstance_val (T := "int") rfl st3 ?_))
  refine wpAny_pure ?_
  refine wpAny_pure ?_
  refine wpAny_bind (wpAny_newList ?_)
  refine wpAny_pure ⟨rfl, ?_⟩
  obtain ⟨o, eo, co, no, dd⟩ := il
  have fr1 : ∀ (h : Heap) b o, h.get? b = some o → b ≠ h.objs.size := fun h b o e z => by
    subst z
    simp [Heap.get?] at e
  have sI : a ≠ s.heap.objs.size := fr1 _ a o eo
  have g1 : ∀ b u, s.heap.get? b = some u → (s.heap.push { cls := .type "tuple_iterator", data := .fields #[.ref a, .int 0 0] }).get? b = some u := fun b u e => Heap.get?_push_of_some _ e
  have eI1 : (s.heap.push { cls := .type "tuple_iterator", data := .fields #[.ref a, .int 0 0] }).get? s.heap.objs.size = some { cls := .type "tuple_iterator", data := .fields #[.ref a, .int 0 0] } := Heap.get?_push_size _ rfl
  obtain ⟨h1, eh1⟩ : ∃ h1, h1 = s.heap.push { cls := .type "tuple_iterator", data := .fields #[.ref a, .int 0 0] } := ⟨_, rfl⟩
  rw [← eh1] at g1 eI1
  have g2 : ∀ b u, s.heap.get? b = some u → (h1.push { cls := .type "list", data := .seq #[.int 0 s.toks] }).get? b = some u := fun b u e => Heap.get?_push_of_some _ (g1 b u e)
  have eI : (h1.push { cls := .type "list", data := .seq #[.int 0 s.toks] }).get? s.heap.objs.size = some { cls := .type "tuple_iterator", data := .fields #[.ref a, .int 0 0] } := Heap.get?_push_of_some _ eI1
  have eS : (h1.push { cls := .type "list", data := .seq #[.int 0 s.toks] }).get? h1.objs.size = some { cls := .type "list", data := .seq #[.int 0 s.toks] } := Heap.get?_push_size _ rfl
  have nSI : h1.objs.size ≠ s.heap.objs.size := fun z => fr1 h1 _ _ eI1 z.symm
  have nSa : h1.objs.size ≠ a := fun z => fr1 h1 _ _ (g1 a o eo) z.symm
  have nin : h1.objs.size ∉ [s.heap.objs.size, a] := fun z => by
    rcases List.mem_cons.mp z with z | z
    · exact nSI z
    · exact nSa (List.mem_singleton.mp z)
  have W := Walks.tuple (prog := X.prog) (w := X.w) (A := X.A.in1) hd s.heap.objs.size a sI its.toArray
  have st0 : (h1.push { cls := .type "list", data := .seq #[.int 0 s.toks] }).IsTupleIter s.heap.objs.size a 0 ∧ (h1.push { cls := .type "list", data := .seq #[.int 0 s.toks] }).IsTuple a its.toArray := ⟨⟨_, eI, rfl, rfl⟩, ⟨o, g2 a o eo, co, no, dd⟩⟩
  have hl := rv.length
  rw [List.length_map] at hl
  have sz : its.toArray.size = ns.length := by rw [List.size_toArray, hl]
  show codeAny (model X.prog X.w) X.A (.builtin "sum.loop" { pos := [.ref s.heap.objs.size, .ref (s.heap.push { cls := .type "tuple_iterator", data := .fields #[.ref a, .int 0 0] }).objs.size, rawInt 0, rawInt 0] }) _
    { heap := (s.heap.push { cls := .type "tuple_iterator", data := .fields #[.ref a, .int 0 0] }).push { cls := .type "list", data := .seq #[.int 0 s.toks] }, gens := s.gens, drawn := s.drawn, toks := s.toks + 1, os := s.os }
  rw [← eh1]
  have val : ∀ i v, its.toArray[i]? = some v → ∃ t, v = Value.int (ns.getD i 0) t := fun i v e => by
    rw [List.getElem?_toArray] at e
    have li := (List.getElem?_eq_some_iff.mp e).1
    have li2 : i < ns.length := by omega
    have e1 : (ns.map V.int)[i]? = some (V.int ns[i]) := by rw [List.getElem?_map, List.getElem?_eq_getElem li2]; rfl
    obtain ⟨u, e2, ru⟩ := rv.get e1
    obtain ⟨t, et⟩ := ru
    rw [e] at e2
    refine ⟨t, (Option.some.inj e2).trans ?_⟩
    rw [et, List.getD_eq_getElem?_getD, List.getElem?_eq_getElem li2]
    rfl
  refine codeAny_sum_loop W (fun i => ns.getD i 0) val (fun j hj => ?_) _ nin _ 0 _ s.toks _ rfl (Nat.zero_le _) st0 eS fun h' tk t' keep => ?_
  · have hj2 : j < ns.length := by omega
    rw [pre_sum ns (j + 1) hj2]
    exact hb j hj2
  · rw [sz, pre_sum ns _ (Nat.le_refl _), List.take_length]
    exact ⟨.int ns.sum, H, I.kept fun b u e => keep b u (fun z => fr1 s.heap b u e (List.mem_singleton.mp z)) (fun z => fr1 h1 b u (g1 b u e) z) (g2 b u e), ⟨t', rfl⟩, q1⟩
/-- sum of a list, or of a tuple -/
def rSumA (K : PySem.W.Frag) : List V → Hp → VK → Prop := fun xs H Q => rSum K xs H Q ∨ rSumT K xs H Q
theorem cr_sumA {X : Cx} (hc : X.calm = true) : CallR X (.builtin "sum") (rSumA X.K) := (cr_sum hc).or (cr_sumT hc)
def fSumA : FC := fun ds M Q => match ds with
  | [d] => ∃ ns : List Int, seqD M d = some (ns.map .int) ∧ (∀ j, j < ns.length → InLong (ns.getD j 0) ∧ InLong ((ns.take (j + 1)).sum)) ∧ Q (.int ns.sum) M
  | _ => False
theorem sim_sumA {K : PySem.W.Frag} : SimC K (rSumA K) fSumA := by
  intro Z xs ds H M Q Q' S r f q
  unfold fSumA at f
  split at f
  · cases r with
    | cons r1 r2 =>
      cases r2
      obtain ⟨ns, hs, hb, z⟩ := f
      obtain ⟨p, vs, rfl, hv, rl⟩ := seq_of S r1 hs
      obtain rfl := rl.ints
      rcases hv with hv | hv
      · exact .inl ⟨p, ns, rfl, hv, q _ _ H M (Go.refl S) (.int _) z⟩
      · exact .inr ⟨p, ns, rfl, hv, hb, q _ _ H M (Go.refl S) (.int _) z⟩
  · exact f.elim
end L3
namespace L3
open PySem L2
section
variable {X : Cx} {E : WX3} {e e2 o a b : Expr} {es : List Expr} {pos p p2 tpos apos cpos : Pos} {elts : List Expr} {kk : Nat} {te to ta tb : TE} {we wo wa wb : WE} {tr : TA} {wr : WA}
/-! ### zip of two tuples, or of two lists -/
def zipD (xs ys : List D) : List D := List.zipWith (fun x y => D.tup [x, y]) xs ys
def wiZip (w : WA) : WI := fun ρ M R => w ρ M fun ds M1 => match ds with
  | [.tup xs, .tup ys] => R (zipD xs ys) AnyM M1
  | [.lst xs, .lst ys] => R (zipD xs ys) AnyM M1
  | _ => False
theorem zip_get {xs ys : List D} {i : Nat} {d : D} (h : (zipD xs ys)[i]? = some d) : ∃ x y, xs[i]? = some x ∧ ys[i]? = some y ∧ d = .tup [x, y] := by
  unfold zipD at h
  rw [List.getElem?_zipWith] at h
  cases q1 : xs[i]? with
  | none =>
    rw [q1] at h
    cases h
  | some x =>
    cases q2 : ys[i]? with
    | none =>
      rw [q1, q2] at h
      cases h
    | some y =>
      rw [q1, q2] at h
      exact ⟨x, y, rfl, rfl, (Option.some.inj h).symm⟩
theorem walks_zt {K : PySem.W.Frag} {Z H : Hp} {M : Mp} {p q : Addr} {vs ws : List V} {ds es : List D} (h1 : SqT K (fz Z H M) p vs) (r1 : RepL K (fz Z H M) vs ds) (h2 : SqT K (fz Z H M) q ws) (r2 : RepL K (fz Z H M) ws es) : Walks3 K Z H M (RZ.ItzT K p q) (zipD ds es) AnyM := by
  intro Z2 H2 M2 S ex _
  have k1 : SqT K H2 p vs := sqt_mono (ex.trans fz_sub) h1
  have k2 : SqT K H2 q ws := sqt_mono (ex.trans fz_sub) h2
  refine ⟨fun i d e => ?_, fun i hi => ⟨vs, ws, k1, k2, ?_⟩⟩
  · obtain ⟨x, y, e1, e2, rfl⟩ := zip_get e
    obtain ⟨v, a1, b1⟩ := r1.get e1
    obtain ⟨u, a2, b2⟩ := r2.get e2
    refine ⟨⟨vs, ws, v, u, k1, k2, a1, a2⟩, fun z H3 ⟨T, x', y', ez, hT, eH, y1, y2⟩ => ?_⟩
    obtain rfl : v = x' := Option.some.inj (a1.symm.trans (y1 vs k1))
    obtain rfl : u = y' := Option.some.inj (a2.symm.trans (y2 ws k2))
    subst ez
    subst eH
    obtain ⟨g, n⟩ := Go.laid (o := .tup [v, u]) S hT
    exact ⟨g, .tup (.inl (.inl n)) (.cons ((b1.up ex).up g.ex) (.cons ((b2.up ex).up g.ex) .nil))⟩
  · rw [r1.len, r2.len]
    unfold zipD at hi
    rw [List.length_zipWith] at hi
    omega
theorem walks_zl {K : PySem.W.Frag} {Z H : Hp} {M : Mp} {p q : Addr} {vs ws : List V} {ds es : List D} (h1 : SqL K (fz Z H M) p vs) (r1 : RepL K (fz Z H M) vs ds) (h2 : SqL K (fz Z H M) q ws) (r2 : RepL K (fz Z H M) ws es) : Walks3 K Z H M (Itz K p q) (zipD ds es) AnyM := by
  intro Z2 H2 M2 S ex _
  have k1 : SqL K H2 p vs := (ex.trans fz_sub).seq h1
  have k2 : SqL K H2 q ws := (ex.trans fz_sub).seq h2
  refine ⟨fun i d e => ?_, fun i hi => ⟨vs, ws, k1, k2, ?_⟩⟩
  · obtain ⟨x, y, e1, e2, rfl⟩ := zip_get e
    obtain ⟨v, a1, b1⟩ := r1.get e1
    obtain ⟨u, a2, b2⟩ := r2.get e2
    refine ⟨⟨vs, ws, v, u, k1, k2, a1, a2⟩, fun z H3 ⟨T, x', y', ez, hT, eH, y1, y2⟩ => ?_⟩
    obtain rfl : v = x' := Option.some.inj (a1.symm.trans (y1 vs k1))
    obtain rfl : u = y' := Option.some.inj (a2.symm.trans (y2 ws k2))
    subst ez
    subst eH
    obtain ⟨g, n⟩ := Go.laid (o := .tup [v, u]) S hT
    exact ⟨g, .tup (.inl (.inl n)) (.cons ((b1.up ex).up g.ex) (.cons ((b2.up ex).up g.ex) .nil))⟩
  · rw [r1.len, r2.len]
    unfold zipD at hi
    rw [List.length_zipWith] at hi
    omega
theorem di_zip (hm : X.mg "zip" = none) (ha : DA X [e, e2] tr wr) (hg : Gl X "zip" := by rfl) (hs : starEach [e, e2] X.env = (false, eval e X.env) :: starEach [e2] X.env := by rfl) (hs2 : (backTo pos (starEach [e2] X.env)).any (·.1) = false := by rfl) :
    DI X (.Tuple elts kk tpos) (.Call (.Name "zip" p) [e, e2] [] pos) (RZ.iZipA X.K tr) (wiZip wr) := by
  refine ⟨RZ.pi_zipA hg hm ha.pe hs hs2, fun Z ρ M σ H R R' s hw q => ?_⟩
  refine ha.sm Z ρ M σ H _ _ s hw fun xs ds H1 M1 g1 r1 q1 => ?_
  split at q1
  · cases r1 with
    | cons r1 r2 =>
      cases r2 with
      | cons r2 r3 =>
        cases r3
        cases r1 with
        | tup h1 l1 =>
          cases r2 with
          | tup h2 l2 => exact ⟨_, _, _, _, rfl, .inr ⟨sqt_mono fz_sub h1, sqt_mono fz_sub h2, q _ _ _ H1 M1 g1 (walks_zt h1 l1 h2 l2) q1⟩⟩
  · cases r1 with
    | cons r1 r2 =>
      cases r2 with
      | cons r2 r3 =>
        cases r3
        cases r1 with
        | lst h1 l1 =>
          cases r2 with
          | lst h2 l2 => exact ⟨_, _, _, _, rfl, .inl ⟨fz_sub.seq h1, fz_sub.seq h2, q _ _ _ H1 M1 g1 (walks_zl h1 l1 h2 l2) q1⟩⟩
  · exact q1.elim
/-! ### methods of a list of the store -/
def wApp (wo : WE) (r : WA) : WE := fun ρ M Q => wo ρ M fun d M1 => match d with
  | .tok a => (∃ es, M1 a = some (.lst es)) ∧ r ρ M1 fun ds M2 => match ds with
    | [x] => ∃ es, M2 a = some (.lst es) ∧ es.length < sizeLine ∧ Q .non (setM M2 a (.lst (es ++ [x])))
    | _ => False
  | _ => False
theorem de_append (ho : DE X o to wo) (ha : DA X (e :: es) tr wr) (hs : attributeBase o "append" X.env (eval o X.env) = eval o X.env := by rfl)
    (h2 : (((backTo cpos (starEach (e :: es) X.env)).all fun x => !x.1) && ((backToKw cpos (keywordEach [] X.env)).all fun x => x.1.isSome) && decide (((e :: es).length + ([] : List Keyword).length + if ([] : List Keyword).isEmpty = true then 0 else 1) < 30)) = true := by rfl)
    (h3 : (apos.endLine == cpos.line) = true := by rfl) (h4 : starEach (e :: es) X.env = (false, eval e X.env) :: starEach es X.env := by rfl) (h5 : (backTo cpos (starEach es X.env)).any (·.1) = false := by rfl) :
    DE X (.Call (.Attribute o "append" apos) (e :: es) [] cpos) (tBM X.K "list" rAppend to tr) (wApp wo wr) := by
  refine ⟨pe_bm PySem.F.plainAttrs_list PySem.F.slot_list_append PySem.F.type_list_append mt_append ho.pe ha.pe hs h2 h3 h4 h5, fun Z ρ M σ H Q Q' s h q => ?_⟩
  refine ho.sm Z ρ M σ H _ _ s h fun x d H1 M1 g1 r1 q1 => ?_
  cases d with
  | tok a =>
    cases r1
    obtain ⟨⟨es0, hm⟩, q1⟩ := q1
    obtain ⟨vs0, e0, _⟩ := g1.sat.cell a _ hm
    refine ⟨.inl ⟨rfl, _, .inl (.inl e0)⟩, ?_⟩
    refine ha.sm Z ρ M1 σ H1 _ _ (s.go g1) q1 fun ys ds H2 M2 g2 r2 q2 => ?_
    cases r2 with
    | nil => exact q2.elim
    | cons ra rb =>
      cases rb with
      | nil =>
        obtain ⟨es, hm2, hl, q3⟩ := q2
        obtain ⟨vs, e1, rl⟩ := g2.sat.cell a _ hm2
        refine ⟨a, vs, _, rfl, rfl, e1, by rw [rl.len]; exact hl, ?_⟩
        have g3 := Go.putL (p := a) g2.sat (.inr ⟨es, hm2⟩) (rl.app (.cons ra .nil))
        exact q _ _ _ _ ((g1.trans g2).trans g3) .non q3
      | cons _ _ => exact q2.elim
  | _ => exact q1.elim
/-- list(range(n)), a list that is to change -/
def wRg1 (w : WE) : En → Mp → (Int → Int → Mp → Prop) → Prop := fun ρ M Q => w ρ M fun d M1 => match d with
  | .int n => Q 0 n M1
  | _ => False
def wListRg (w : WE) : WE := fun ρ M Q => w ρ M fun d M1 => match d with
  | .int n => RgOk 0 n ∧ ∀ p, M1 p = none → Q (.tok p) (setM M1 p (.lst (intsD 0 n.toNat)))
  | _ => False
theorem de_listRg (hc : X.calm = true) (hm : X.mg "list" = none) (hm2 : X.mg "range" = none) (ha : DE X a ta wa) (hg : Gl X "list" := by rfl) (hg2 : Gl X "range" := by rfl)
    (hs : starEach [(.Call (.Name "range" p2) [a] [] tpos)] X.env = (false, eval (.Call (.Name "range" p2) [a] [] tpos) X.env) :: starEach [] X.env := by rfl) (hs2 : starEach [a] X.env = [(false, eval a X.env)] := by rfl) :
    DE X (.Call (.Name "list" p) [(.Call (.Name "range" p2) [a] [] tpos)] [] pos) (tLstRg (tRg1 ta)) (wListRg wa) := by
  refine ⟨pe_listRg hc hg hm (prg_1 hg2 hm2 ha.pe hs2) hs, fun Z ρ M σ H Q Q' s h q => ?_⟩
  refine ha.sm Z ρ M σ H _ _ s h fun x d H1 M1 g1 r1 q1 => ?_
  cases d with
  | int n =>
    cases r1
    obtain ⟨ok, q2⟩ := q1
    refine ⟨n, rfl, ok, fun l hl => ?_⟩
    have er : RepL X.K (fz Z H1 M1) (rgV 0 n) (intsD 0 n.toNat) := by
      have e1 : rgV 0 n = ((List.range n.toNat).map fun (i : Nat) => (0 : Int) + (i : Int)).map V.int := by
        unfold rgV
        rw [List.map_map, Int.sub_zero]
        rfl
      have e2 : intsD 0 n.toNat = ((List.range n.toNat).map fun (i : Nat) => (0 : Int) + (i : Int)).map D.int := by
        unfold intsD
        rw [List.map_map]
        rfl
      rw [e1, e2]
      exact .ofInts _
    exact q _ _ _ _ (g1.trans (Go.putL g1.sat (.inl hl) er)) (.tok l) (q2 l (g1.sat.free hl))
  | _ => exact q1.elim
/-- tuple * int -/
def tmulD : F2 := fun d e M Q => match d, e with
  | .tup ds, .int k => ds ≠ [] ∧ 2 ≤ k ∧ k ≤ 1000 ∧ ds.length ≤ 1000 ∧ Q (.tup (List.replicate k.toNat ds).flatten) M
  | _, _ => False
theorem rep_flat {K : PySem.W.Frag} {H : Hp} {vs : List V} {ds : List D} (r : RepL K H vs ds) : ∀ k : Nat, RepL K H (List.replicate k vs).flatten (List.replicate k ds).flatten
  | 0 => .nil
  | k + 1 => by
    rw [List.replicate_succ, List.replicate_succ, List.flatten_cons, List.flatten_cons]
    exact r.app (rep_flat r k)
theorem sim_tmul {K : PySem.W.Frag} : SimR K (rRepT K) tmulD := by
  intro Z x y d e H M Q Q' S r1 r2 f q
  unfold tmulD at f
  split at f
  · cases r1 with
    | tup h1 l1 =>
      cases r2
      obtain ⟨f0, f1, f2, f3, f4⟩ := f
      refine ⟨_, _, _, rfl, rfl, sqt_mono fz_sub h1, fun z => f0 ?_, f1, f2, by rw [l1.len]; exact f3, fun p hp => ?_⟩
      · subst z
        cases l1
        rfl
      · obtain ⟨g, n⟩ := Go.laid (o := .tup (List.replicate _ _).flatten) S hp
        exact q _ _ _ _ g (.tup (.inl (.inl n)) ((rep_flat l1 _).up g.ex)) f4
  · exact f.elim
theorem de_tmul (ha : DE X a ta wa) (hb : DE X b tb wb) : DE X (.BinOp a .Mult b pos) (tOp (rRepT X.K) ta tb) (wOp tmulD wa wb) := de_op op_repT sim_tmul ha hb
end
end L3
namespace L3
open PySem L2
/-! ### how readings are walked, a statement at a time -/
theorem seq_gen {u1 u2 : WS} {D : Ends3} {ρ : En} {M : Mp} (h : ∀ K : En → Mp → Prop, K = u2 D → u1 { D with nx := K } ρ M) : wSeq u1 u2 D ρ M := h _ rfl
theorem for_gen {wi : WI} {g : WG} {wb : WS} {D : Ends3} {ρ : En} {M : Mp} (h : ∀ B : WS, B = wb → wFor wi g B D ρ M) : wFor wi g wb D ρ M := h _ rfl
theorem loop_ix {g : WG} {wb : WS} {Ok : Mp → Prop} {D3 : Ends3} {ds : List D} (P : Nat → En → Mp → Prop)
    (hs : ∀ i d ρ M, ds[i]? = some d → P i ρ M → Ok M ∧ ∀ K : En → Mp → Prop, (∀ ρ' M', P (i + 1) ρ' M' → K ρ' M') → g d ρ M fun ρ1 M1 => wb { D3 with nx := K, ct := K, bk := D3.nx } ρ1 M1)
    (he : ∀ ρ M, P ds.length ρ M → Ok M ∧ D3.nx ρ M) : ∀ {ρ M}, P 0 ρ M → wLoop g wb Ok D3 ds ρ M := by
  have main : ∀ (es : List D) (i : Nat), i ≤ ds.length → ds.drop i = es → ∀ ρ M, P i ρ M → wLoop g wb Ok D3 es ρ M := by
    intro es
    induction es with
    | nil =>
      intro i hi e ρ M h
      have l : ds.length ≤ i := List.drop_eq_nil_iff.mp e
      obtain rfl : i = ds.length := Nat.le_antisymm hi l
      exact he ρ M h
    | cons d es ih =>
      intro i hi e ρ M h
      have l : i < ds.length := by
        rcases Nat.lt_or_ge i ds.length with z | z
        · exact z
        · rw [List.drop_eq_nil_of_le z] at e
          cases e
      have e2 := List.drop_eq_getElem_cons l
      rw [e] at e2
      obtain ⟨e3, e4⟩ := List.cons.inj e2
      obtain ⟨ok, k⟩ := hs i d ρ M (by rw [List.getElem?_eq_getElem l, e3]) h
      exact ⟨ok, k _ fun ρ' M' h' => ih (i + 1) l e4.symm ρ' M' h'⟩
  exact fun {ρ M} h => main ds 0 (Nat.zero_le _) rfl ρ M h
theorem intsD_len {lo : Int} {n : Nat} : (intsD lo n).length = n := by
  unfold intsD
  rw [List.length_map, List.length_range]
theorem intsD_get {lo : Int} {n i : Nat} {d : D} (h : (intsD lo n)[i]? = some d) : i < n ∧ d = .int (lo + (i : Int)) := by
  have hi : i < n := by
    have z := (List.getElem?_eq_some_iff.mp h).1
    rw [intsD_len] at z
    exact z
  refine ⟨hi, ?_⟩
  unfold intsD at h
  rw [List.getElem?_map, List.getElem?_range hi] at h
  exact (Option.some.inj h).symm
/-- a comprehension each of whose values is known -/
theorem lc_pure {g : WG} {we : WE} {Ok : Mp → Prop} {ρ : En} {M : Mp} {Q : KD} (f : D → D) (ok : Ok M) : ∀ (ds acc : List D), acc.length + ds.length ≤ 1000000 → (∀ d ∈ ds, ∀ K : KD, K (f d) M → g d ρ M fun ρ1 M1 => we ρ1 M1 K) →
    Q (.lst (acc ++ ds.map f)) M → wLcL g wYes we Ok ρ ds acc M Q
  | [], acc, _, _, q => ⟨ok, by rw [List.map_nil, List.append_nil] at q; exact q⟩
  | d :: ds, acc, hl, hs, q => by
    rw [List.length_cons] at hl
    refine ⟨ok, Nat.lt_of_lt_of_le (by omega : acc.length < 1000000) (by decide), ?_⟩
    have z := hs d List.mem_cons_self (fun y M3 => wLcL g wYes we Ok ρ ds (acc ++ [y]) M3 Q)
      (lc_pure f ok ds (acc ++ [f d]) (by rw [List.length_append, List.length_singleton]; omega) (fun d' h' => hs d' (List.mem_cons_of_mem _ h')) (by rw [List.append_assoc]; exact q))
    exact z
/-- .. each of whose values is one of those that P tells -/
theorem lc_any {g : WG} {we : WE} {Ok : Mp → Prop} {ρ : En} {M : Mp} {Q : KD} (P : D → D → Prop) (ok : Ok M) : ∀ (ds acc : List D), acc.length + ds.length ≤ 1000000 → (∀ d ∈ ds, ∀ K : KD, (∀ y, P d y → K y M) → g d ρ M fun ρ1 M1 => we ρ1 M1 K) →
    (∀ ys : List D, ys.length = ds.length → (∀ (i : Nat) (y : D), ys[i]? = some y → ∃ d, ds[i]? = some d ∧ P d y) → Q (.lst (acc ++ ys)) M) → wLcL g wYes we Ok ρ ds acc M Q
  | [], acc, _, _, q => ⟨ok, by have z := q [] rfl (fun i y h => by rw [List.getElem?_nil] at h; cases h); rw [List.append_nil] at z; exact z⟩
  | d :: ds, acc, hl, hs, q => by
    rw [List.length_cons] at hl
    refine ⟨ok, Nat.lt_of_lt_of_le (by omega : acc.length < 1000000) (by decide), ?_⟩
    have z := hs d List.mem_cons_self (fun y M3 => wLcL g wYes we Ok ρ ds (acc ++ [y]) M3 Q) fun y hy =>
      lc_any P ok ds (acc ++ [y]) (by rw [List.length_append, List.length_singleton]; omega) (fun d' h' => hs d' (List.mem_cons_of_mem _ h')) fun ys hy1 hy2 => by
        rw [List.append_assoc]
        refine q (y :: ys) (by rw [List.length_cons, List.length_cons, hy1]) fun i u hu => ?_
        cases i with
        | zero =>
          rw [List.getElem?_cons_zero] at hu
          exact ⟨d, rfl, (Option.some.inj hu) ▸ hy⟩
        | succ i =>
          rw [List.getElem?_cons_succ] at hu
          rw [List.getElem?_cons_succ]
          exact hy2 i u hu
    exact z
theorem eqV_int {M : Mp} {neg : Bool} {x y : Int} {Q : KD} : eqV neg (.int x) (.int y) M Q ↔ Q (.bl (if neg then !decide (x = y) else decide (x = y))) M := Iff.rfl
theorem eqV_str {M : Mp} {neg : Bool} {x y : Str} {Q : KD} : eqV neg (.str x) (.str y) M Q ↔ Q (.bl (if neg then !decide (x = y) else decide (x = y))) M := Iff.rfl
theorem eqV_bl {M : Mp} {neg : Bool} {x y : Bool} {Q : KD} : eqV neg (.bl x) (.bl y) M Q ↔ Q (.bl (if neg then !decide (x = y) else decide (x = y))) M := Iff.rfl
theorem cm_of {a b : Int} (h1 : -2 ^ 60 ≤ a) (h2 : a ≤ 2 ^ 60) : CM a b := .inl (.inl ⟨by omega, by omega⟩)
theorem cm_of' {a b : Int} (h1 : -2 ^ 60 ≤ b) (h2 : b ≤ 2 ^ 60) : CM a b := .inl (.inr ⟨by omega, by omega⟩)
theorem draw_i {M : Mp} {a a0 : Addr} {n : Int} {Q : KD} {R} (hm : M a = some (.drw a0)) (h0 : 0 < n) (h1 : n.natAbs.log2 < 9000) : drawF [.tok a, .int n] M Q R ↔ ∀ k, 0 ≤ k → k < n → Q (.int k) M := by
  constructor
  · rintro ⟨_, _, _, h, _, _, _, q⟩
    cases h
    exact q
  · exact fun q => ⟨a, a0, n, rfl, hm, h0, h1, q⟩
theorem log_of {n : Int} (h0 : 0 ≤ n) (h : n < 2 ^ 60) : n.natAbs.log2 < 9000 := by
  by_cases z : n.natAbs = 0
  · rw [z]
    decide
  · have e : n.natAbs.log2 < 60 := (Nat.log2_lt z).mpr (by omega)
    omega
theorem pick_i {M : Mp} {a a0 : Addr} {es : List D} {Q : KD} {R} (hm : M a = some (.drw a0)) (h0 : 0 < es.length) (h1 : es.length ≤ 1000000) : pickF [.tok a, .lst es] M Q R ↔ ∀ x ∈ es, Q x M := by
  constructor
  · rintro ⟨_, _, _, _, h, _, hs, _, _, q⟩
    cases h
    cases hs
    exact q
  · exact fun q => ⟨a, a0, _, es, rfl, hm, rfl, h0, h1, q⟩
theorem pick_q {M : Mp} {a a0 : Addr} {d : D} {es : List D} {Q : KD} {R} (hm : M a = some (.drw a0)) (hs : seqD M d = some es) (h0 : 0 < es.length) (h1 : es.length ≤ 1000000) (q : ∀ x ∈ es, Q x M) : pickF [.tok a, d] M Q R := ⟨a, a0, _, es, rfl, hm, hs, h0, h1, q⟩
/-- the largest of some numbers, 0 if there are none -/
def mxI : List Int → Int
  | [] => 0
  | n :: ns => if mxI ns ≤ n then n else mxI ns
theorem mxI_ge : ∀ {ns : List Int} {n : Int}, n ∈ ns → n ≤ mxI ns
  | m :: ns, n, h => by
    unfold mxI
    rcases List.mem_cons.mp h with rfl | h
    · split <;> omega
    · have := mxI_ge h
      split <;> omega
theorem mxI_pos : ∀ (ns : List Int), 0 ≤ mxI ns
  | [] => Int.le_refl 0
  | n :: ns => by
    have := mxI_pos ns
    unfold mxI
    split <;> omega
theorem mxI_mem : ∀ {ns : List Int}, (∀ n ∈ ns, 0 ≤ n) → ns ≠ [] → mxI ns ∈ ns
  | [], _, h => absurd rfl h
  | n :: ns, hp, _ => by
    unfold mxI
    split
    · exact List.mem_cons_self
    · rename_i h
      by_cases e : ns = []
      · subst e
        have := hp n List.mem_cons_self
        unfold mxI at h
        omega
      · exact List.mem_cons_of_mem _ (mxI_mem (fun m hm => hp m (List.mem_cons_of_mem _ hm)) e)
theorem mxI_is {ns : List Int} {m : Int} (hp : ∀ n ∈ ns, 0 ≤ n) (h1 : m ∈ ns) (h2 : ∀ y ∈ ns, y ≤ m) : mxI ns = m := by
  have a := mxI_ge h1
  have b := h2 _ (mxI_mem hp (fun e => by rw [e] at h1; cases h1))
  omega
theorem sum_bound {B : Int} (hB : 0 ≤ B) : ∀ {ns : List Int}, (∀ n ∈ ns, 0 ≤ n ∧ n ≤ B) → 0 ≤ ns.sum ∧ ns.sum ≤ B * (ns.length : Int)
  | [], _ => by simp
  | n :: ns, h => by
    have ih := sum_bound hB (ns := ns) fun m hm => h m (List.mem_cons_of_mem _ hm)
    have h0 := h n List.mem_cons_self
    rw [List.sum_cons, List.length_cons]
    have e : B * ((ns.length + 1 : Nat) : Int) = B * (ns.length : Int) + B := by
      rw [Int.natCast_add, Int.mul_add]
      simp
    omega
end L3
namespace L3
open PySem L2
section
variable {X : Cx} {pos : Pos}
/-- the name of a built-in type, as a value -/
theorem de_bty {x : Str} {T : String} (hm : X.mg x = none) (hv : bootBuiltins x = some (.type T)) (hg : Gl X x := by rfl) (hn : x ≠ "__name__" := by decide) (hdb : (x == ("__debug__" : Str)) = false := by decide) : DE X (.Name x pos) (tC (.ty T)) (wC (.ty T)) := by
  refine ⟨⟨fun pins s σ H Q I h => ?_⟩, sim_c fun _ => .ty T⟩
  exact ld_blt I hg hm hv ⟨.ty T, H, I, rfl, h⟩ hn hdb
end
/-- what type data is of -/
def tyD (M : Mp) : D → Option String
  | .non => some "NoneType"
  | .bl _ => some "bool"
  | .int _ => some "int"
  | .str _ => some "str"
  | .tup _ => some "tuple"
  | .lst _ => some "list"
  | .tok a => match M a with
    | some (.lst _) => some "list"
    | some (.dic _ _) => some "dict"
    | _ => none
  | .ty _ => none
  | .exc _ _ _ _ _ => none
  | .tpl _ => none
  | .dct _ _ => some "dict"
def subT (t T : String) : Option Bool := match T with
  | "int" => some (t == "int" || t == "bool")
  | "bool" => some (t == "bool")
  | "str" => some (t == "str")
  | "tuple" => some (t == "tuple")
  | "list" => some (t == "list")
  | "dict" => some (t == "dict")
  | _ => none
def fIsi : FC := fun ds M Q => match ds with
  | [d, .ty T] => ∃ t b, tyD M d = some t ∧ subT t T = some b ∧ Q (.bl b) M
  | _ => False
theorem ty_of {K : PySem.W.Frag} {Z : Hp} {H : Hp} {M : Mp} {x : V} {d : D} {t : String} (S : Sat K Z H M) (r : Rep K (fz Z H M) x d) (h : tyD M d = some t) : TyX K H x (.type t) := by
  cases d with
  | non => cases r; cases h; exact .base .non
  | bl b => cases r; cases h; exact .base (.bl b)
  | int i => cases r; cases h; exact .base (.int i)
  | str y => cases r; cases h; exact .base (.str y)
  | ty _ => cases h
  | tok a =>
    cases r
    have h' : (match M a with | some (.lst _) => some "list" | some (.dic _ _) => some "dict" | _ => none) = some t := h
    cases q : M a with
    | none =>
      rw [q] at h'
      cases h'
    | some c =>
      rw [q] at h'
      cases c with
      | lst ds =>
        cases h'
        obtain ⟨vs, e, _⟩ := S.cell a _ q
        exact .base (.lst e)
      | aux => cases h'
      | drw _ => cases h'
      | ins _ _ => cases h'
      | dic ks ds =>
        cases h'
        obtain ⟨vs, e, _⟩ := S.cell a _ q
        exact .base (.dK e)
  | exc _ _ _ _ _ => cases h
  | tpl _ => cases h
  | dct _ _ =>
    cases h
    cases r with
    | dct hx _ _ => exact .base (.dK (fz_sub _ _ hx))
  | tup ds =>
    cases h
    cases r with
    | tup hs _ =>
      rcases sqt_mono fz_sub hs with (e | ⟨o, e⟩) | ⟨o, its, n, e, c, _⟩
      · exact .base (.tup e)
      · exact .fTuple e
      · exact .kTuple e c
  | lst ds =>
    cases h
    cases r with
    | lst hs _ =>
      rcases fz_sub.seq hs with (e | ⟨o, e⟩) | ⟨o, its, n, e, c, _⟩
      · exact .base (.lst e)
      · exact .base (.frz e)
      · exact .kList e c
theorem kit_of (K : PySem.W.Frag) {M : Mp} {d : D} {t T : String} {b : Bool} (h : tyD M d = some t) (hs : subT t T = some b) : PySem.W.kitOne K (.type t) (.type T) = some b := by
  have ht : t = "NoneType" ∨ t = "bool" ∨ t = "int" ∨ t = "str" ∨ t = "tuple" ∨ t = "list" ∨ t = "dict" := by
    cases d with
    | non => cases h; simp
    | bl _ => cases h; simp
    | int _ => cases h; simp
    | str _ => cases h; simp
    | tup _ => cases h; simp
    | lst _ => cases h; simp
    | ty _ => cases h
    | exc _ _ _ _ _ => cases h
    | tpl _ => cases h
    | dct _ _ => cases h; simp
    | tok a =>
      have h' : (match M a with | some (.lst _) => some "list" | some (.dic _ _) => some "dict" | _ => none) = some t := h
      cases q : M a with
      | none =>
        rw [q] at h'
        cases h'
      | some c =>
        rw [q] at h'
        cases c with
        | lst ds => cases h'; simp
        | aux => cases h'
        | drw _ => cases h'
        | ins _ _ => cases h'
        | dic _ _ => cases h'; simp
  unfold subT at hs
  split at hs
  · rcases ht with rfl | rfl | rfl | rfl | rfl | rfl | rfl <;> (cases hs; rfl)
  · rcases ht with rfl | rfl | rfl | rfl | rfl | rfl | rfl <;> (cases hs; rfl)
  · rcases ht with rfl | rfl | rfl | rfl | rfl | rfl | rfl <;> (cases hs; rfl)
  · rcases ht with rfl | rfl | rfl | rfl | rfl | rfl | rfl <;> (cases hs; rfl)
  · rcases ht with rfl | rfl | rfl | rfl | rfl | rfl | rfl <;> (cases hs; rfl)
  · rcases ht with rfl | rfl | rfl | rfl | rfl | rfl | rfl <;> (cases hs; rfl)
  · cases hs
/-- isinstance(x, T) -/
theorem sim_isi {K : PySem.W.Frag} : SimC K (rIsi K) fIsi := by
  intro Z xs ds H M Q Q' S r f q
  unfold fIsi at f
  split at f
  · cases r with
    | cons r1 r2 =>
      cases r2 with
      | cons r2 r3 =>
        cases r3
        cases r2
        obtain ⟨t, b, h1, h2, z⟩ := f
        exact ⟨_, _, _, _, b, rfl, .ty _, ty_of S r1 h1, kit_of K h1 h2, q _ _ H M (Go.refl S) (.bl _) z⟩
  · exact f.elim
end L3
namespace L3
open PySem L2
/-! ### min, max of any data that can be compared -/
theorem reads_all {X : Cx} {pins : List (Addr × Obj)} {σ : L2.St} {H : Hp} {s : Shared} (I : L2.Inv X pins σ H s) (n : Nat) : ∀ {ys : List V} {its : List Value} {ds : List D}, Vals ys its → RepL X.K H ys ds → (∀ d ∈ ds, fit n d) → ∃ as, ReadsAll s.heap its (ds.map D.py) as
  | _, _, _, .nil, .nil, _ => ⟨[], .nil⟩
  | _, _, _, .cons rv rvs, .cons rd rds, hf => by
    obtain ⟨as, h1⟩ := Dp.reads I _ _ _ (Rep.dp n _ _ (hf _ List.mem_cons_self) rd) rv
    obtain ⟨bs, h2⟩ := reads_all I n rvs rds fun d hd => hf d (List.mem_cons_of_mem _ hd)
    exact ⟨as ++ bs, .cons h1 h2⟩
theorem depth_all {n : Nat} : ∀ {ds : List D}, (∀ d ∈ ds, fit n d) → PyData.depthAll (ds.map D.py) ≤ n
  | [], _ => Nat.zero_le _
  | d :: ds, h => by
    have h1 := (fit_lay n d (h d List.mem_cons_self)).2
    have h2 := depth_all (ds := ds) fun x hx => h x (List.mem_cons_of_mem _ hx)
    show max (PyData.depth d.py) (PyData.depthAll (ds.map D.py)) ≤ n
    exact Nat.max_le.mpr ⟨h1, h2⟩
/-- the least (or the greatest: f) of a list or tuple of data -/
def rBest (f : PyData → List PyData → PyData) (K : PySem.W.Frag) : List V → Hp → VK → Prop := fun xs H Q => ∃ (p : Addr) (ys : List V) (e : D) (es : List D) (n : Nat), xs = [.ref p] ∧ (SqL K H p ys ∨ SqT K H p ys) ∧ RepL K H ys (e :: es) ∧ n ≤ 60 ∧ (∀ d ∈ e :: es, fit n d) ∧ PySem.W.AlikeAll ((e :: es).map D.py) ∧
  ∀ (i : Nat) (y : V) (d : D), ys[i]? = some y → (e :: es)[i]? = some d → d.py = f e.py (es.map D.py) → Q y H
theorem best_end {X : Cx} {pins : List (Addr × Obj)} {σ : L2.St} {H : Hp} {s : Shared} {Q : VK} {f : PyData → List PyData → PyData} {ys : List V} {its : List Value} {e : D} {es : List D} {n : Nat} (I : L2.Inv X pins σ H s) (rv : Vals ys its) (rl : RepL X.K H ys (e :: es)) (hf : ∀ d ∈ e :: es, fit n d)
    (q : ∀ (i : Nat) (y : V) (d : D), ys[i]? = some y → (e :: es)[i]? = some d → d.py = f e.py (es.map D.py) → Q y H) (i : Nat) (v : Value) (h' : Heap) (tk : Nat) (bs : List Addr) (hv : its.toArray[i]? = some v) (hr : Reads h' v (f e.py (es.map D.py)) bs)
    (keep : ∀ b o, s.heap.get? b = some o → h'.get? b = some o) : EP X pins σ Q v { heap := h', gens := s.gens, drawn := s.drawn, toks := tk, os := s.os } := by
  rw [List.getElem?_toArray] at hv
  have li := (List.getElem?_eq_some_iff.mp hv).1
  have l1 := rv.length
  have ly : i < ys.length := by omega
  obtain ⟨u, e2, ru⟩ := rv.get (List.getElem?_eq_getElem ly)
  rw [hv] at e2
  obtain rfl : v = u := Option.some.inj e2
  obtain ⟨d, ed, rd⟩ := rl.getV (List.getElem?_eq_getElem ly)
  obtain ⟨as, rr⟩ := Dp.reads I _ _ _ (Rep.dp n d _ (hf d (List.mem_of_getElem? ed)) rd) ru
  have det := PyProof.Rows.reads_det (fun b o h _ => keep b o h) rr hr
  exact ⟨ys[i], H, I.kept keep, ru, q i _ d (List.getElem?_eq_getElem ly) ed det.1.symm⟩
theorem cr_minA {X : Cx} {k : Nat} (hc : X.calm = true) (hr : Room k X.A) : CallR X (.builtin "min") (rBest PySem.W.minD X.K) := by
  intro pins s σ H xs us Q I r h
  obtain ⟨p, ys, e, es, n, rfl, hs, rl, hn, hf, al, q⟩ := h
  cases r with
  | cons ra r1 =>
  cases r1
  cases ra
  have hd : X.A.handled = none := I.ok.hd hc
  have hu := hr.units
  have dp := depth_all hf
  rcases hs with hs | hs
  · obtain ⟨its, rv, pl, hz⟩ := I.list hs
    obtain ⟨as, ra⟩ := reads_all I n rv rl hf
    exact PySem.W.min_list_data (x := e.py) (xs := es.map D.py) hd pl.isList ra al (by show X.A.units + 1 + PyData.depthAll ((e :: es).map D.py) < cLine; omega) fun i v h' tk bs hv hr keep => best_end I rv rl hf q i v h' tk bs hv hr keep
  · obtain ⟨its, rv, pl, hz⟩ := I.tuple hs
    obtain ⟨as, ra⟩ := reads_all I n rv rl hf
    exact PySem.W.min_tuple_data (x := e.py) (xs := es.map D.py) hd pl ra al (by show X.A.units + 1 + PyData.depthAll ((e :: es).map D.py) < cLine; omega) fun i v h' tk bs hv hr keep => best_end I rv rl hf q i v h' tk bs hv hr keep
theorem cr_maxA {X : Cx} {k : Nat} (hc : X.calm = true) (hr : Room k X.A) : CallR X (.builtin "max") (rBest PySem.W.maxD X.K) := by
  intro pins s σ H xs us Q I r h
  obtain ⟨p, ys, e, es, n, rfl, hs, rl, hn, hf, al, q⟩ := h
  cases r with
  | cons ra r1 =>
  cases r1
  cases ra
  have hd : X.A.handled = none := I.ok.hd hc
  have hu := hr.units
  have dp := depth_all hf
  rcases hs with hs | hs
  · obtain ⟨its, rv, pl, hz⟩ := I.list hs
    obtain ⟨as, ra⟩ := reads_all I n rv rl hf
    exact PySem.W.max_list_data (x := e.py) (xs := es.map D.py) hd pl.isList ra al (by show X.A.units + 1 + PyData.depthAll ((e :: es).map D.py) < cLine; omega) fun i v h' tk bs hv hr keep => best_end I rv rl hf q i v h' tk bs hv hr keep
  · obtain ⟨its, rv, pl, hz⟩ := I.tuple hs
    obtain ⟨as, ra⟩ := reads_all I n rv rl hf
    exact PySem.W.max_tuple_data (x := e.py) (xs := es.map D.py) hd pl ra al (by show X.A.units + 1 + PyData.depthAll ((e :: es).map D.py) < cLine; omega) fun i v h' tk bs hv hr keep => best_end I rv rl hf q i v h' tk bs hv hr keep
def fBest (f : PyData → List PyData → PyData) : FC := fun ds M Q => match ds with
  | [d] => ∃ (e : D) (es : List D) (n : Nat), seqD M d = some (e :: es) ∧ n ≤ 60 ∧ (∀ d ∈ e :: es, fit n d) ∧ PySem.W.AlikeAll ((e :: es).map D.py) ∧ ∀ d ∈ e :: es, d.py = f e.py (es.map D.py) → Q d M
  | _ => False
theorem sim_best {K : PySem.W.Frag} {f : PyData → List PyData → PyData} : SimC K (rBest f K) (fBest f) := by
  intro Z xs ds H M Q Q' S r g q
  unfold fBest at g
  split at g
  · cases r with
    | cons r1 r2 =>
      cases r2
      obtain ⟨e, es, n, hs, hn, hf, al, z⟩ := g
      obtain ⟨p, vs, rfl, hv, rl⟩ := seq_of S r1 hs
      refine ⟨p, vs, e, es, n, rfl, hv, rl.up fz_sub, hn, hf, al, fun i y d e1 e2 e3 => ?_⟩
      obtain ⟨d', ed, rd⟩ := rl.getV e1
      rw [e2] at ed
      obtain rfl : d = d' := Option.some.inj ed
      exact q _ _ H M (Go.refl S) rd (z d (List.mem_of_getElem? e2) e3)
  · exact g.elim
end L3
namespace L3
open PySem L2
/-! ### iterators that hand out new tuples: their turns from the library's walks -/
/-- n turns over what never changes (ok), the values of each turn in a new tuple -/
def ItG (n : Nat) (ok : Hp → Prop) (yv : Nat → List V) : It :=
  ⟨fun i H => ok H ∧ i < n, fun i H v H' => ∃ T, v = .ref T ∧ H T = none ∧ H' = upd H T (.tup (yv i)), fun i H => ok H ∧ n ≤ i⟩
theorem turn_G {P : Program} {w : World} {K : PySem.W.Frag} {elts : List Expr} {kk : Nat} {tpos : Pos} {n : Nat} {ok : Hp → Prop} {yv : Nat → List V} {fp wr : List Addr} {it : Addr} {tn : Nat → Heap → Prop}
    (mem : it ∈ fp) (obj : ∀ i h, tn i h → ∀ b ∈ fp, ∃ o, h.get? b = some o ∧ ∀ v, o.data ≠ .cell v) (keep : ∀ i h h', tn i h → (∀ b ∈ fp, ∀ o, h.get? b = some o → h'.get? b = some o) → tn i h')
    (self : ∀ (A : Around) (i : Nat) (s : Shared) (Q : Value → Shared → Prop) (E : Value → Shared → Prop), tn i s.heap → Q (.ref it) s → wpAny (model P w) A (pyIter (.ref it)) Q E s)
    (hle : ∀ i h, tn i h → i ≤ n) (hwr : ∀ b ∈ wr, b ∈ fp) (small : ∀ i, (yv i).length ≤ sizeLine)
    (wk : ∀ (X : Cx), X.prog = P → X.w = w → X.K = K → X.calm = true → ∀ (pins : List (Addr × Obj)) (s : Shared) (σ : L2.St) (H : Hp), Inv X pins σ H s → ok H → ∃ (fpA : List Addr) (Pt : Nat → Array Value → Prop) (St : Nat → Heap → Prop) (Mid : Nat → Addr → Heap → Prop),
      WalksT P w X.A it fpA wr n Pt St Mid ∧ (∀ i, tn i s.heap → St i s.heap) ∧ (∀ i h, St i h → tn i h) ∧ ∀ i vals, Pt i vals → Vals (yv i) vals.toList) :
    Turn P w K (.Tuple elts kk tpos) (ItG n ok yv) fp it tn where
  mem := mem
  obj := obj
  keep := keep
  self := self
  item := by
    intro X hP hw hK hc i pins s σ H E I hf st hg
    obtain ⟨hok, hlt⟩ := hg
    obtain ⟨fpA, Pt, St, Mid, W, w1, w2, w3⟩ := wk X hP hw hK hc pins s σ H I hok
    subst hP hw hK
    refine W.item i s _ _ hlt (w1 i st) fun T vals h' tk pt hT tT mid kp => ?_
    refine ⟨_, rfl, W.go elts kk tpos i T { s with heap := h', toks := tk } _ _ mid fun h'' st' kp2 => ?_⟩
    have hTw := W.apart i T h' mid
    have kk2 : ∀ b o, b ∉ fp → s.heap.get? b = some o → h''.get? b = some o := fun b o hb e => kp2 b o (fun z => hb (hwr b z)) (kp b o (fun z => hb (hwr b z)) e)
    have tT2 : h''.IsTuple T vals := tT.at fun o e => kp2 T o hTw e
    have new : ObjOk X.prog X.w (upd H T (.tup (yv i))) h'' T (.tup (yv i)) := ⟨small i, vals.toList, w3 i vals pt, by
      rw [Array.toArray_toList]
      exact tT2⟩
    have I1 : Inv X pins σ (upd H T (.tup (yv i))) { s with heap := h'', toks := tk } := I.turnedNew (t' := tk) (ch := fp) kk2 hf hT new
    refine ⟨.ref T, _, I1, rfl, ⟨T, rfl, I.hok.fresh hT, rfl⟩, w2 _ _ st', fun b hb => ?_⟩
    obtain ⟨o, ho, _⟩ := obj i _ st b hb
    rw [upd_ne (Nat.ne_of_lt (Nat.lt_of_lt_of_le (Heap.lt_size ho) hT))]
    exact (hf b hb).1
  done := by
    intro X hP hw hK hc i pins s σ H E I hf st hg
    obtain ⟨hok, hge⟩ := hg
    obtain ⟨fpA, Pt, St, Mid, W, w1, w2, w3⟩ := wk X hP hw hK hc pins s σ H I hok
    have e : i = n := Nat.le_antisymm (hle _ _ st) hge
    subst e
    subst hP hw hK
    exact W.done s _ _ (w1 _ st) fun h' tk kp => ⟨rfl, I.turnedL (t' := tk) (ch := fp) (fun b o hb e => kp b o (fun z => hb (hwr b z)) e) hf⟩
end L3
namespace L3
open PySem L2
theorem vals_at {xs : List V} {its : List Value} {i : Nat} {x : Value} (r : Vals xs its) (h : its.toArray[i]? = some x) : RelV (xs.getD i .non) x := by
  have h' : its[i]? = some x := by simpa using h
  have li := (List.getElem?_eq_some_iff.mp h').1
  have l1 := r.length
  obtain ⟨u, e2, ru⟩ := r.get (List.getElem?_eq_getElem (by omega : i < xs.length))
  rw [h'] at e2
  obtain rfl : x = u := Option.some.inj e2
  rw [List.getD_eq_getElem?_getD, List.getElem?_eq_getElem (by omega)]
  exact ru
/-! ### zip of three tuples -/
def ok3 (K : PySem.W.Frag) (a b c : Addr) (xs ys zs : List V) (H : Hp) : Prop := SqT K H a xs ∧ SqT K H b ys ∧ SqT K H c zs
def n3 (xs ys zs : List V) : Nat := min (min xs.length ys.length) zs.length
def yv3 (xs ys zs : List V) (i : Nat) : List V := [xs.getD i .non, ys.getD i .non, zs.getD i .non]
theorem turn_zip3 {P : Program} {w : World} {K : PySem.W.Frag} {elts : List Expr} {kk : Nat} {tpos : Pos} {N : Nat} {a b c : Addr} {xs ys zs : List V} (la : a < N) (lb : b < N) (lc : c < N) :
    Turn P w K (.Tuple elts kk tpos) (ItG (n3 xs ys zs) (ok3 K a b c xs ys zs) (yv3 xs ys zs)) [N + 5, N + 3, N + 4, N, N + 1, N + 2] (N + 5)
      (fun i h => i ≤ n3 xs ys zs ∧ IsZip h (N + 5) (N + 3) (N + 4) .none ∧ IsTupOf3 h (N + 3) (.ref N) (.ref (N + 1)) (.ref (N + 2)) ∧ (∃ x y z, IsTupOf3 h (N + 4) x y z) ∧ h.IsTupleIter N a i ∧ h.IsTupleIter (N + 1) b i ∧ h.IsTupleIter (N + 2) c i) := by
  refine turn_G (wr := [N + 5, N + 4, N, N + 1, N + 2]) (by simp) (fun i h st q hq => ?_) (fun i h h' st k => ?_) (fun A i s Q E st h => wpAny_pyIter_zip st.2.1 h) (fun i h st => st.1) (fun q hq => ?_) (fun i => by show 3 ≤ sizeLine; decide) (fun X hP hw hK hc pins s σ H I hok => ?_)
  · obtain ⟨_, hz, hTI, ⟨x, y, z, hTO⟩, ⟨o1, e1, _, d1⟩, ⟨o2, e2, _, d2⟩, ⟨o3, e3, _, d3⟩⟩ := st
    have e' : q = N + 5 ∨ q = N + 3 ∨ q = N + 4 ∨ q = N ∨ q = N + 1 ∨ q = N + 2 := by simpa using hq
    rcases e' with z | z | z | z | z | z
    · rw [z]; exact ⟨_, hz, fun v q => nomatch q⟩
    · rw [z]; exact ⟨_, hTI, fun v q => nomatch q⟩
    · rw [z]; exact ⟨_, hTO, fun v q => nomatch q⟩
    · rw [z]; exact ⟨o1, e1, fun v q => by rw [d1] at q; cases q⟩
    · rw [z]; exact ⟨o2, e2, fun v q => by rw [d2] at q; cases q⟩
    · rw [z]; exact ⟨o3, e3, fun v q => by rw [d3] at q; cases q⟩
  · obtain ⟨hl, hz, hTI, ⟨x, y, z, hTO⟩, h1, h2, h3⟩ := st
    exact ⟨hl, k _ (by simp) _ hz, k _ (by simp) _ hTI, ⟨x, y, z, k _ (by simp) _ hTO⟩, h1.at fun o q => k N (by simp) o q, h2.at fun o q => k (N + 1) (by simp) o q, h3.at fun o q => k (N + 2) (by simp) o q⟩
  · have e' : q = N + 5 ∨ q = N + 4 ∨ q = N ∨ q = N + 1 ∨ q = N + 2 := by simpa using hq
    rcases e' with z | z | z | z | z <;> (rw [z]; simp)
  · subst hP hw hK
    obtain ⟨o1, o2, o3⟩ := hok
    obtain ⟨t1, v1, p1, _⟩ := I.tuple o1
    obtain ⟨t2, v2, p2, _⟩ := I.tuple o2
    obtain ⟨t3, v3, p3, _⟩ := I.tuple o3
    have hd : X.A.handled = none := I.ok.hd hc
    have D1 := Draws.tuple (prog := X.prog) (w := X.w) (A := X.A.in1) hd N a (Nat.ne_of_lt la) t1.toArray
    have D2 := Draws.tuple (prog := X.prog) (w := X.w) (A := X.A.in1) hd (N + 1) b (Nat.ne_of_lt (Nat.lt_succ_of_lt la |> fun _ => Nat.lt_succ_of_lt lb)) t2.toArray
    have D3 := Draws.tuple (prog := X.prog) (w := X.w) (A := X.A.in1) hd (N + 2) c (Nat.ne_of_lt (Nat.lt_succ_of_lt (Nat.lt_succ_of_lt lc))) t3.toArray
    have S := zip_sep3 (N := N) (fp1 := [a]) (fp2 := [b]) (fp3 := [c]) (fun q hq => by rw [List.mem_singleton.mp hq]; exact la) (fun q hq => by rw [List.mem_singleton.mp hq]; exact lb) (fun q hq => by rw [List.mem_singleton.mp hq]; exact lc)
    have W := WalksT.zipD3 S D1 D2 D3
    have en : min (min t1.toArray.size t2.toArray.size) t3.toArray.size = n3 xs ys zs := by
      unfold n3
      rw [List.size_toArray, List.size_toArray, List.size_toArray, ← v1.length, ← v2.length, ← v3.length]
    rw [en] at W
    refine ⟨_, _, fun i h => i ≤ n3 xs ys zs ∧ (IsZip h (N + 5) (N + 3) (N + 4) .none ∧ IsTupOf3 h (N + 3) (.ref N) (.ref (N + 1)) (.ref (N + 2)) ∧ (∃ a1 a2 a3, IsTupOf3 h (N + 4) a1 a2 a3) ∧ (h.IsTupleIter N a i ∧ h.IsTuple a t1.toArray) ∧ (h.IsTupleIter (N + 1) b i ∧ h.IsTuple b t2.toArray) ∧ (h.IsTupleIter (N + 2) c i ∧ h.IsTuple c t3.toArray)),
      fun i T h => i + 1 ≤ n3 xs ys zs ∧ _, ⟨W.sub, fun i h h' st k => ⟨st.1, W.frame i h h' st.2 k⟩, fun i s Q E hi st q => W.item i s Q E hi st.2 fun T vals h' tk a1 a2 a3 a4 a5 => q T vals h' tk a1 a2 a3 ⟨hi, a4⟩ a5, fun elts k pos i T s Q E m q => W.go elts k pos i T s Q E m.2 fun h' a1 a2 => q h' ⟨m.1, a1⟩ a2, fun i T h m => W.apart i T h m.2, fun s Q E st q => W.done s Q E st.2 q, fun i s Q E st q => W.self i s Q E st.2 q⟩,
      fun i st => ⟨st.1, st.2.1, st.2.2.1, st.2.2.2.1, ⟨st.2.2.2.2.1, p1⟩, ⟨st.2.2.2.2.2.1, p2⟩, ⟨st.2.2.2.2.2.2, p3⟩⟩, fun i h ⟨hl, hz, hTI, hTO, h1, h2, h3⟩ => ⟨hl, hz, hTI, hTO, h1.1, h2.1, h3.1⟩, fun i vals hv => ?_⟩
    obtain ⟨x1, x2, x3, e1, e2, e3, rfl⟩ := hv
    exact .cons (vals_at v1 e1) (.cons (vals_at v2 e2) (.cons (vals_at v3 e3) .nil))
def iZip3 (K : PySem.W.Frag) (ta : TA) : TI := fun σ H R => ta σ H fun vs H1 => ∃ a b c xs ys zs, vs = [.ref a, .ref b, .ref c] ∧ SqT K H1 a xs ∧ SqT K H1 b ys ∧ SqT K H1 c zs ∧ R (ItG (n3 xs ys zs) (ok3 K a b c xs ys zs) (yv3 xs ys zs)) H1
theorem pi_zip3 {X : Cx} {e e2 e3 : Expr} {ta : TA} {p pos tpos : Pos} {elts : List Expr} {kk : Nat} (hg : Gl X "zip") (hm : X.mg "zip" = none) (ha : PA X [e, e2, e3] ta)
    (hs : starEach [e, e2, e3] X.env = (false, eval e X.env) :: starEach [e2, e3] X.env := by rfl) (hpl : (backTo pos (starEach [e2, e3] X.env)).any (·.1) = false := by rfl) :
    PI X (.Tuple elts kk tpos) (.Call (.Name "zip" p) [e, e2, e3] [] pos) (iZip3 X.K ta) := by
  refine ⟨fun pins s σ H R I h => ?_⟩
  refine PyProof.Rows.Call_ (ld_blt I hg hm PyProof.Rows.boot_zip (PyProof.Rows.callWith_type1 (thn (ha.run pos pins s σ H _ I h) fun us s1 ⟨vs, H1, I1, r1, q1⟩ => ?_) hs hpl))
  obtain ⟨a, b, c, xs, ys, zs, ex, o1, o2, o3, q⟩ := q1
  subst ex
  cases r1 with
  | cons ra rr =>
  cases rr with
  | cons rb rr =>
  cases rr with
  | cons rc rr =>
  cases rr
  cases ra
  cases rb
  cases rc
  obtain ⟨t1, v1, p1, _⟩ := I1.tuple o1
  obtain ⟨t2, v2, p2, _⟩ := I1.tuple o2
  obtain ⟨t3, v3, p3, _⟩ := I1.tuple o3
  obtain ⟨b1, hb1, _⟩ := id p1
  obtain ⟨b2, hb2, _⟩ := id p2
  obtain ⟨b3, hb3, _⟩ := id p3
  refine zip_begins3 (begins_tuple a t1.toArray) (begins_tuple b t2.toArray) (begins_tuple c t3.toArray) p1 p2 p3 fun h' hz hTI hTO h1 h2 h3 hsz hk => wpAny_pyIter_zip hz ?_
  have I2 : Inv X pins σ H1 { s1 with heap := h' } := I1.kept (t' := s1.toks) hk
  refine ⟨s1.heap.objs.size + 5, [s1.heap.objs.size + 5, s1.heap.objs.size + 3, s1.heap.objs.size + 4, s1.heap.objs.size, s1.heap.objs.size + 1, s1.heap.objs.size + 2], _, _, H1, rfl, I2, turn_zip3 (N := s1.heap.objs.size) (Heap.lt_size hb1) (Heap.lt_size hb2) (Heap.lt_size hb3), ⟨Nat.zero_le _, hz, hTI, ⟨_, _, _, hTO⟩, ⟨_, h1, rfl, rfl⟩, ⟨_, h2, rfl, rfl⟩, ⟨_, h3, rfl, rfl⟩⟩, fun q hq => ?_, q⟩
  have e' : q = s1.heap.objs.size + 5 ∨ q = s1.heap.objs.size + 3 ∨ q = s1.heap.objs.size + 4 ∨ q = s1.heap.objs.size ∨ q = s1.heap.objs.size + 1 ∨ q = s1.heap.objs.size + 2 := by simpa using hq
  have hle : s1.heap.objs.size ≤ q := by
    rcases e' with z | z | z | z | z | z <;> (rw [z]; first | exact Nat.le_add_right _ _ | exact Nat.le_refl _)
  exact I1.fpOk hle (I1.hok.fresh hle)
/-! by data -/
def zip3D (xs ys zs : List D) : List D := (List.range (min (min xs.length ys.length) zs.length)).map fun i => D.tup [xs.getD i .non, ys.getD i .non, zs.getD i .non]
def wiZip3 (w : WA) : WI := fun ρ M R => w ρ M fun ds M1 => match ds with
  | [.tup xs, .tup ys, .tup zs] => R (zip3D xs ys zs) AnyM M1
  | _ => False
theorem rep_getd {K : PySem.W.Frag} {H : Hp} {vs : List V} {ds : List D} (r : RepL K H vs ds) (i : Nat) (h : i < ds.length) : Rep K H (vs.getD i .non) (ds.getD i .non) := by
  obtain ⟨v, e1, e2⟩ := r.get (List.getElem?_eq_getElem h)
  rw [List.getD_eq_getElem?_getD, List.getD_eq_getElem?_getD, e1, List.getElem?_eq_getElem h]
  exact e2
theorem walks_z3 {K : PySem.W.Frag} {Z H : Hp} {M : Mp} {p q r : Addr} {vs ws us : List V} {ds es fs : List D} (h1 : SqT K (fz Z H M) p vs) (r1 : RepL K (fz Z H M) vs ds) (h2 : SqT K (fz Z H M) q ws) (r2 : RepL K (fz Z H M) ws es) (h3 : SqT K (fz Z H M) r us) (r3 : RepL K (fz Z H M) us fs) :
    Walks3 K Z H M (ItG (n3 vs ws us) (ok3 K p q r vs ws us) (yv3 vs ws us)) (zip3D ds es fs) AnyM := by
  intro Z2 H2 M2 S ex _
  have k : ok3 K p q r vs ws us H2 := ⟨sqt_mono (ex.trans fz_sub) h1, sqt_mono (ex.trans fz_sub) h2, sqt_mono (ex.trans fz_sub) h3⟩
  have en : (zip3D ds es fs).length = n3 vs ws us := by
    unfold zip3D n3
    rw [List.length_map, List.length_range, r1.len, r2.len, r3.len]
  refine ⟨fun i d e => ?_, fun i hi => ⟨k, by rw [← en]; exact hi⟩⟩
  have li := (List.getElem?_eq_some_iff.mp e).1
  have li2 := li
  unfold zip3D at li2
  rw [List.length_map, List.length_range] at li2
  have ed : d = D.tup [ds.getD i .non, es.getD i .non, fs.getD i .non] := by
    unfold zip3D at e
    rw [List.getElem?_map, List.getElem?_range li2] at e
    exact (Option.some.inj e).symm
  subst ed
  refine ⟨⟨k, by rw [← en]; exact li⟩, fun z H3 ⟨T, ez, hT, eH⟩ => ?_⟩
  subst ez
  subst eH
  obtain ⟨g, n⟩ := Go.laid (o := .tup (yv3 vs ws us i)) S hT
  exact ⟨g, .tup (.inl (.inl n)) (.cons (((rep_getd r1 i (by omega)).up ex).up g.ex) (.cons (((rep_getd r2 i (by omega)).up ex).up g.ex) (.cons (((rep_getd r3 i (by omega)).up ex).up g.ex) .nil)))⟩
theorem di_zip3 {X : Cx} {e e2 e3 : Expr} {tr : TA} {wr : WA} {p pos tpos : Pos} {elts : List Expr} {kk : Nat} (hm : X.mg "zip" = none) (ha : DA X [e, e2, e3] tr wr) (hg : Gl X "zip" := by rfl) (hs : starEach [e, e2, e3] X.env = (false, eval e X.env) :: starEach [e2, e3] X.env := by rfl) (hs2 : (backTo pos (starEach [e2, e3] X.env)).any (·.1) = false := by rfl) :
    DI X (.Tuple elts kk tpos) (.Call (.Name "zip" p) [e, e2, e3] [] pos) (iZip3 X.K tr) (wiZip3 wr) := by
  refine ⟨pi_zip3 hg hm ha.pe hs hs2, fun Z ρ M σ H R R' s hw q => ?_⟩
  refine ha.sm Z ρ M σ H _ _ s hw fun xs ds H1 M1 g1 r1 q1 => ?_
  split at q1
  · cases r1 with
    | cons r1 r2 =>
    cases r2 with
    | cons r2 r3 =>
    cases r3 with
    | cons r3 r4 =>
    cases r4
    cases r1 with
    | tup h1 l1 =>
    cases r2 with
    | tup h2 l2 =>
    cases r3 with
    | tup h3 l3 => exact ⟨_, _, _, _, _, _, rfl, sqt_mono fz_sub h1, sqt_mono fz_sub h2, sqt_mono fz_sub h3, q _ _ _ H1 M1 g1 (walks_z3 h1 l1 h2 l2 h3 l3) q1⟩
  · exact q1.elim
end L3
namespace L3
open PySem L2
/-! ### max of three ints -/
def mx3 (i j k : Int) : Int := if k > (if j > i then j else i) then k else if j > i then j else i
def f3I (g : Int → Int → Int → Int) : FC := fun ds M Q => match ds with
  | [.int i, .int j, .int k] => Q (.int (g i j k)) M
  | _ => False
theorem nu_lt (i j : Int) : nuLt (.int i) (.int j) = some (decide (i < j)) := rfl
theorem nu_max3 (i j k : Int) : nuMax3 (.int i) (.int j) (.int k) = some (.int (mx3 i j k)) := by
  have e1 : nuMax2 (.int i) (.int j) = some (.int (if j > i then j else i)) := by
    unfold nuMax2
    rw [nu_lt]
    show some (if decide (i < j) = true then V.int j else V.int i) = _
    by_cases h : i < j
    · rw [decide_eq_true h, if_pos rfl, if_pos h]
    · rw [decide_eq_false h, if_neg (by decide), if_neg h]
  unfold nuMax3
  rw [e1]
  show nuMax2 (.int (if j > i then j else i)) (.int k) = _
  unfold nuMax2
  rw [nu_lt]
  unfold mx3
  show some (if decide ((if j > i then j else i) < k) = true then V.int k else V.int (if j > i then j else i)) = _
  by_cases h : (if j > i then j else i) < k
  · rw [decide_eq_true h, if_pos rfl, if_pos h]
  · rw [decide_eq_false h, if_neg (by decide), if_neg h]
theorem sim_max3 {K : PySem.W.Frag} : SimC K (rNuC3 nuMax3) (f3I mx3) := by
  intro Z xs ds H M Q Q' S r f q
  unfold f3I at f
  split at f
  · cases r with
    | cons r1 r2 =>
    cases r2 with
    | cons r2 r3 =>
    cases r3 with
    | cons r3 r4 =>
    cases r4
    cases r1
    cases r2
    cases r3
    exact ⟨_, _, _, _, rfl, nu_max3 _ _ _, q _ _ H M (Go.refl S) (.int _) f⟩
  · exact f.elim
end L3
namespace L3
open PySem L2
/-! ### vectors, distances, what lies beyond: the mathematics -/
def vec (v : List Int) : D := .tup (v.map .int)
def partI (k : Str) (d : Int) : Int := if k = "square" then d * d else if k = "unlike" then (if d = 0 then 0 else 1) else if d < 0 then -d else d
def joinI (k : Str) (ns : List Int) : Int := if k = "most" then mxI ns else ns.sum
def subI (v u : List Int) : List Int := List.zipWith (fun a b => a - b) v u
def distI (k : Str) (v u : List Int) : Int := joinI k ((subI v u).map (partI k))
/-- small numbers -/
def sm (v : List Int) : Prop := v.length ≤ 64 ∧ ∀ a ∈ v, -30000000 ≤ a ∧ a ≤ 30000000
def nums (ps : List Nat) : List D := ps.map fun (p : Nat) => D.int (p : Int)
def small (ns : List Int) : Prop := ns.length ≤ 64 ∧ ∀ n ∈ ns, 0 ≤ n ∧ n ≤ 10000000000000000
def rt (n : Int) : Int := (Float64.isqrt n.toNat : Nat)
def sq (k : Str) : Bool := decide (k = "square")
def nb (a : Int) : Prop := 0 ≤ a ∧ a < 2 ^ 50
def gapI (s : Bool) (a b : Int) : Int := if s then a + b - rt (4 * a * b) else if a - b < 0 then -(a - b) else a - b
def leastI (s : Bool) (a b : Int) : Int := if a ≤ b then 0 else gapI s a b
def mostI (s : Bool) (a b : Int) : Int := if s then a + b + rt (4 * a * b) else a + b
def reachB (s : Bool) (a b r : Int) : Bool := if s = false ∨ a - b - r ≤ 0 then decide (a - b - r ≤ 0) else decide ((a - b - r) * (a - b - r) ≤ 4 * b * r)
theorem mem_zw {v u : List Int} : ∀ {c : Int}, c ∈ subI v u → ∃ a ∈ v, ∃ b ∈ u, c = a - b := by
  unfold subI
  induction v generalizing u with
  | nil => intro c h; simp at h
  | cons a v ih =>
    intro c h
    cases u with
    | nil => simp at h
    | cons b u =>
      rw [List.zipWith_cons_cons] at h
      rcases List.mem_cons.mp h with rfl | h
      · exact ⟨a, List.mem_cons_self, b, List.mem_cons_self, rfl⟩
      · obtain ⟨a', ha, b', hb, e⟩ := ih h
        exact ⟨a', List.mem_cons_of_mem _ ha, b', List.mem_cons_of_mem _ hb, e⟩
theorem part_bound (k : Str) {d : Int} (h1 : -60000000 ≤ d) (h2 : d ≤ 60000000) : 0 ≤ partI k d ∧ partI k d ≤ 3600000000000000 := by
  unfold partI
  split
  · constructor
    · rcases Int.le_total 0 d with z | z
      · exact Int.mul_nonneg z z
      · exact Int.mul_nonneg_of_nonpos_of_nonpos z z
    · rcases Int.le_total 0 d with z | z
      · have := Int.mul_le_mul h2 h2 z (by decide)
        omega
      · have := Int.mul_le_mul (a := -d) (b := -d) (c := 60000000) (d := 60000000) (by omega) (by omega) (by omega) (by decide)
        have e : -d * -d = d * d := by grind
        omega
  · split
    · split <;> omega
    · split <;> omega
theorem part_neg (k : Str) (d : Int) : partI k (-d) = partI k d := by
  unfold partI
  split
  · grind
  · split
    · split <;> split <;> omega
    · split <;> split <;> omega
theorem sub_len {v u : List Int} (hv : v.length ≤ 64) : (subI v u).length ≤ 64 := by
  unfold subI
  rw [List.length_zipWith]
  omega
theorem small_parts {k : Str} {v u : List Int} (hv : sm v) (hu : sm u) : small ((subI v u).map (partI k)) := by
  refine ⟨by rw [List.length_map]; exact sub_len hv.1, fun n hn => ?_⟩
  obtain ⟨c, hc, rfl⟩ := List.mem_map.mp hn
  obtain ⟨a, ha, b, hb, rfl⟩ := mem_zw hc
  have h1 := hv.2 a ha
  have h2 := hu.2 b hb
  have := part_bound k (d := a - b) (by omega) (by omega)
  omega
theorem rt_le {n : Int} (h : 0 ≤ n) : 0 ≤ rt n ∧ rt n * rt n ≤ n ∧ n < (rt n + 1) * (rt n + 1) := by
  have s := Float64.isqrt_spec n.toNat
  have e : (n.toNat : Int) = n := Int.toNat_of_nonneg h
  refine ⟨Int.natCast_nonneg _, ?_, ?_⟩
  · have z : ((Float64.isqrt n.toNat * Float64.isqrt n.toNat : Nat) : Int) ≤ (n.toNat : Int) := by exact_mod_cast s.1
    rw [e, Int.natCast_mul] at z
    exact z
  · have z : (n.toNat : Int) < (((Float64.isqrt n.toNat + 1) * (Float64.isqrt n.toNat + 1) : Nat) : Int) := by exact_mod_cast s.2
    rw [e, Int.natCast_mul, Int.natCast_add] at z
    exact z
theorem sq_lt {a b : Int} (ha : 0 ≤ a) (hb : 0 ≤ b) (h : a * a < b * b) : a < b := by
  rcases Int.lt_or_le a b with z | z
  · exact z
  · have := Int.mul_le_mul z z hb ha
    omega
theorem sq_le {a b : Int} (hb : 0 ≤ b) (h : a ≤ b) (ha : 0 ≤ a) : a * a ≤ b * b := Int.mul_le_mul h h ha hb
/-- the root is the one whose square is at most the number, and the next one's is not -/
theorem rt_is {n r : Int} (h : 0 ≤ r) (h1 : r * r ≤ n) (h2 : n < (r + 1) * (r + 1)) : rt n = r := by
  have h0 : 0 ≤ n := Int.le_trans (Int.mul_nonneg h h) h1
  obtain ⟨t0, t1, t2⟩ := rt_le h0
  have a1 : rt n < r + 1 := sq_lt t0 (by omega) (by omega)
  have a2 : r < rt n + 1 := sq_lt h (by omega) (by omega)
  omega
theorem rt_mono {m n : Int} (h0 : 0 ≤ m) (h : m ≤ n) : rt m ≤ rt n := by
  obtain ⟨t0, t1, t2⟩ := rt_le h0
  obtain ⟨u0, u1, u2⟩ := rt_le (Int.le_trans h0 h)
  have a1 : rt m < rt n + 1 := sq_lt t0 (by omega) (by omega)
  omega
theorem le_rt {u n : Int} (h0 : 0 ≤ n) (hu : 0 ≤ u) : u ≤ rt n ↔ u * u ≤ n := by
  obtain ⟨t0, t1, t2⟩ := rt_le h0
  constructor
  · intro h
    have := sq_le t0 h hu
    omega
  · intro h
    have a1 : u < rt n + 1 := sq_lt hu (by omega) (by omega)
    omega
theorem p4 {a b : Int} (ha : 0 ≤ a) (hb : 0 ≤ b) : 0 ≤ 4 * a * b := Int.mul_nonneg (by omega) hb
theorem gap_comm {s : Bool} {a b : Int} : gapI s a b = gapI s b a := by
  unfold gapI
  have e : 4 * a * b = 4 * b * a := by grind
  rw [e]
  cases s
  · simp only [Bool.false_eq_true, if_false]
    split <;> split <;> omega
  · simp only [if_true]
    omega
theorem gap_pos {s : Bool} {a b : Int} (ha : 0 ≤ a) (hb : 0 ≤ b) : 0 ≤ gapI s a b := by
  unfold gapI
  cases s
  · simp only [Bool.false_eq_true, if_false]
    split <;> omega
  · simp only [if_true]
    obtain ⟨t0, t1, t2⟩ := rt_le (p4 ha hb)
    have : 0 ≤ (a - b) * (a - b) := by
      rcases Int.le_total 0 (a - b) with z | z
      · exact Int.mul_nonneg z z
      · exact Int.mul_nonneg_of_nonpos_of_nonpos z z
    have e : (a - b) * (a - b) = (a + b) * (a + b) - 4 * a * b := by grind
    have : rt (4 * a * b) < a + b + 1 := sq_lt t0 (by omega) (by
      have e2 : (a + b + 1) * (a + b + 1) = (a + b) * (a + b) + 2 * (a + b) + 1 := by grind
      omega)
    omega
theorem most_pos {s : Bool} {a b : Int} (ha : 0 ≤ a) (hb : 0 ≤ b) : 0 ≤ mostI s a b := by
  unfold mostI
  cases s
  · simp only [Bool.false_eq_true, if_false]
    omega
  · simp only [if_true]
    have := (rt_le (p4 ha hb)).1
    omega
theorem least_pos {s : Bool} {a b : Int} (ha : 0 ≤ a) (hb : 0 ≤ b) : 0 ≤ leastI s a b := by
  unfold leastI
  split
  · omega
  · exact gap_pos ha hb
/-- what reaches: just what is at least the least beyond -/
theorem reach_iff {s : Bool} {a b r : Int} (ha : 0 ≤ a) (hb : 0 ≤ b) (hr : 0 ≤ r) : reachB s a b r = true ↔ leastI s a b ≤ r := by
  unfold reachB leastI gapI
  cases s
  · simp only [true_or, if_true, decide_eq_true_eq, Bool.false_eq_true, if_false]
    split
    · omega
    · split <;> omega
  · simp only [Bool.true_eq_false, false_or, if_true]
    obtain ⟨t0, t1, t2⟩ := rt_le (p4 ha hb)
    by_cases hab : a ≤ b
    · rw [if_pos hab, if_pos (by omega)]
      simp only [decide_eq_true_eq]
      omega
    · rw [if_neg hab]
      by_cases h : a - b - r ≤ 0
      · rw [if_pos h]
        simp only [decide_eq_true_eq]
        have : 2 * b ≤ rt (4 * a * b) := (le_rt (p4 ha hb) (by omega)).mpr (by
          have e : (2 * b) * (2 * b) = 4 * b * b := by grind
          have : 4 * b * b ≤ 4 * a * b := Int.mul_le_mul_of_nonneg_right (by omega) hb
          omega)
        omega
      · rw [if_neg h]
        simp only [decide_eq_true_eq]
        have e : (a - b - r) * (a - b - r) - 4 * b * r = (a + b - r) * (a + b - r) - 4 * a * b := by grind
        have k := le_rt (u := a + b - r) (p4 ha hb) (by omega)
        constructor
        · intro z
          have := k.mpr (by omega)
          omega
        · intro z
          have := k.mp (by omega)
          omega
theorem reach_comm {s : Bool} {a b r : Int} : reachB s a b r = reachB s a r b := by
  unfold reachB
  have e1 : a - b - r = a - r - b := by omega
  have e2 : 4 * b * r = 4 * r * b := by grind
  rw [e1, e2]
theorem reach_is {s : Bool} {a b r : Int} (ha : 0 ≤ a) (hb : 0 ≤ b) (hr : 0 ≤ r) : reachB s a b r = decide (leastI s a b ≤ r) := by
  have z := reach_iff (s := s) ha hb hr
  cases h : reachB s a b r
  · rw [h] at z
    exact (decide_eq_false (fun q => nomatch z.mpr q)).symm
  · exact (decide_eq_true (z.mp h)).symm
/-- a greater one's least beyond is the gap -/
theorem least_gap {s : Bool} {a b : Int} (h : b ≤ a) (hb : 0 ≤ b) : leastI s a b = gapI s a b := by
  unfold leastI
  split
  · have e : a = b := by omega
    subst e
    unfold gapI
    cases s
    · simp
    · simp only [if_true]
      have : rt (4 * a * a) = 2 * a := rt_is (by omega) (by grind) (by grind)
      omega
  · rfl
/-- the most: as far as it reaches -/
theorem most_reach {s : Bool} {a b : Int} (ha : 0 ≤ a) (hb : 0 ≤ b) : reachB s (mostI s a b) a b = true ∧ reachB s (mostI s a b + 1) a b = false := by
  unfold reachB mostI
  cases s
  · simp only [true_or, if_true, decide_eq_true_eq, Bool.false_eq_true, if_false, decide_eq_false_iff_not]
    constructor <;> omega
  · simp only [Bool.true_eq_false, false_or, if_true]
    obtain ⟨t0, t1, t2⟩ := rt_le (p4 ha hb)
    have e1 : a + b + rt (4 * a * b) - a - b = rt (4 * a * b) := by omega
    have e2 : a + b + rt (4 * a * b) + 1 - a - b = rt (4 * a * b) + 1 := by omega
    rw [e1, e2]
    constructor
    · split
      · exact decide_eq_true (by omega)
      · exact decide_eq_true t1
    · rw [if_neg (by omega)]
      exact decide_eq_false (by omega)
theorem least_most {s : Bool} {a b : Int} (ha : 0 ≤ a) (hb : 0 ≤ b) : leastI s a b ≤ mostI s a b := by
  unfold leastI mostI gapI
  have := (rt_le (p4 ha hb)).1
  cases s
  · simp only [Bool.false_eq_true, if_false]
    split
    · omega
    · split <;> omega
  · simp only [if_true]
    split <;> omega
theorem reach_more {s : Bool} {a b r m : Int} (hb : 0 ≤ b) (hr : 0 ≤ r) (hm : 0 ≤ m) (h : reachB s a b r = true) : reachB s a (b + m) r = true := by
  unfold reachB at h ⊢
  cases s
  · simp only [true_or, if_true, decide_eq_true_eq] at h ⊢
    omega
  · simp only [Bool.true_eq_false, false_or] at h ⊢
    by_cases z : a - (b + m) - r ≤ 0
    · rw [if_pos z]
      exact decide_eq_true z
    · rw [if_neg z]
      rw [if_neg (by omega)] at h
      have h := of_decide_eq_true h
      have k := sq_le (a := a - (b + m) - r) (b := a - b - r) (by omega) (by omega) (by omega)
      have k2 : 4 * b * r ≤ 4 * (b + m) * r := Int.mul_le_mul_of_nonneg_right (by omega) hr
      exact decide_eq_true (by omega)
theorem reach_near {s : Bool} {a b r m : Int} (hm : 0 ≤ m) (h : reachB s (a + m) b r = true) : reachB s a b r = true := by
  unfold reachB at h ⊢
  cases s
  · simp only [true_or, if_true, decide_eq_true_eq] at h ⊢
    omega
  · simp only [Bool.true_eq_false, false_or] at h ⊢
    by_cases z : a - b - r ≤ 0
    · rw [if_pos z]
      exact decide_eq_true z
    · rw [if_neg z]
      rw [if_neg (by omega)] at h
      have h := of_decide_eq_true h
      have k := sq_le (a := a - b - r) (b := a + m - b - r) (by omega) (by omega) (by omega)
      exact decide_eq_true (by omega)
theorem least_more {s : Bool} {a b m : Int} (ha : 0 ≤ a) (hb : 0 ≤ b) (hm : 0 ≤ m) : leastI s a (b + m) ≤ leastI s a b :=
  (reach_iff ha (by omega) (least_pos ha hb)).mp (reach_more hb (least_pos ha hb) hm ((reach_iff ha hb (least_pos ha hb)).mpr (Int.le_refl _)))
theorem least_near {s : Bool} {a b m : Int} (ha : 0 ≤ a) (hb : 0 ≤ b) (hm : 0 ≤ m) : leastI s a b ≤ leastI s (a + m) b :=
  (reach_iff ha hb (least_pos (by omega) hb)).mp (reach_near hm ((reach_iff (by omega) hb (least_pos (by omega) hb)).mpr (Int.le_refl _)))
theorem most_more {s : Bool} {a b m : Int} (ha : 0 ≤ a) (hb : 0 ≤ b) (hm : 0 ≤ m) : mostI s a b ≤ mostI s a (b + m) ∧ mostI s a b ≤ mostI s (a + m) b := by
  unfold mostI
  cases s
  · simp only [Bool.false_eq_true, if_false]
    omega
  · simp only [if_true]
    have h1 : rt (4 * a * b) ≤ rt (4 * a * (b + m)) := rt_mono (p4 ha hb) (Int.mul_le_mul_of_nonneg_left (by omega) (by omega))
    have h2 : rt (4 * a * b) ≤ rt (4 * (a + m) * b) := rt_mono (p4 ha hb) (Int.mul_le_mul_of_nonneg_right (by omega) hb)
    omega
theorem sum_nn : ∀ {l : List Int}, (∀ n ∈ l, 0 ≤ n) → 0 ≤ l.sum
  | [], _ => Int.le_refl 0
  | x :: l, h => by
    have h1 := sum_nn (l := l) fun n hn => h n (List.mem_cons_of_mem _ hn)
    have h2 := h x List.mem_cons_self
    rw [List.sum_cons]
    omega
theorem join_nn (k : Str) {a : List Int} (h : ∀ n ∈ a, 0 ≤ n) : 0 ≤ joinI k a := by
  unfold joinI
  split
  · exact mxI_pos a
  · exact sum_nn h
theorem mxI_app (a b : List Int) : mxI (a ++ b) = if mxI b ≤ mxI a then mxI a else mxI b := by
  induction a with
  | nil =>
    have := mxI_pos b
    show mxI b = if mxI b ≤ 0 then 0 else mxI b
    split <;> omega
  | cons x a ih =>
    show (if mxI (a ++ b) ≤ x then x else mxI (a ++ b)) = if mxI b ≤ (if mxI a ≤ x then x else mxI a) then (if mxI a ≤ x then x else mxI a) else mxI b
    rw [ih]
    split <;> split <;> (try split) <;> (try split) <;> omega
theorem join_zero (k : Str) {a : List Int} (h : ∀ n ∈ a, 0 ≤ n) : joinI k a = 0 ↔ ∀ n ∈ a, n = 0 := by
  induction a with
  | nil => exact ⟨fun _ n hn => (by cases hn), fun _ => (by unfold joinI; split <;> rfl)⟩
  | cons x a ih =>
    have ha : ∀ n ∈ a, 0 ≤ n := fun n hn => h n (List.mem_cons_of_mem _ hn)
    have ih := ih ha
    have hx := h x List.mem_cons_self
    have p0 := join_nn k ha
    have e : joinI k (x :: a) = 0 ↔ x = 0 ∧ joinI k a = 0 := by
      unfold joinI at p0 ⊢
      by_cases hk : k = "most"
      · simp only [if_pos hk] at p0 ⊢
        show (if mxI a ≤ x then x else mxI a) = 0 ↔ _
        split <;> omega
      · simp only [if_neg hk] at p0 ⊢
        rw [List.sum_cons]
        omega
    rw [e, ih]
    constructor
    · rintro ⟨h1, h2⟩ n hn
      rcases List.mem_cons.mp hn with rfl | hn
      · exact h1
      · exact h2 n hn
    · exact fun q => ⟨q x List.mem_cons_self, fun n hn => q n (List.mem_cons_of_mem _ hn)⟩
theorem eqD_vec (v u : List Int) : eqD (vec v) (vec u) = decide (v = u) := by
  induction v generalizing u with
  | nil => cases u <;> rfl
  | cons a v ih =>
    cases u with
    | nil => rfl
    | cons b u =>
      have e : eqD (vec (a :: v)) (vec (b :: u)) = (decide (a = b) && eqD (vec v) (vec u)) := rfl
      rw [e, ih]
      by_cases h : a = b <;> by_cases h2 : v = u <;> simp [h, h2]
theorem eqD_ints (v u : List Int) : eqD (.lst (v.map .int)) (.lst (u.map .int)) = decide (v = u) := by
  have z := eqD_vec v u
  exact z
theorem eqV_vec {M : Mp} {neg : Bool} {x y : List Int} {Q : KD} : eqV neg (vec x) (vec y) M Q ↔ Q (.bl (if neg then !decide (x = y) else decide (x = y))) M := by
  have e : res M (vec x) = vec x := rfl
  have e2 : res M (vec y) = vec y := rfl
  have f1 : ∀ x : List Int, fit 3 (vec x) := fun x => by simp [fit, vec]
  refine Iff.trans (b := eqD2 neg (vec x) (vec y) M Q) Iff.rfl ?_
  unfold eqD2
  rw [e, e2, eqD_vec]
  exact ⟨fun h => h.2, fun h => ⟨⟨3, by decide, f1 x, f1 y⟩, h⟩⟩
theorem eqV_ints {M : Mp} {neg : Bool} {x y : List Int} {Q : KD} : eqV neg (.lst (x.map .int)) (.lst (y.map .int)) M Q ↔ Q (.bl (if neg then !decide (x = y) else decide (x = y))) M := by
  have f1 : ∀ x : List Int, fit 3 (.lst (x.map .int)) := fun x => by simp [fit]
  refine Iff.trans (b := eqD2 neg (.lst (x.map .int)) (.lst (y.map .int)) M Q) Iff.rfl ?_
  unfold eqD2
  show (∃ n, n ≤ 60 ∧ fit n (.lst (x.map .int)) ∧ fit n (.lst (y.map .int))) ∧ Q (.bl (if neg then !eqD (.lst (x.map .int)) (.lst (y.map .int)) else eqD (.lst (x.map .int)) (.lst (y.map .int)))) M ↔ _
  rw [eqD_ints]
  exact ⟨fun h => h.2, fun h => ⟨⟨3, by decide, f1 x, f1 y⟩, h⟩⟩
theorem len_vec {M : Mp} {v : List Int} {Q : KD} : fLen [vec v] M Q ↔ Q (.int (v.length : Int)) M := by
  constructor
  · rintro ⟨es, h, q⟩
    cases h
    rw [List.length_map] at q
    exact q
  · exact fun q => ⟨v.map .int, rfl, by rw [List.length_map]; exact q⟩
theorem lc_nums {we : WE} {ρ : En} {M : Mp} {Q : KD} {j : Nat} (h : Nat → Int) (ps : List Nat) (hn : ps.length ≤ 1000) (hs : ∀ i ∈ ps, ∀ K : KD, K (.int (h i)) M → we (ρ.set j (some (.int (i : Int)))) M K)
    (q : Q (.lst ((ps.map h).map .int)) M) : wLcL (wgName j) wYes we AnyM ρ (nums ps) [] M Q := by
  refine lc_pure (fun d => match d with | .int i => .int (h i.toNat) | _ => .non) True.intro _ [] ?_ (fun d hd K hK => ?_) ?_
  · unfold nums
    rw [List.length_map]
    simp only [List.length_nil]
    omega
  · obtain ⟨p, hp, rfl⟩ := List.mem_map.mp hd
    exact hs p hp K hK
  · have e : (nums ps).map (fun d => match d with | .int i => D.int (h i.toNat) | _ => .non) = (ps.map h).map D.int := by
      unfold nums
      rw [List.map_map, List.map_map]
      rfl
    rw [List.nil_append, e]
    exact q
theorem ix_at {M : Mp} {L : List D} {i : Nat} {x : D} {Q : KD} (h : L[i]? = some x) (q : Q x M) : ixD (.lst L) (.int (i : Int)) M Q := by
  have li := (List.getElem?_eq_some_iff.mp h).1
  refine ⟨L, x, rfl, ?_, q⟩
  unfold atI ixN
  simp [li]
  rw [List.getElem?_eq_getElem li] at h
  exact Option.some.inj h
end L3
namespace L3
open PySem L2
def atI' (v : List Int) (ps : List Nat) : List Int := ps.map fun p => v.getD p 0
def gI (k : Str) (v u : List Int) (i : Nat) : Int := partI k (v.getD i 0 - u.getD i 0)
theorem sub_at (v u : List Int) (ps : List Nat) : subI (atI' v ps) (atI' u ps) = ps.map fun i => v.getD i 0 - u.getD i 0 := by
  unfold subI atI'
  induction ps with
  | nil => rfl
  | cons p ps ih => rw [List.map_cons, List.map_cons, List.zipWith_cons_cons, ih, List.map_cons]
theorem at_range (v : List Int) : atI' v (List.range v.length) = v := by
  unfold atI'
  refine List.ext_getElem? fun n => ?_
  rw [List.getElem?_map]
  by_cases h : n < v.length
  · rw [List.getElem?_range h, List.getElem?_eq_getElem h]
    show some (v.getD n 0) = _
    rw [List.getD_eq_getElem?_getD, List.getElem?_eq_getElem h]
    rfl
  · rw [List.getElem?_eq_none (by rw [List.length_range]; omega), List.getElem?_eq_none (by omega)]
    rfl
theorem dist_at (k : Str) (v u : List Int) (ps : List Nat) : distI k (atI' v ps) (atI' u ps) = joinI k (ps.map (gI k v u)) := by
  unfold distI
  rw [sub_at, List.map_map]
  rfl
theorem dist_all (k : Str) {v u : List Int} (h : v.length = u.length) : distI k v u = joinI k ((List.range v.length).map (gI k v u)) := by
  have e := dist_at k v u (List.range v.length)
  rw [at_range] at e
  rw [h, at_range] at e
  rw [h]
  exact e
theorem sub_swap (v u : List Int) : subI u v = (subI v u).map fun d => -d := by
  unfold subI
  induction v generalizing u with
  | nil => cases u <;> rfl
  | cons a v ih =>
    cases u with
    | nil => rfl
    | cons b u =>
      rw [List.zipWith_cons_cons, List.zipWith_cons_cons, List.map_cons, ih]
      have e : b - a = -(a - b) := by omega
      rw [e]
theorem dist_comm (k : Str) (v u : List Int) : distI k u v = distI k v u := by
  unfold distI
  rw [sub_swap, List.map_map]
  have e : (partI k ∘ fun d => -d) = partI k := funext fun d => part_neg k d
  rw [e]
theorem part_nn (k : Str) (d : Int) : 0 ≤ partI k d := by
  unfold partI
  split
  · rcases Int.le_total 0 d with z | z
    · exact Int.mul_nonneg z z
    · exact Int.mul_nonneg_of_nonpos_of_nonpos z z
  · split
    · split <;> omega
    · split <;> omega
theorem dist_nn (k : Str) (v u : List Int) : 0 ≤ distI k v u := by
  unfold distI
  refine join_nn k fun n hn => ?_
  obtain ⟨d, _, rfl⟩ := List.mem_map.mp hn
  exact part_nn k d
theorem part_tri {k : Str} (hk : k ≠ "square") (a c b : Int) : partI k (a - b) ≤ partI k (a - c) + partI k (c - b) := by
  unfold partI
  rw [if_neg hk, if_neg hk, if_neg hk]
  split
  · split <;> split <;> split <;> omega
  · split <;> split <;> split <;> omega
theorem dist_cons (k : Str) (a b : Int) (v u : List Int) : distI k (a :: v) (b :: u) = if k = "most" then (if distI k v u ≤ partI k (a - b) then partI k (a - b) else distI k v u) else partI k (a - b) + distI k v u := by
  unfold distI subI joinI
  rw [List.zipWith_cons_cons, List.map_cons]
  by_cases h : k = "most"
  · simp only [if_pos h]
    rfl
  · simp only [if_neg h]
    rw [List.sum_cons]
theorem dist_nil (k : Str) : distI k [] [] = 0 := by
  unfold distI subI joinI
  split <;> rfl
/-- no detour is shorter (all kinds but one) -/
theorem tri_ns {k : Str} (hk : k ≠ "square") : ∀ {v c u : List Int}, v.length = c.length → c.length = u.length → distI k v u ≤ distI k v c + distI k c u
  | [], [], [], _, _ => by rw [dist_nil]; omega
  | a :: v, x :: c, b :: u, h1, h2 => by
    have ih := tri_ns hk (v := v) (c := c) (u := u) (by simpa using h1) (by simpa using h2)
    have p := part_tri hk a x b
    have n1 := part_nn k (a - x)
    have n2 := part_nn k (x - b)
    rw [dist_cons, dist_cons, dist_cons]
    by_cases h : k = "most"
    · simp only [if_pos h]
      split <;> split <;> split <;> omega
    · simp only [if_neg h]
      omega
/-! the squares -/
def ssq : List Int → List Int → Int
  | a :: v, b :: u => (a - b) * (a - b) + ssq v u
  | _, _ => 0
def dotd : List Int → List Int → List Int → Int
  | a :: v, x :: c, b :: u => (a - x) * (x - b) + dotd v c u
  | _, _, _ => 0
theorem dist_ssq : ∀ {v u : List Int}, v.length = u.length → distI "square" v u = ssq v u
  | [], [], _ => dist_nil _
  | a :: v, b :: u, h => by
    rw [dist_cons, dist_ssq (by simpa using h), if_neg (by decide +kernel)]
    have e : partI "square" (a - b) = (a - b) * (a - b) := by
      unfold partI
      rw [if_pos rfl]
    rw [e]
    rfl
theorem ssq_nn : ∀ (v u : List Int), 0 ≤ ssq v u
  | [], _ => by simp [ssq]
  | _ :: _, [] => by simp [ssq]
  | a :: v, b :: u => by
    have ih := ssq_nn v u
    have e : 0 ≤ (a - b) * (a - b) := by
      rcases Int.le_total 0 (a - b) with z | z
      · exact Int.mul_nonneg z z
      · exact Int.mul_nonneg_of_nonpos_of_nonpos z z
    unfold ssq
    omega
theorem ssq_split : ∀ {v c u : List Int}, v.length = c.length → c.length = u.length → ssq v u = ssq v c + ssq c u + 2 * dotd v c u
  | [], [], [], _, _ => by simp [ssq, dotd]
  | a :: v, x :: c, b :: u, h1, h2 => by
    have ih := ssq_split (v := v) (c := c) (u := u) (by simpa using h1) (by simpa using h2)
    unfold ssq dotd
    rw [ih]
    grind
theorem sq_nn (a : Int) : 0 ≤ a * a := by
  rcases Int.le_total 0 a with z | z
  · exact Int.mul_nonneg z z
  · exact Int.mul_nonneg_of_nonpos_of_nonpos z z
/-- what has no greater square is no greater -/
theorem le_of_sq {a b : Int} (hb : 0 ≤ b) (h : a * a ≤ b * b) : a ≤ b := by
  rcases Int.lt_or_le b a with z | z
  · have k := Int.mul_le_mul (a := b + 1) (b := b + 1) (c := a) (d := a) (by omega) (by omega) (by omega) (by omega)
    have e : (b + 1) * (b + 1) = b * b + 2 * b + 1 := by grind
    omega
  · exact z
theorem cauchy : ∀ (v c u : List Int), dotd v c u * dotd v c u ≤ ssq v c * ssq c u
  | [], _, _ => by simp [ssq, dotd]
  | _ :: _, [], _ => by simp [ssq, dotd]
  | _ :: _, x :: c, [] => by simp [ssq, dotd]
  | a :: v, x :: c, b :: u => by
    have ih := cauchy v c u
    obtain ⟨p, hp⟩ : ∃ p, p = dotd v c u := ⟨_, rfl⟩
    obtain ⟨s, hs⟩ : ∃ s, s = ssq v c := ⟨_, rfl⟩
    obtain ⟨t, ht⟩ : ∃ t, t = ssq c u := ⟨_, rfl⟩
    have s0 : 0 ≤ s := hs ▸ ssq_nn v c
    have t0 : 0 ≤ t := ht ▸ ssq_nn c u
    obtain ⟨y, hy⟩ : ∃ y, y = a - x := ⟨_, rfl⟩
    obtain ⟨z, hz⟩ : ∃ z, z = x - b := ⟨_, rfl⟩
    show ((a - x) * (x - b) + dotd v c u) * ((a - x) * (x - b) + dotd v c u) ≤ ((a - x) * (a - x) + ssq v c) * ((x - b) * (x - b) + ssq c u)
    rw [← hp, ← hs, ← ht, ← hy, ← hz]
    rw [← hp, ← hs, ← ht] at ih
    have k : 2 * (y * z * p) ≤ y * y * t + z * z * s := by
      refine le_of_sq (Int.add_nonneg (Int.mul_nonneg (sq_nn y) t0) (Int.mul_nonneg (sq_nn z) s0)) ?_
      have e1 : 2 * (y * z * p) * (2 * (y * z * p)) = 4 * ((y * z) * (y * z)) * (p * p) := by grind
      have e2 : 4 * ((y * z) * (y * z)) * (p * p) ≤ 4 * ((y * z) * (y * z)) * (s * t) := Int.mul_le_mul_of_nonneg_left ih (Int.mul_nonneg (by decide) (sq_nn (y * z)))
      have e3 : 0 ≤ (y * y * t - z * z * s) * (y * y * t - z * z * s) := sq_nn _
      have e4 : (y * y * t + z * z * s) * (y * y * t + z * z * s) = (y * y * t - z * z * s) * (y * y * t - z * z * s) + 4 * ((y * z) * (y * z)) * (s * t) := by grind
      omega
    have e5 : (y * z + p) * (y * z + p) = y * y * (z * z) + 2 * (y * z * p) + p * p := by grind
    have e6 : (y * y + s) * (z * z + t) = y * y * (z * z) + (y * y * t + z * z * s) + s * t := by grind
    omega
/-- the distance of two from the ones to a third one -/
theorem dist_tri {k : Str} {v c u : List Int} (h1 : v.length = c.length) (h2 : c.length = u.length) : gapI (sq k) (distI k v c) (distI k c u) ≤ distI k v u ∧ distI k v u ≤ mostI (sq k) (distI k v c) (distI k c u) := by
  by_cases hk : k = "square"
  · subst hk
    have es : sq "square" = true := by
      unfold sq
      decide +kernel
    rw [es, dist_ssq h1, dist_ssq h2, dist_ssq (h1.trans h2), ssq_split h1 h2]
    have a0 := ssq_nn v c
    have b0 := ssq_nn c u
    have cs := cauchy v c u
    unfold gapI mostI
    simp only [if_true]
    obtain ⟨a, ha⟩ : ∃ a, a = ssq v c := ⟨_, rfl⟩
    obtain ⟨b, hb⟩ : ∃ b, b = ssq c u := ⟨_, rfl⟩
    obtain ⟨p, hp⟩ : ∃ p, p = dotd v c u := ⟨_, rfl⟩
    rw [← ha, ← hb, ← hp]
    rw [← ha] at a0
    rw [← hb] at b0
    rw [← ha, ← hb, ← hp] at cs
    have q0 := p4 a0 b0
    have r0 := (rt_le q0).1
    have e1 : (2 * p) * (2 * p) = 4 * (p * p) := by grind
    have e2 : 4 * a * b = 4 * (a * b) := by grind
    have k1 : 2 * p ≤ rt (4 * a * b) := by
      rcases Int.le_total 0 (2 * p) with z | z
      · exact (le_rt q0 z).mpr (by omega)
      · omega
    have k2 : -(2 * p) ≤ rt (4 * a * b) := by
      rcases Int.le_total 0 (-(2 * p)) with z | z
      · refine (le_rt q0 z).mpr ?_
        have e3 : -(2 * p) * -(2 * p) = (2 * p) * (2 * p) := by grind
        omega
      · omega
    omega
  · have es : sq k = false := by
      unfold sq
      exact decide_eq_false hk
    have t1 := tri_ns hk h1 h2
    have t2 := tri_ns hk (v := v) (c := u) (u := c) (h1.trans h2) h2.symm
    have t3 := tri_ns hk (v := c) (c := v) (u := u) h1.symm (h1.trans h2)
    rw [dist_comm k c u] at t2
    rw [dist_comm k v c] at t3
    rw [es]
    unfold gapI mostI
    simp only [Bool.false_eq_true, if_false]
    split <;> omega
theorem least_gap_le {s : Bool} {a b : Int} (ha : 0 ≤ a) (hb : 0 ≤ b) : leastI s a b ≤ gapI s a b := by
  unfold leastI
  split
  · exact gap_pos ha hb
  · exact Int.le_refl _
/-- within a radius -/
theorem dist_ball {k : Str} {v c u : List Int} {r : Int} (h1 : v.length = c.length) (h2 : c.length = u.length) (h : distI k c u ≤ r) : leastI (sq k) (distI k v c) r ≤ distI k v u ∧ distI k v u ≤ mostI (sq k) (distI k v c) r := by
  obtain ⟨t1, t2⟩ := dist_tri (k := k) h1 h2
  have a0 := dist_nn k v c
  have b0 := dist_nn k c u
  have l1 := least_more (s := sq k) (m := r - distI k c u) a0 b0 (by omega)
  have l2 := most_more (s := sq k) (m := r - distI k c u) a0 b0 (by omega)
  have e : distI k c u + (r - distI k c u) = r := by omega
  rw [e] at l1 l2
  have l3 := least_gap_le (s := sq k) a0 b0
  exact ⟨Int.le_trans l1 (Int.le_trans l3 t1), Int.le_trans t2 l2.1⟩
/-- beyond an inner rim -/
theorem dist_rim {k : Str} {v c u : List Int} {a : Int} (h1 : v.length = c.length) (h2 : c.length = u.length) (h : a ≤ distI k c u) (h3 : distI k v c < a) : gapI (sq k) a (distI k v c) ≤ distI k v u := by
  obtain ⟨t1, t2⟩ := dist_tri (k := k) h1 h2
  have a0 := dist_nn k v c
  have l1 := least_near (s := sq k) (a := a) (b := distI k v c) (m := distI k c u - a) (by omega) a0 (by omega)
  have e : a + (distI k c u - a) = distI k c u := by omega
  rw [e, least_gap (by omega) a0, least_gap (by omega) a0] at l1
  rw [gap_comm (a := distI k c u)] at l1
  exact Int.le_trans l1 t1
/-! ### joining -/
theorem join_mono (k : Str) {ps : List Nat} {f g : Nat → Int} (h : ∀ i ∈ ps, f i ≤ g i) : joinI k (ps.map f) ≤ joinI k (ps.map g) := by
  unfold joinI
  induction ps with
  | nil => exact Int.le_refl _
  | cons p ps ih =>
    have ih := ih fun i hi => h i (List.mem_cons_of_mem _ hi)
    have hp := h p List.mem_cons_self
    by_cases e : k = "most"
    · simp only [if_pos e] at ih ⊢
      show (if mxI (ps.map f) ≤ f p then f p else mxI (ps.map f)) ≤ (if mxI (ps.map g) ≤ g p then g p else mxI (ps.map g))
      split <;> split <;> omega
    · simp only [if_neg e] at ih ⊢
      rw [List.map_cons, List.map_cons, List.sum_cons, List.sum_cons]
      omega
theorem part_le (k : Str) {a b : Int} (h : 0 ≤ a) (h2 : a ≤ b ∨ a ≤ -b) : partI k a ≤ partI k b := by
  unfold partI
  split
  · rcases h2 with z | z
    · exact Int.mul_le_mul z z h (by omega)
    · have e : b * b = -b * -b := by grind
      rw [e]
      exact Int.mul_le_mul z z h (by omega)
  · split
    · split <;> split <;> omega
    · split <;> split <;> omega
theorem part_ge (k : Str) {a b : Int} (h1 : -a ≤ b) (h2 : b ≤ a) : partI k b ≤ partI k a := by
  rcases Int.le_total 0 b with z | z
  · exact part_le k z (.inl h2)
  · rw [← part_neg k b]
    exact part_le k (by omega) (.inl (by omega))
/-! ### regions -/
inductive Rg where
  | ball (c : List Int) (r : Int) | box (l h : List Int) | cell (c : List Int) (a b : Int)
def Rg.d : Rg → D
  | .ball c r => .tup [.str "ball", vec c, .int r]
  | .box l h => .tup [.str "box", vec l, vec h]
  | .cell c a b => .tup [.str "cell", vec c, .int a, .int b]
def Rg.mid : Rg → List Int
  | .ball c _ => c
  | .box l _ => l
  | .cell c _ _ => c
/-- vectors of so many places with parts to B -/
def vk (p : Nat) (B : Int) (v : List Int) : Prop := v.length = p ∧ ∀ a ∈ v, -B ≤ a ∧ a ≤ B
def rgOk (p : Nat) : Rg → Prop
  | .ball c r => vk p 50000 c ∧ 0 ≤ r ∧ r ≤ 1000000000
  | .box l h => vk p 50000 l ∧ vk p 50000 h ∧ ∀ i, i < p → l.getD i 0 ≤ h.getD i 0
  | .cell c a b => vk p 50000 c ∧ 0 ≤ a ∧ a ≤ b ∧ b ≤ 1000000000
def inBox (l h u : List Int) : Bool := (List.range (min (min l.length u.length) h.length)).all fun i => decide (l.getD i 0 ≤ u.getD i 0 ∧ u.getD i 0 ≤ h.getD i 0)
def holdB (k : Str) : Rg → List Int → Bool
  | .box l h, u => inBox l h u
  | .ball c r, u => decide (distI k c u ≤ r)
  | .cell c a b, u => decide (a ≤ distI k c u ∧ distI k c u ≤ b)
def nearL (l h v : List Int) : List Int := (List.range (min (min l.length h.length) v.length)).map fun i => mx3 (l.getD i 0 - v.getD i 0) (v.getD i 0 - h.getD i 0) 0
def mx2 (i j : Int) : Int := if j > i then j else i
def farL (l h v : List Int) : List Int := (List.range (min (min l.length h.length) v.length)).map fun i => mx2 (v.getD i 0 - l.getD i 0) (h.getD i 0 - v.getD i 0)
def floorI (k : Str) : Rg → List Int → Int
  | .box l h, v => joinI k ((nearL l h v).map (partI k))
  | .ball c r, v => leastI (sq k) (distI k c v) r
  | .cell c a b, v => if distI k c v < a then gapI (sq k) a (distI k c v) else leastI (sq k) (distI k c v) b
def lenMin (k : Str) (v : List Int) (m : Int) : Int := if k = "unlike" then (if (v.length : Int) < m then (v.length : Int) else m) else m
def ceilI (k : Str) : Rg → List Int → Int
  | .box l h, v => joinI k ((farL l h v).map (partI k))
  | .ball c r, v => lenMin k v (mostI (sq k) (distI k c v) r)
  | .cell c _ b, v => lenMin k v (mostI (sq k) (distI k c v) b)
theorem unlike_len : ∀ {v u : List Int}, v.length = u.length → distI "unlike" v u ≤ (v.length : Int)
  | [], [], _ => by rw [dist_nil]; simp
  | a :: v, b :: u, h => by
    have ih := unlike_len (v := v) (u := u) (by simpa using h)
    rw [dist_cons, if_neg (by decide +kernel), List.length_cons]
    have e : partI "unlike" (a - b) ≤ 1 := by
      unfold partI
      rw [if_neg (by decide +kernel), if_pos rfl]
      split <;> omega
    omega
theorem box_at {p : Nat} {l h u : List Int} (hl : l.length = p) (hh : h.length = p) (hu : u.length = p) : inBox l h u = true ↔ ∀ i, i < p → l.getD i 0 ≤ u.getD i 0 ∧ u.getD i 0 ≤ h.getD i 0 := by
  unfold inBox
  rw [hl, hh, hu, List.all_eq_true]
  have e : min (min p p) p = p := by omega
  rw [e]
  constructor
  · intro z i hi
    exact of_decide_eq_true (z i (List.mem_range.mpr hi))
  · intro z i hi
    exact decide_eq_true (z i (List.mem_range.mp hi))
theorem dist_ix {k : Str} {p : Nat} {v u : List Int} (hv : v.length = p) (hu : u.length = p) : distI k v u = joinI k ((List.range p).map fun i => partI k (v.getD i 0 - u.getD i 0)) := by
  have e := dist_all k (hv.trans hu.symm)
  rw [hv] at e
  exact e
theorem near_ix {k : Str} {p : Nat} {l h v : List Int} (hl : l.length = p) (hh : h.length = p) (hv : v.length = p) : joinI k ((nearL l h v).map (partI k)) = joinI k ((List.range p).map fun i => partI k (mx3 (l.getD i 0 - v.getD i 0) (v.getD i 0 - h.getD i 0) 0)) := by
  unfold nearL
  rw [List.map_map, hl, hh, hv]
  have e : min (min p p) p = p := by omega
  rw [e]
  rfl
theorem far_ix {k : Str} {p : Nat} {l h v : List Int} (hl : l.length = p) (hh : h.length = p) (hv : v.length = p) : joinI k ((farL l h v).map (partI k)) = joinI k ((List.range p).map fun i => partI k (mx2 (v.getD i 0 - l.getD i 0) (h.getD i 0 - v.getD i 0))) := by
  unfold farL
  rw [List.map_map, hl, hh, hv]
  have e : min (min p p) p = p := by omega
  rw [e]
  rfl
/-- what a region holds is neither nearer nor farther -/
theorem held_between {k : Str} {p : Nat} {r : Rg} {v u : List Int} (ok : rgOk p r) (hv : v.length = p) (hu : u.length = p) (h : holdB k r u = true) : floorI k r v ≤ distI k v u ∧ distI k v u ≤ ceilI k r v := by
  have lm : ∀ m : Int, distI k v u ≤ m → distI k v u ≤ lenMin k v m := fun m hm => by
    unfold lenMin
    split
    · rename_i e
      subst e
      have := unlike_len (hv.trans hu.symm)
      split <;> omega
    · exact hm
  cases r with
  | ball c r =>
    have hc := ok.1.1
    have h' : distI k c u ≤ r := of_decide_eq_true h
    have z := dist_ball (v := v) (hv.trans hc.symm) (hc.trans hu.symm) h'
    show leastI (sq k) (distI k c v) r ≤ _ ∧ _ ≤ lenMin k v (mostI (sq k) (distI k c v) r)
    rw [dist_comm k v c]
    exact ⟨z.1, lm _ z.2⟩
  | cell c a b =>
    have hc := ok.1.1
    have h' : a ≤ distI k c u ∧ distI k c u ≤ b := of_decide_eq_true h
    have z := dist_ball (v := v) (hv.trans hc.symm) (hc.trans hu.symm) h'.2
    show (if distI k c v < a then gapI (sq k) a (distI k c v) else leastI (sq k) (distI k c v) b) ≤ _ ∧ _ ≤ lenMin k v (mostI (sq k) (distI k c v) b)
    rw [dist_comm k v c]
    refine ⟨?_, lm _ z.2⟩
    split
    · exact dist_rim (hv.trans hc.symm) (hc.trans hu.symm) h'.1 (by assumption)
    · exact z.1
  | box l h0 =>
    have hl := ok.1.1
    have hh := ok.2.1.1
    have z := (box_at hl hh hu).mp h
    show joinI k ((nearL l h0 v).map (partI k)) ≤ _ ∧ _ ≤ joinI k ((farL l h0 v).map (partI k))
    rw [near_ix hl hh hv, far_ix hl hh hv, dist_ix hv hu]
    refine ⟨join_mono k fun i hi => ?_, join_mono k fun i hi => ?_⟩
    · have := z i (List.mem_range.mp hi)
      unfold mx3
      refine part_le k ?_ ?_
      · split <;> (try split) <;> omega
      · split <;> (try split) <;> omega
    · have := z i (List.mem_range.mp hi)
      unfold mx2
      refine part_ge k ?_ ?_
      · split <;> omega
      · split <;> omega
/-! ### places of short tuples, lists -/
theorem ix_t0 {a : D} {l : List D} {M : Mp} {Q : KD} : ixD (.tup (a :: l)) (.int 0) M Q ↔ Q a M := by
  constructor
  · rintro ⟨ds, x, h, e, q⟩
    cases h
    simp [atI, ixN] at e
    exact e ▸ q
  · exact fun q => ⟨_, a, rfl, by simp [atI, ixN], q⟩
theorem ix_t1 {a b : D} {l : List D} {M : Mp} {Q : KD} : ixD (.tup (a :: b :: l)) (.int 1) M Q ↔ Q b M := by
  have z : (1 : Int) < (l.length : Int) + 1 + 1 := by omega
  constructor
  · rintro ⟨ds, x, h, e, q⟩
    cases h
    simp [atI, ixN, z] at e
    exact e ▸ q
  · exact fun q => ⟨_, b, rfl, by simp [atI, ixN, z], q⟩
theorem ix_t2 {a b c : D} {l : List D} {M : Mp} {Q : KD} : ixD (.tup (a :: b :: c :: l)) (.int 2) M Q ↔ Q c M := by
  constructor
  · rintro ⟨ds, x, h, e, q⟩
    cases h
    have z : (2 : Int) < (l.length : Int) + 1 + 1 + 1 := by omega
    simp [atI, ixN, z] at e
    exact e ▸ q
  · exact fun q => ⟨_, c, rfl, by
      have z : (2 : Int) < (l.length : Int) + 1 + 1 + 1 := by omega
      simp [atI, ixN, z], q⟩
theorem ix_t3 {a b c d : D} {M : Mp} {Q : KD} : ixD (.tup [a, b, c, d]) (.int 3) M Q ↔ Q d M := by
  constructor
  · rintro ⟨ds, x, h, e, q⟩
    cases h
    simp [atI, ixN] at e
    exact e ▸ q
  · exact fun q => ⟨_, d, rfl, by simp [atI, ixN], q⟩
theorem ix_m3 {a b c : D} {M : Mp} {Q : KD} : ixD (.tup [a, b, c]) (.int (-1)) M Q ↔ Q c M := by
  constructor
  · rintro ⟨ds, x, h, e, q⟩
    cases h
    simp [atI, ixN] at e
    exact e ▸ q
  · exact fun q => ⟨_, c, rfl, by simp [atI, ixN], q⟩
theorem ix_m4 {a b c d : D} {M : Mp} {Q : KD} : ixD (.tup [a, b, c, d]) (.int (-1)) M Q ↔ Q d M := by
  constructor
  · rintro ⟨ds, x, h, e, q⟩
    cases h
    simp [atI, ixN] at e
    exact e ▸ q
  · exact fun q => ⟨_, d, rfl, by simp [atI, ixN], q⟩
/-! names -/
theorem sn_ball_box : (("ball" : Str) = "box") = False := eq_false (by decide +kernel)
theorem sn_cell_box : (("cell" : Str) = "box") = False := eq_false (by decide +kernel)
theorem sn_cell_ball : (("cell" : Str) = "ball") = False := eq_false (by decide +kernel)
theorem sn_ball_cell : (("ball" : Str) = "cell") = False := eq_false (by decide +kernel)
theorem sn_box_ball : (("box" : Str) = "ball") = False := eq_false (by decide +kernel)
theorem sn_box_cell : (("box" : Str) = "cell") = False := eq_false (by decide +kernel)
end L3
namespace L3
open PySem L2
/-- a zip whose handed out tuple may be another's by now -/
def IsZipB (h : Heap) (z TI TO : Addr) (x : Value) (b : Bool) : Prop := h.get? z = some { cls := .type "zip", dict := none, data := .fields #[x, .bool b, .bool false, .ref TI, .ref TO], slots := #[] }
abbrev ZI := Addr × Addr × Array Value
structure ZApart (z TI TO : Addr) (its : List ZI) : Prop where
  zTI : TI ≠ z
  zTO : TO ≠ z
  TT : TI ≠ TO
  iz : ∀ q ∈ its, q.1 ≠ z ∧ q.1 ≠ TI ∧ q.1 ≠ TO
  tz : ∀ q ∈ its, q.2.1 ≠ z ∧ q.2.1 ≠ TO
  ti : ∀ q ∈ its, ∀ r ∈ its, q.2.1 ≠ r.1
  nd : (its.map (·.1)).Nodup
section
variable {prog : Program} {w : World} {A : Around} {E : Value → Shared → Prop} {s : Shared} {z TI TO : Addr} {its : List ZI} {i : Nat}
/-- what is drawn stands -/
structure ZState (h : Heap) (z TI TO : Addr) (its : List ZI) (i : Nat) (x : Value) (b : Bool) (old : List Value) : Prop where
  zip : IsZipB h z TI TO x b
  ti : h.get? TI = some { cls := .type "tuple", data := .seq (its.map fun q => Value.ref q.1).toArray }
  out : h.get? TO = some { cls := .type "tuple", data := .seq old.toArray }
  len : old.length = its.length
  iter : ∀ q ∈ its, h.IsTupleIter q.1 q.2.1 i
  tup : ∀ q ∈ its, h.IsTuple q.2.1 q.2.2
theorem wpAny_loadIfAlive {M : Model} {a : Addr} {Q : Option Obj → Shared → Prop} (h : Q (s.heap.get? a) s) : wpAny M A (loadIfAlive a) Q E s := fun Γ p hΓ => by
  unfold loadIfAlive
  rw [Sem.wp_loadIfAlive]
  exact h
structure ZLoop (hp h : Heap) (z TI TO : Addr) (its pre suf : List ZI) (i : Nat) (x : Value) (b : Bool) (out : List Value) : Prop where
  split : its = pre ++ suf
  zip : IsZipB h z TI TO x b
  ti : h.get? TI = some { cls := .type "tuple", data := .seq (its.map fun q => Value.ref q.1).toArray }
  out : h.get? TO = some { cls := .type "tuple", data := .seq out.toArray }
  done : ∀ q ∈ pre, h.IsTupleIter q.1 q.2.1 (i + 1)
  left : ∀ q ∈ suf, h.IsTupleIter q.1 q.2.1 i
  tup : ∀ q ∈ its, h.IsTuple q.2.1 q.2.2
  keep : ∀ c o, c ≠ z → c ≠ TO → c ∉ its.map (·.1) → hp.get? c = some o → h.get? c = some o
  size : h.objs.size = hp.objs.size
theorem ZLoop.draw {hp h h' : Heap} {pre suf : List ZI} {q : ZI} {x : Value} {b : Bool} {out : List Value} (D : ZApart z TI TO its) (L : ZLoop hp h z TI TO its pre (q :: suf) i x b out) (sb : Heap.SameBut q.1 h h') (hq : h'.IsTupleIter q.1 q.2.1 (i + 1)) : ZLoop hp h' z TI TO its (pre ++ [q]) suf i x b out := by
  have qm : q ∈ its := by rw [L.split]; exact List.mem_append_right _ List.mem_cons_self
  obtain ⟨qz, qTI, qTO⟩ := D.iz q qm
  have nd := D.nd
  rw [L.split, List.map_append, List.map_cons, List.nodup_append] at nd
  have npre : ∀ r ∈ pre, r.1 ≠ q.1 := fun r hr e => nd.2.2 r.1 (List.mem_map.mpr ⟨r, hr, rfl⟩) q.1 List.mem_cons_self e
  have nsuf : ∀ r ∈ suf, r.1 ≠ q.1 := fun r hr e => (List.nodup_cons.mp nd.2.1).1 (List.mem_map.mpr ⟨r, hr, e⟩)
  refine ⟨by rw [L.split]; simp, sb.extBut _ _ (Ne.symm qz) L.zip, sb.extBut _ _ (Ne.symm qTI) L.ti, sb.extBut _ _ (Ne.symm qTO) L.out, fun r hr => ?_, fun r hr => (L.left r (List.mem_cons_of_mem _ hr)).at fun o e => sb.extBut _ _ (nsuf r hr) e, fun r hr => (L.tup r hr).at fun o e => sb.extBut _ _ (D.ti r hr q qm) e, fun c o c1 c2 c3 e => sb.extBut _ _ (fun z => c3 (by rw [z]; exact List.mem_map.mpr ⟨q, qm, rfl⟩)) (L.keep c o c1 c2 c3 e), by rw [sb.1, L.size]⟩
  rcases List.mem_append.mp hr with hr | hr
  · exact (L.done r hr).at fun o e => sb.extBut _ _ (npre r hr) e
  · rw [List.mem_singleton.mp hr]
    exact hq
theorem ZLoop.put {hp h h' : Heap} {pre suf : List ZI} {x : Value} {b : Bool} {out out' : List Value} (D : ZApart z TI TO its) (L : ZLoop hp h z TI TO its pre suf i x b out) (sb : Heap.SameBut TO h h') (ho : h'.get? TO = some { cls := .type "tuple", data := .seq out'.toArray }) : ZLoop hp h' z TI TO its pre suf i x b out' := by
  have m1 : ∀ r ∈ pre, r ∈ its := fun r hr => by rw [L.split]; exact List.mem_append_left _ hr
  have m2 : ∀ r ∈ suf, r ∈ its := fun r hr => by rw [L.split]; exact List.mem_append_right _ hr
  exact ⟨L.split, sb.extBut _ _ (Ne.symm D.zTO) L.zip, sb.extBut _ _ D.TT L.ti, ho, fun r hr => (L.done r hr).at fun o e => sb.extBut _ _ (D.iz r (m1 r hr)).2.2 e, fun r hr => (L.left r hr).at fun o e => sb.extBut _ _ (D.iz r (m2 r hr)).2.2 e,
    fun r hr => (L.tup r hr).at fun o e => sb.extBut _ _ (D.tz r hr).2 e, fun c o c1 c2 c3 e => sb.extBut _ _ c2 (L.keep c o c1 c2 c3 e), by rw [sb.1, L.size]⟩
theorem ZLoop.zipped {hp h h' : Heap} {pre suf : List ZI} {x x' : Value} {b b' : Bool} {out : List Value} (D : ZApart z TI TO its) (L : ZLoop hp h z TI TO its pre suf i x b out) (sb : Heap.SameBut z h h') (hz : IsZipB h' z TI TO x' b') : ZLoop hp h' z TI TO its pre suf i x' b' out := by
  have m1 : ∀ r ∈ pre, r ∈ its := fun r hr => by rw [L.split]; exact List.mem_append_left _ hr
  have m2 : ∀ r ∈ suf, r ∈ its := fun r hr => by rw [L.split]; exact List.mem_append_right _ hr
  exact ⟨L.split, hz, sb.extBut _ _ D.zTI L.ti, sb.extBut _ _ D.zTO L.out, fun r hr => (L.done r hr).at fun o e => sb.extBut _ _ (D.iz r (m1 r hr)).1 e, fun r hr => (L.left r hr).at fun o e => sb.extBut _ _ (D.iz r (m2 r hr)).1 e,
    fun r hr => (L.tup r hr).at fun o e => sb.extBut _ _ (D.tz r hr).1 e, fun c o c1 c2 c3 e => sb.extBut _ _ c1 (L.keep c o c1 c2 c3 e), by rw [sb.1, L.size]⟩
def zval (i : Nat) (q : ZI) : Value := q.2.2.getD i .none
theorem ZLoop.fin {hp h h' : Heap} {x x' : Value} {b b' : Bool} {out : List Value} (L : ZLoop hp h z TI TO its its [] i x b out) (lo : out.length = its.length) (hz : IsZipB h' z TI TO x' b') (k : ∀ c o, c ≠ z → h.get? c = some o → h'.get? c = some o) (D : ZApart z TI TO its) : ZState h' z TI TO its (i + 1) x' b' out :=
  ⟨hz, k _ _ D.zTI L.ti, k _ _ D.zTO L.out, lo, fun r hr => (L.done r hr).at fun o e => k _ _ (D.iz r hr).1 e, fun r hr => (L.tup r hr).at fun o e => k _ _ (D.tz r hr).1 e⟩
theorem zipN_item {x : Value} {b : Bool} {old : List Value} {Q : Value → Shared → Prop} (D : ZApart z TI TO its) (S : ZState s.heap z TI TO its i x b old) (hne : its ≠ []) (hx : x = .none ∨ ∃ T : Nat, x = rawInt T) (hi : ∀ q ∈ its, i < q.2.2.size) (small : its.length ≤ 1000)
    (hQ : ∀ h' T x' b' old', (x' = .none ∨ ∃ T : Nat, x' = rawInt T) → ZState h' z TI TO its (i + 1) x' b' old' → s.heap.objs.size ≤ T → h'.get? T = some { cls := .type "tuple", data := .seq (its.map (zval i)).toArray } → (T ≠ z ∧ T ≠ TO ∧ T ∉ its.map (·.1)) →
      (∀ c o, c ≠ z → c ≠ TO → c ∉ its.map (·.1) → s.heap.get? c = some o → h'.get? c = some o) → Q (.ref T) { s with heap := h' }) :
    wpAny (model prog w) A (Builtin.«zip.__next__» ⟨[.ref z], []⟩) (fun fin s' => ∃ v, fin = .done (.ret v) ∧ Q v s') E s := by
  obtain ⟨hp, g, d, tk0, os⟩ := s
  show wpAny _ _ (field (.ref z) 2 >>= _) _ _ _
  refine wpAny_bind (wpAny_field S.zip rfl (x := .bool false) rfl ?_)
  show wpAny _ _ (field (.ref z) 3 >>= _) _ _ _
  refine wpAny_bind (wpAny_field S.zip rfl (x := .ref TI) rfl ?_)
  refine wpAny_bind (wpAny_seqItems S.ti rfl ?_)
  have e0 : (its.map fun q => Value.ref q.1).toArray.isEmpty = false := by
    cases its with
    | nil => exact absurd rfl hne
    | cons _ _ => rfl
  show wpAny _ _ (if (its.map fun q => Value.ref q.1).toArray.isEmpty = true then _ else _) _ _ _
  rw [e0]
  simp only [Bool.false_eq_true, if_false]
  have zlt : z < hp.objs.size := Heap.lt_size S.zip
  refine wpAny_bind (wpAny_mono (Q := fun (r : Bool) s' => ∃ hp1 b1, s' = ⟨hp1, g, d, tk0, os⟩ ∧ ZState hp1 z TI TO its i x b1 old ∧ Heap.SameBut z hp hp1) ?_ (fun r s' hr => ?_) (fun _ _ h => h))
  · unfold Builtin.SmallTypes.ownedTupleIsFree
    refine wpAny_bind (wpAny_field S.zip rfl (x := x) rfl ?_)
    rcases hx with rfl | ⟨T0, rfl⟩
    · exact wpAny_pure ⟨hp, b, rfl, S, ⟨rfl, fun _ _ => rfl⟩⟩
    · show wpAny _ _ (loadIfAlive T0 >>= _) _ _ _
      refine wpAny_bind (wpAny_loadIfAlive ?_)
      cases eT : hp.get? T0 with
      | none => exact wpAny_pure ⟨hp, b, rfl, S, ⟨rfl, fun _ _ => rfl⟩⟩
      | some o =>
        show wpAny _ _ (field (.ref z) 1 >>= _) _ _ _
        refine wpAny_bind (wpAny_field S.zip rfl (x := .bool b) rfl ?_)
        cases b with
        | true => exact wpAny_pure ⟨hp, true, rfl, S, ⟨rfl, fun _ _ => rfl⟩⟩
        | false =>
          refine wpAny_bind (wpAny_setField_rec (s := ⟨hp, g, d, tk0, os⟩) S.zip (by simp) fun g0 hz0 hs0 => ?_)
          have hz1 : IsZipB g0 z TI TO (rawInt T0) true := hz0
          exact wpAny_pure ⟨g0, true, rfl, ⟨hz1, hs0.extBut _ _ D.zTI S.ti, hs0.extBut _ _ D.zTO S.out, S.len, fun q hq => (S.iter q hq).at fun o e => hs0.extBut _ _ (D.iz q hq).1 e, fun q hq => (S.tup q hq).at fun o e => hs0.extBut _ _ (D.tz q hq).1 e⟩, hs0⟩
  · obtain ⟨hp1, b1, rfl, S1, sb⟩ := hr
    cases r with
    | true =>
      simp only [if_true]
      refine wpAny_bind (wpAny_rule ?_)
      refine wpAny_bind (wpAny_field (s := ⟨hp1, g, d, tk0, os⟩) S1.zip rfl (x := .ref TO) rfl ?_)
      refine wpAny_bind (wpAny_setField_rec (s := ⟨hp1, g, d, tk0, os⟩) S1.zip (by simp) fun g0 hz0 hs0 => ?_)
      have L0 : ZLoop hp g0 z TI TO its [] its i .ellipsis b1 old := by
        have l1 : ZLoop hp hp1 z TI TO its [] its i x b1 old := ⟨rfl, S1.zip, S1.ti, S1.out, fun q hq => (by cases hq), S1.iter, S1.tup, fun c o c1 c2 c3 e => sb.extBut _ _ c1 e, by rw [sb.1]⟩
        exact l1.zipped D hs0 hz0
      refine wpAny_bind ?_
      refine wpAny_forIn_list _ (fun rest b s' => b.1 = none ∧ ∃ (h : Heap) (pre suf : List ZI), s' = ⟨h, g, d, tk0, os⟩ ∧ ZLoop hp h z TI TO its pre suf i .ellipsis b1 (pre.map (zval i) ++ old.drop pre.length) ∧ rest = (suf.map fun q => Value.ref q.1).zipIdx pre.length) _ (fun y rest b s' hI => ?_) (fun b s' hI => ?_) _ _ ?_
      · obtain ⟨hb, h, pre, suf, rfl, L, er⟩ := hI
        cases suf with
        | nil => cases er
        | cons q suf =>
          rw [List.map_cons, List.zipIdx_cons] at er
          obtain ⟨rfl, rfl⟩ := List.cons.inj er
          have qm : q ∈ its := by rw [L.split]; exact List.mem_append_right _ List.mem_cons_self
          refine wpAny_bind (wpAny_onRaise ?_)
          show wpAny _ _ (Builtin.SmallTypes.nextOf (.ref q.1) >>= _) _ _ _
          refine wpAny_bind (wpAny_nextOf_tuple_item (s := ⟨h, g, d, tk0, os⟩) (L.left q List.mem_cons_self) (L.tup q qm) (x := zval i q) ?_ fun h' hit' hs' => ?_)
          · unfold zval
            rw [Array.getD_eq_getD_getElem?, Array.getElem?_eq_getElem (hi q qm)]
            rfl
          refine wpAny_pure ?_
          have L2 := L.draw D hs' hit'
          dsimp only
          refine wpAny_bind (wpAny_seqItems (s := ⟨h', g, d, tk0, os⟩) L2.out rfl ?_)
          dsimp only
          have lp : pre.length < its.length := by
            rw [L.split]
            simp
          have lz : (pre.map (zval i) ++ old.drop pre.length).length ≤ 1000 := by
            simp only [List.length_append, List.length_map, List.length_drop, S1.len]
            omega
          have sz : (1000 : Nat) ≤ sizeLine := by decide
          refine wpAny_bind (wpAny_updateSeq (s := ⟨h', g, d, tk0, os⟩) L2.out rfl ?_ (by rw [List.size_toArray]; omega) (by rw [Array.size_setIfInBounds, List.size_toArray]; omega))
          refine wpAny_bind (wpAny_letGo (wpAny_pure ⟨rfl, _, pre ++ [q], suf, rfl, ?_, ?_⟩))
          · refine L2.put D (Heap.SameBut.update ..) ?_
            rw [Heap.get?_update_self _ L2.out rfl]
            have e : (pre.map (zval i) ++ old.drop pre.length).toArray.setIfInBounds pre.length (zval i q) = ((pre ++ [q]).map (zval i) ++ old.drop (pre ++ [q]).length).toArray := by
              rw [List.setIfInBounds_toArray]
              congr 1
              rw [List.set_append_right _ _ (by simp)]
              simp only [List.length_map, Nat.sub_self, List.map_append, List.map_cons, List.map_nil, List.length_append, List.length_cons, List.length_nil, Nat.zero_add, List.append_assoc]
              congr 1
              rw [List.drop_eq_getElem_cons (by rw [S1.len]; exact lp)]
              rfl
            rw [← e]
            simp [Obj.mapSeq]
          · rw [List.length_append]
            rfl
      · obtain ⟨hb, h, pre, suf, rfl, L, er⟩ := hI
        have hsuf : suf = [] := by
          cases suf with
          | nil => rfl
          | cons q suf => cases er
        subst hsuf
        have epre : pre = its := by rw [L.split, List.append_nil]
        subst epre
        have eo : old.drop pre.length = [] := List.drop_eq_nil_of_le (by rw [S1.len]; exact Nat.le_refl _)
        rw [eo, List.append_nil] at L
        rw [hb]
        dsimp only
        refine wpAny_bind (wpAny_seqItems (s := ⟨h, g, d, tk0, os⟩) L.out rfl ?_)
        dsimp only
        refine wpAny_bind (wpAny_newTuple ?_ (Nat.le_trans (by rw [List.length_map]; exact small) (by decide : 1000 ≤ sizeLine)))
        have hT : h.objs.size = hp.objs.size := L.size
        have zl : z < h.objs.size := Heap.lt_size L.zip
        unfold Builtin.SmallTypes.ownedTupleHandOut
        refine wpAny_bind ?_
        have hz6 : IsZipB (h.push { cls := .type "tuple", data := .seq (pre.map (zval i)).toArray }) z TI TO .ellipsis b1 := Heap.get?_push_of_some _ L.zip
        refine wpAny_bind (wpAny_setField_rec hz6 (by simp) fun h7 hz7 hs7 => ?_)
        refine wpAny_setField_rec (s := ⟨h7, g, d, tk0, os⟩) hz7 (by simp) fun h8 hz8 hs8 => ?_
        have hz9 : IsZipB h8 z TI TO (rawInt (h.objs.size : Nat)) false := hz8
        have up : ∀ c o, c ≠ z → h.get? c = some o → h8.get? c = some o := fun c o c1 e => hs8.extBut _ _ c1 (hs7.extBut _ _ c1 (Heap.get?_push_of_some _ e))
        have hT8 : h8.get? h.objs.size = some { cls := .type "tuple", data := .seq (pre.map (zval i)).toArray } := hs8.extBut _ _ (Nat.ne_of_gt zl) (hs7.extBut _ _ (Nat.ne_of_gt zl) (Heap.get?_push_size _ rfl))
        refine wpAny_pure ⟨_, rfl, ?_⟩
        refine hQ h8 h.objs.size _ _ _ (.inr ⟨_, rfl⟩) (L.fin (by rw [List.length_map]) hz9 up D) (Nat.le_of_eq hT.symm) hT8 ⟨Nat.ne_of_gt zl, Nat.ne_of_gt (Heap.lt_size L.out), fun z => ?_⟩ fun c o c1 c2 c3 e => up c o c1 (L.keep c o c1 c2 c3 e)
        obtain ⟨q, hq, e⟩ := List.mem_map.mp z
        obtain ⟨o, e2, _⟩ := L.done q hq
        have := Heap.lt_size e2
        rw [e] at this
        exact Nat.lt_irrefl _ this
      · exact ⟨rfl, g0, [], its, rfl, L0, rfl⟩
    | false =>
      simp only [Bool.false_eq_true, if_false]
      have L0 : ZLoop hp hp1 z TI TO its [] its i x b1 old := ⟨rfl, S1.zip, S1.ti, S1.out, fun q hq => (by cases hq), S1.iter, S1.tup, fun c o c1 c2 c3 e => sb.extBut _ _ c1 e, by rw [sb.1]⟩
      refine wpAny_bind ?_
      refine MeetsSeq2.wpAny_forIn_array _ (fun rest b s' => b.1 = none ∧ ∃ (h : Heap) (pre suf : List ZI), s' = ⟨h, g, d, tk0, os⟩ ∧ ZLoop hp h z TI TO its pre suf i x b1 old ∧ rest = (suf.map fun q => Value.ref q.1) ∧ b.2 = (pre.map (zval i)).toArray) _ (fun y rest b s' hI => ?_) (fun b s' hI => ?_) _ _ ?_
      · obtain ⟨hb, h, pre, suf, rfl, L, er, eb⟩ := hI
        cases suf with
        | nil => cases er
        | cons q suf =>
          rw [List.map_cons] at er
          obtain ⟨rfl, rfl⟩ := List.cons.inj er
          have qm : q ∈ its := by rw [L.split]; exact List.mem_append_right _ List.mem_cons_self
          refine wpAny_bind (wpAny_holding ?_)
          show wpAny _ _ (Builtin.SmallTypes.nextOf (.ref q.1) >>= _) _ _ _
          refine wpAny_bind (wpAny_nextOf_tuple_item (s := ⟨h, g, d, tk0, os⟩) (L.left q List.mem_cons_self) (L.tup q qm) (x := zval i q) ?_ fun h' hit' hs' => ?_)
          · unfold zval
            rw [Array.getD_eq_getD_getElem?, Array.getElem?_eq_getElem (hi q qm)]
            rfl
          refine wpAny_pure ?_
          refine wpAny_pure ⟨rfl, _, pre ++ [q], suf, rfl, L.draw D hs' hit', rfl, ?_⟩
          show b.2.push (zval i q) = _
          rw [eb, List.push_toArray, List.map_append]
          rfl
      · obtain ⟨hb, h, pre, suf, rfl, L, er, eb⟩ := hI
        have hsuf : suf = [] := by
          cases suf with
          | nil => rfl
          | cons q suf => cases er
        subst hsuf
        have epre : pre = its := by rw [L.split, List.append_nil]
        subst epre
        rw [hb, eb]
        dsimp only
        refine wpAny_bind (wpAny_newTuple ?_ (Nat.le_trans (by simp; exact small) (by decide : 1000 ≤ sizeLine)))
        have hT : h.objs.size = hp.objs.size := L.size
        have zl : z < h.objs.size := Heap.lt_size L.zip
        have up : ∀ c o, h.get? c = some o → (h.push { cls := .type "tuple", data := .seq (pre.map (zval i)).toArray.toList.toArray }).get? c = some o := fun c o e => Heap.get?_push_of_some _ e
        refine wpAny_pure ⟨_, rfl, ?_⟩
        refine hQ _ h.objs.size _ _ _ hx (L.fin S1.len (up _ _ L.zip) (fun c o _ e => up c o e) D) (Nat.le_of_eq hT.symm) ?_ ⟨Nat.ne_of_gt zl, Nat.ne_of_gt (Heap.lt_size L.out), fun z => ?_⟩ fun c o c1 c2 c3 e => up c o (L.keep c o c1 c2 c3 e)
        · exact Heap.get?_push_size _ rfl
        · obtain ⟨q, hq, e⟩ := List.mem_map.mp z
          obtain ⟨o, e2, _⟩ := L.done q hq
          have := Heap.lt_size e2
          rw [e] at this
          exact Nat.lt_irrefl _ this
      · exact ⟨rfl, hp1, [], its, rfl, L0, by simp, rfl⟩
theorem zipN_end {x : Value} {b : Bool} {old : List Value} {Q : PySem.Fin → Shared → Prop} (hh : A.handled = none) (D : ZApart z TI TO its) (S : ZState s.heap z TI TO its i x b old) (hne : its ≠ []) (hx : x = .none ∨ ∃ T : Nat, x = rawInt T) (hi : ∀ q ∈ its, q.2.2.size = i)
    (hE : ∀ h' e, (∀ c o, c ≠ z → c ≠ TO → c ∉ its.map (·.1) → s.heap.get? c = some o → h'.get? c = some o) → (∃ o, h'.get? e = some o ∧ o.cls = .type "StopIteration") → E (.ref e) { s with heap := h' }) :
    wpAny (model prog w) A (Builtin.«zip.__next__» ⟨[.ref z], []⟩) Q E s := by
  obtain ⟨hp, g, d, tk0, os⟩ := s
  show wpAny _ _ (field (.ref z) 2 >>= _) _ _ _
  refine wpAny_bind (wpAny_field S.zip rfl (x := .bool false) rfl ?_)
  show wpAny _ _ (field (.ref z) 3 >>= _) _ _ _
  refine wpAny_bind (wpAny_field S.zip rfl (x := .ref TI) rfl ?_)
  refine wpAny_bind (wpAny_seqItems S.ti rfl ?_)
  have e0 : (its.map fun q => Value.ref q.1).toArray.isEmpty = false := by
    cases its with
    | nil => exact absurd rfl hne
    | cons _ _ => rfl
  show wpAny _ _ (if (its.map fun q => Value.ref q.1).toArray.isEmpty = true then _ else _) _ _ _
  rw [e0]
  simp only [Bool.false_eq_true, if_false]
  refine wpAny_bind (wpAny_mono (Q := fun (r : Bool) s' => ∃ hp1 b1, s' = ⟨hp1, g, d, tk0, os⟩ ∧ ZState hp1 z TI TO its i x b1 old ∧ Heap.SameBut z hp hp1) ?_ (fun r s' hr => ?_) (fun _ _ h => h))
  · unfold Builtin.SmallTypes.ownedTupleIsFree
    refine wpAny_bind (wpAny_field S.zip rfl (x := x) rfl ?_)
    rcases hx with rfl | ⟨T0, rfl⟩
    · exact wpAny_pure ⟨hp, b, rfl, S, ⟨rfl, fun _ _ => rfl⟩⟩
    · show wpAny _ _ (loadIfAlive T0 >>= _) _ _ _
      refine wpAny_bind (wpAny_loadIfAlive ?_)
      cases eT : hp.get? T0 with
      | none => exact wpAny_pure ⟨hp, b, rfl, S, ⟨rfl, fun _ _ => rfl⟩⟩
      | some o =>
        show wpAny _ _ (field (.ref z) 1 >>= _) _ _ _
        refine wpAny_bind (wpAny_field S.zip rfl (x := .bool b) rfl ?_)
        cases b with
        | true => exact wpAny_pure ⟨hp, true, rfl, S, ⟨rfl, fun _ _ => rfl⟩⟩
        | false =>
          refine wpAny_bind (wpAny_setField_rec (s := ⟨hp, g, d, tk0, os⟩) S.zip (by simp) fun g0 hz0 hs0 => ?_)
          have hz1 : IsZipB g0 z TI TO (rawInt T0) true := hz0
          exact wpAny_pure ⟨g0, true, rfl, ⟨hz1, hs0.extBut _ _ D.zTI S.ti, hs0.extBut _ _ D.zTO S.out, S.len, fun q hq => (S.iter q hq).at fun o e => hs0.extBut _ _ (D.iz q hq).1 e, fun q hq => (S.tup q hq).at fun o e => hs0.extBut _ _ (D.tz q hq).1 e⟩, hs0⟩
  · obtain ⟨hp1, b1, rfl, S1, sb⟩ := hr
    have nex : ∀ q ∈ its, q.2.2[i]? = none := fun q hq => Array.getElem?_eq_none (Nat.le_of_eq (hi q hq))
    cases r with
    | true =>
      simp only [if_true]
      refine wpAny_bind (wpAny_rule ?_)
      refine wpAny_bind (wpAny_field (s := ⟨hp1, g, d, tk0, os⟩) S1.zip rfl (x := .ref TO) rfl ?_)
      refine wpAny_bind (wpAny_setField_rec (s := ⟨hp1, g, d, tk0, os⟩) S1.zip (by simp) fun g0 hz0 hs0 => ?_)
      have L0 : ZLoop hp g0 z TI TO its [] its i .ellipsis b1 old := by
        have l1 : ZLoop hp hp1 z TI TO its [] its i x b1 old := ⟨rfl, S1.zip, S1.ti, S1.out, fun q hq => (by cases hq), S1.iter, S1.tup, fun c o c1 c2 c3 e => sb.extBut _ _ c1 e, by rw [sb.1]⟩
        exact l1.zipped D hs0 hz0
      refine wpAny_bind ?_
      refine wpAny_forIn_list _ (fun rest b s' => s' = ⟨g0, g, d, tk0, os⟩ ∧ rest = (its.map fun q => Value.ref q.1).zipIdx) _ (fun y rest b s' hI => ?_) (fun b s' hI => ?_) _ _ ⟨rfl, rfl⟩
      · obtain ⟨rfl, er⟩ := hI
        obtain ⟨q, its', rfl⟩ : ∃ q its', its = q :: its' := by
          cases its with
          | nil => exact absurd rfl hne
          | cons q its' => exact ⟨q, its', rfl⟩
        rw [List.map_cons, List.zipIdx_cons] at er
        obtain ⟨rfl, rfl⟩ := List.cons.inj er
        refine wpAny_bind (wpAny_onRaise ?_)
        show wpAny _ _ (Builtin.SmallTypes.nextOf (.ref q.1) >>= _) _ _ _
        refine wpAny_bind (wpAny_nextOf_tuple_end (s := ⟨g0, g, d, tk0, os⟩) hh (L0.left q List.mem_cons_self) (L0.tup q List.mem_cons_self) (nex q List.mem_cons_self) fun h' e hq he => ?_)
        obtain ⟨qz, qTI, qTO⟩ := D.iz q List.mem_cons_self
        obtain ⟨oe, hoe, hce⟩ := he
        have hzq : IsZipB h' z TI TO .ellipsis b1 := hq _ _ (Ne.symm qz) L0.zip
        have hez : e ≠ z := fun y => by
          subst y
          unfold IsZipB at hzq
          rw [hzq] at hoe
          cases hoe
          simp at hce
        refine wpAny_setField_rec (s := ⟨h', g, d, tk0, os⟩) hzq (by simp) fun h2 _ hs2 => ?_
        exact hE h2 e (fun c o c1 c2 c3 y => hs2.extBut _ _ c1 (hq _ _ (fun z => c3 (by rw [z]; exact List.mem_map.mpr ⟨q, List.mem_cons_self, rfl⟩)) (L0.keep c o c1 c2 c3 y))) ⟨oe, hs2.extBut _ _ hez hoe, hce⟩
      · obtain ⟨rfl, er⟩ := hI
        cases its with
        | nil => exact absurd rfl hne
        | cons q its' => cases er
    | false =>
      simp only [Bool.false_eq_true, if_false]
      refine wpAny_bind ?_
      refine MeetsSeq2.wpAny_forIn_array _ (fun rest b s' => s' = ⟨hp1, g, d, tk0, os⟩ ∧ rest = (its.map fun q => Value.ref q.1)) _ (fun y rest b s' hI => ?_) (fun b s' hI => ?_) _ _ ⟨rfl, by simp⟩
      · obtain ⟨rfl, er⟩ := hI
        obtain ⟨q, its', rfl⟩ : ∃ q its', its = q :: its' := by
          cases its with
          | nil => exact absurd rfl hne
          | cons q its' => exact ⟨q, its', rfl⟩
        rw [List.map_cons] at er
        obtain ⟨rfl, rfl⟩ := List.cons.inj er
        refine wpAny_bind (wpAny_holding ?_)
        show wpAny _ _ (Builtin.SmallTypes.nextOf (.ref q.1) >>= _) _ _ _
        refine wpAny_bind (wpAny_nextOf_tuple_end (s := ⟨hp1, g, d, tk0, os⟩) hh (S1.iter q List.mem_cons_self) (S1.tup q List.mem_cons_self) (nex q List.mem_cons_self) fun h' e hq he => ?_)
        exact hE h' e (fun c o c1 c2 c3 y => hq _ _ (fun z => c3 (by rw [z]; exact List.mem_map.mpr ⟨q, List.mem_cons_self, rfl⟩)) (sb.extBut _ _ c1 y)) he
      · obtain ⟨rfl, er⟩ := hI
        cases its with
        | nil => exact absurd rfl hne
        | cons q its' => cases er
/-! next -/
theorem pyNext_zipN_item {x : Value} {b : Bool} {old : List Value} {Q : Option Value → Shared → Prop} (D : ZApart z TI TO its) (S : ZState s.heap z TI TO its i x b old) (hne : its ≠ []) (hx : x = .none ∨ ∃ T : Nat, x = rawInt T) (hi : ∀ q ∈ its, i < q.2.2.size) (small : its.length ≤ 1000)
    (hQ : ∀ h' T x' b' old', (x' = .none ∨ ∃ T : Nat, x' = rawInt T) → ZState h' z TI TO its (i + 1) x' b' old' → s.heap.objs.size ≤ T → h'.get? T = some { cls := .type "tuple", data := .seq (its.map (zval i)).toArray } → (T ≠ z ∧ T ≠ TO ∧ T ∉ its.map (·.1)) →
      (∀ c o, c ≠ z → c ≠ TO → c ∉ its.map (·.1) → s.heap.get? c = some o → h'.get? c = some o) → Q (some (.ref T)) { s with heap := h' }) :
    wpAny (model prog w) A (pyNext (.ref z)) Q E s := by
  have hT : s.TypeIs (.ref z) "zip" := ⟨_, S.zip, rfl⟩
  unfold pyNext
  exact wpAny_bind (wpAny_attempt (wpAny_callSpecial?_slot (name := Str.ofString "__next__") hT F.slot_zip_next
    (wpAny_call_entry F.slot_zip_next hT F.entry_zip_next
      (zipN_item D S hne hx hi small fun h' T x' b' old' a1 a2 a3 a4 a5 a6 => wpAny_pure (hQ h' T x' b' old' a1 a2 a3 a4 a5 a6)) (F.args_zip_next_1 _))))
theorem pyNext_zipN_end {x : Value} {b : Bool} {old : List Value} {Q : Option Value → Shared → Prop} (hh : A.handled = none) (D : ZApart z TI TO its) (S : ZState s.heap z TI TO its i x b old) (hne : its ≠ []) (hx : x = .none ∨ ∃ T : Nat, x = rawInt T) (hi : ∀ q ∈ its, q.2.2.size = i)
    (hQ : ∀ h', (∀ c o, c ≠ z → c ≠ TO → c ∉ its.map (·.1) → s.heap.get? c = some o → h'.get? c = some o) → Q none { s with heap := h' }) :
    wpAny (model prog w) A (pyNext (.ref z)) Q E s := by
  have hT : s.TypeIs (.ref z) "zip" := ⟨_, S.zip, rfl⟩
  unfold pyNext
  refine wpAny_bind (wpAny_attempt (wpAny_callSpecial?_slot (name := Str.ofString "__next__") hT F.slot_zip_next
    (wpAny_call_entry F.slot_zip_next hT F.entry_zip_next (zipN_end (A := A.in1) hh D S hne hx hi fun h' e hk he => ?_) (F.args_zip_next_1 _))))
  obtain ⟨o, ho, hc⟩ := he
  refine wpAny_bind (wpAny_isInstance (T := "StopIteration") (b := true) ⟨o, ho, hc⟩ isSubtype_stop ?_)
  exact wpAny_pure (hQ _ hk)
end
end L3
namespace L3
open PySem L2
theorem tc_zip (us : List Value) : checkTypeCall "zip" ⟨us, []⟩ = pure () := by kernel_rfl
theorem ao_obj (obj : Value) (us : List Value) : argsOk "object.__init__" ⟨obj :: us, []⟩ := by unfold argsOk; kernel_rfl
theorem nc_zip1 (a : Value) : checkBuiltinCall "zip.__new__" ⟨[.type "zip", a], []⟩ = pure () := by kernel_rfl
theorem nc_zip2 (a b : Value) : checkBuiltinCall "zip.__new__" ⟨[.type "zip", a, b], []⟩ = pure () := by kernel_rfl
theorem nc_zip3 (a b c : Value) : checkBuiltinCall "zip.__new__" ⟨[.type "zip", a, b, c], []⟩ = pure () := by kernel_rfl
theorem nc_zip4 (a b c d : Value) : checkBuiltinCall "zip.__new__" ⟨[.type "zip", a, b, c, d], []⟩ = pure () := by kernel_rfl
theorem nc_zip5 (a b c d e : Value) : checkBuiltinCall "zip.__new__" ⟨[.type "zip", a, b, c, d, e], []⟩ = pure () := by kernel_rfl
theorem nc_zip6 (a b c d e f : Value) : checkBuiltinCall "zip.__new__" ⟨[.type "zip", a, b, c, d, e, f], []⟩ = pure () := by kernel_rfl
theorem nc_zip7 (a b c d e f g : Value) : checkBuiltinCall "zip.__new__" ⟨[.type "zip", a, b, c, d, e, f, g], []⟩ = pure () := by kernel_rfl
theorem nc_zip8 (a b c d e f g h : Value) : checkBuiltinCall "zip.__new__" ⟨[.type "zip", a, b, c, d, e, f, g, h], []⟩ = pure () := by kernel_rfl
theorem nc_zip9 (a b c d e f g h i : Value) : checkBuiltinCall "zip.__new__" ⟨[.type "zip", a, b, c, d, e, f, g, h, i], []⟩ = pure () := by kernel_rfl
theorem nc_zip10 (a b c d e f g h i j : Value) : checkBuiltinCall "zip.__new__" ⟨[.type "zip", a, b, c, d, e, f, g, h, i, j], []⟩ = pure () := by kernel_rfl
theorem nc_zip11 (a b c d e f g h i j k : Value) : checkBuiltinCall "zip.__new__" ⟨[.type "zip", a, b, c, d, e, f, g, h, i, j, k], []⟩ = pure () := by kernel_rfl
theorem nc_zip12 (a b c d e f g h i j k l : Value) : checkBuiltinCall "zip.__new__" ⟨[.type "zip", a, b, c, d, e, f, g, h, i, j, k, l], []⟩ = pure () := by kernel_rfl
theorem nc_zip : ∀ us : List Value, 0 < us.length → us.length ≤ 12 → checkBuiltinCall "zip.__new__" ⟨.type "zip" :: us, []⟩ = pure ()
  | [], h, _ => absurd h (Nat.lt_irrefl 0)
  | [a], _, _ => nc_zip1 a
  | [a, b], _, _ => nc_zip2 a b
  | [a, b, c], _, _ => nc_zip3 a b c
  | [a, b, c, d], _, _ => nc_zip4 a b c d
  | [a, b, c, d, e], _, _ => nc_zip5 a b c d e
  | [a, b, c, d, e, f], _, _ => nc_zip6 a b c d e f
  | [a, b, c, d, e, f, g], _, _ => nc_zip7 a b c d e f g
  | [a, b, c, d, e, f, g, h], _, _ => nc_zip8 a b c d e f g h
  | [a, b, c, d, e, f, g, h, i], _, _ => nc_zip9 a b c d e f g h i
  | [a, b, c, d, e, f, g, h, i, j], _, _ => nc_zip10 a b c d e f g h i j
  | [a, b, c, d, e, f, g, h, i, j, k], _, _ => nc_zip11 a b c d e f g h i j k
  | [a, b, c, d, e, f, g, h, i, j, k, l], _, _ => nc_zip12 a b c d e f g h i j k l
  | _ :: _ :: _ :: _ :: _ :: _ :: _ :: _ :: _ :: _ :: _ :: _ :: _ :: _, _, h => by simp only [List.length_cons] at h; omega
end L3
namespace L3
open PySem L2
/-! ### a zip is made -/
def itObj (t : Addr) : Obj := { cls := .type "tuple_iterator", data := .fields #[.ref t, .int 0 0] }
def pushIts (h : Heap) : List Addr → Heap
  | [] => h
  | t :: ts => pushIts (h.push (itObj t)) ts
def itAddrs (n : Nat) (k : Nat) : List Addr := (List.range k).map fun j => n + j
theorem push_size : ∀ (ts : List Addr) (h : Heap), (pushIts h ts).objs.size = h.objs.size + ts.length
  | [], _ => rfl
  | t :: ts, h => by
    show (pushIts (h.push (itObj t)) ts).objs.size = _
    rw [push_size ts, Heap.size_push, List.length_cons]
    omega
theorem push_keep : ∀ (ts : List Addr) (h : Heap) (c : Addr) (o : Obj), h.get? c = some o → (pushIts h ts).get? c = some o
  | [], _, _, _, e => e
  | t :: ts, h, c, o, e => push_keep ts _ c o (Heap.get?_push_of_some _ e)
theorem push_snoc : ∀ (ts : List Addr) (t : Addr) (h : Heap), pushIts h (ts ++ [t]) = (pushIts h ts).push (itObj t)
  | [], t, h => rfl
  | u :: ts, t, h => push_snoc ts t _
theorem push_get : ∀ (ts : List Addr) (h : Heap) (j : Nat) (t : Addr), ts[j]? = some t → (pushIts h ts).get? (h.objs.size + j) = some (itObj t)
  | [], h, j, t, e => by simp at e
  | u :: ts, h, 0, t, e => by
    obtain rfl : u = t := by simpa using e
    exact push_keep ts _ _ _ (Heap.get?_push_size _ rfl)
  | u :: ts, h, j + 1, t, e => by
    have z := push_get ts (h.push (itObj u)) j t (by simpa using e)
    rw [Heap.size_push] at z
    have e2 : h.objs.size + (j + 1) = h.objs.size + 1 + j := by omega
    rw [e2]
    exact z
section
variable {prog : Program} {w : World} {A : Around} {E : Value → Shared → Prop} {s : Shared}
theorem wp_iterAll {ts : List Addr} {Q : List Value → Shared → Prop} (ht : ∀ t ∈ ts, ∃ items, s.heap.IsTuple t items) (h : Q ((itAddrs s.heap.objs.size ts.length).map .ref) { s with heap := pushIts s.heap ts }) :
    wpAny (model prog w) A (Builtin.SmallTypes.iterAll (ts.map .ref)) Q E s := by
  obtain ⟨hp, g, d, tk, os⟩ := s
  unfold Builtin.SmallTypes.iterAll
  refine wpAny_bind ?_
  refine wpAny_forIn_list _ (fun rest b s' => ∃ pre suf : List Addr, ts = pre ++ suf ∧ rest = suf.map .ref ∧ b = ((itAddrs hp.objs.size pre.length).map Value.ref).toArray ∧ s' = ⟨pushIts hp pre, g, d, tk, os⟩) _ (fun y rest b s' hI => ?_) (fun b s' hI => ?_) _ _ ?_
  · obtain ⟨pre, suf, et, er, rfl, rfl⟩ := hI
    cases suf with
    | nil => cases er
    | cons t suf =>
      rw [List.map_cons] at er
      obtain ⟨rfl, rfl⟩ := List.cons.inj er
      obtain ⟨items, hit⟩ := ht t (by rw [et]; exact List.mem_append_right _ List.mem_cons_self)
      refine wpAny_bind (wpAny_holding (wpAny_pyIter_tuple (s := ⟨pushIts hp pre, g, d, tk, os⟩) (hit.at fun o e => push_keep _ _ _ _ e) ?_))
      refine wpAny_pure ⟨pre ++ [t], suf, by rw [et]; simp, rfl, ?_, ?_⟩
      · show Array.push _ _ = _
        rw [List.push_toArray, push_size]
        congr 1
        unfold itAddrs
        rw [List.length_append, List.length_cons, List.length_nil, Nat.zero_add, List.range_succ, List.map_append, List.map_append]
        rfl
      · rw [push_snoc]
        rfl
  · obtain ⟨pre, suf, et, er, rfl, rfl⟩ := hI
    have hsuf : suf = [] := by
      cases suf with
      | nil => rfl
      | cons q suf => cases er
    subst hsuf
    have e2 : pre = ts := by rw [et, List.append_nil]
    subst e2
    refine wpAny_pure ?_
    show Q (((itAddrs hp.objs.size pre.length).map Value.ref).toArray.toList) _
    rw [List.toList_toArray]
    exact h
  · exact ⟨[], ts, rfl, rfl, rfl, rfl⟩
abbrev zgT (h : Heap) (ts : List Addr) : Heap := (pushIts h ts).push { cls := .type "tuple", data := .seq ((itAddrs h.objs.size ts.length).map Value.ref).toArray }
abbrev zgO (h : Heap) (ts : List Addr) : Heap := (zgT h ts).push { cls := .type "tuple", data := .seq (((itAddrs h.objs.size ts.length).map Value.ref).map fun _ => Value.none).toArray }
abbrev zgZ (h : Heap) (ts : List Addr) : Heap := (zgO h ts).push { cls := .type "zip", data := .fields #[.none, .bool false, .bool false, .ref (pushIts h ts).objs.size, .ref (zgT h ts).objs.size] }
theorem meets_zip_newN (ts : List Addr) (small : ts.length ≤ 1000) :
    Meets (Builtin.«zip.__new__» ⟨.type "zip" :: ts.map .ref, []⟩) (fun _ R s => (∀ t ∈ ts, ∃ items, s.heap.IsTuple t items) ∧
      R (.ok (.ret (.ref (zgO s.heap ts).objs.size))) { s with heap := zgZ s.heap ts }) :=
  .of_wp fun prog w A R s h => by
    obtain ⟨hp, g, d, tk, os⟩ := s
    obtain ⟨h1, h⟩ := h
    have hsub := sub_zip
    have sz : 1000 ≤ sizeLine := by decide
    have q1 : ∀ {A' : Around} {E : Value → Shared → Prop} {Q : List Value → Shared → Prop}, Q ((itAddrs hp.objs.size ts.length).map .ref) ⟨pushIts hp ts, g, d, tk, os⟩ → wpAny (model prog w) A' (Builtin.SmallTypes.iterAll (ts.map .ref)) Q E ⟨hp, g, d, tk, os⟩ := fun q => wp_iterAll h1 q
    have l1 : ((itAddrs hp.objs.size ts.length).map Value.ref).length ≤ sizeLine := by
      unfold itAddrs
      rw [List.length_map, List.length_map, List.length_range]
      omega
    have l2 : (((itAddrs hp.objs.size ts.length).map Value.ref).map fun _ => Value.none).length ≤ sizeLine := by
      rw [List.length_map]
      exact l1
    have q2 : ∀ {A' : Around} {E : Value → Shared → Prop} {Q : Value → Shared → Prop}, Q (.ref (pushIts hp ts).objs.size) ⟨zgT hp ts, g, d, tk, os⟩ → wpAny (model prog w) A' (newTuple ((itAddrs hp.objs.size ts.length).map .ref)) Q E ⟨pushIts hp ts, g, d, tk, os⟩ := fun q => wpAny_newTuple (s := ⟨pushIts hp ts, g, d, tk, os⟩) q l1
    have q3 : ∀ {A' : Around} {E : Value → Shared → Prop} {Q : Value → Shared → Prop}, Q (.ref (zgT hp ts).objs.size) ⟨zgO hp ts, g, d, tk, os⟩ → wpAny (model prog w) A' (newTuple (((itAddrs hp.objs.size ts.length).map Value.ref).map fun _ => Value.none)) Q E ⟨zgT hp ts, g, d, tk, os⟩ := fun q => wpAny_newTuple (s := ⟨zgT hp ts, g, d, tk, os⟩) q l2
    unfold Builtin.«zip.__new__»
    wp_walk using q1, q2, q3
    exact ⟨_, rfl, h⟩
/-- zip of so many tuples: its new cells -/
theorem call_zipN {ts : List Addr} {Q : Value → Shared → Prop} (l0 : 0 < ts.length) (l1 : ts.length ≤ 12) (ht : ∀ t ∈ ts, ∃ items, s.heap.IsTuple t items)
    (h : Q (.ref (zgO s.heap ts).objs.size) { s with heap := zgZ s.heap ts }) : wpAny (model prog w) A (call (.type "zip") (ts.map .ref)) Q E s := by
  refine callType_new F.called_zip (by decide) (tc_zip _) (nc_zip _ (by rw [List.length_map]; exact l0) (by rw [List.length_map]; exact l1)) (fun obj => ao_obj obj _) F.entry_zip_new
    (meets_zip_newN ts (by omega)) ⟨ht, ?_⟩
  exact ⟨⟨_, Heap.get?_push_size _ rfl, rfl⟩, h⟩
end
end L3
namespace L3
open PySem L2
/-! ### list(zip(..)) of any number of tuples of one length -/
theorem zip_no_len : typeLookup (.type "zip") "__len__" = pure none := by rw [typeLookup_type, builtinLookup_eq_fast]; kernel_rfl
theorem zip_no_hint : typeLookup (.type "zip") "__length_hint__" = pure none := by rw [typeLookup_type, builtinLookup_eq_fast]; kernel_rfl
inductive ZRel : List (Addr × List V) → List ZI → Prop
  | nil : ZRel [] []
  | cons {c : Addr × List V} {q : ZI} {cs : List (Addr × List V)} {its : List ZI} : q.2.1 = c.1 → Vals c.2 q.2.2.toList → ZRel cs its → ZRel (c :: cs) (q :: its)
def zrow (cs : List (Addr × List V)) (i : Nat) : List V := cs.map fun c => c.2.getD i .non
theorem ZRel.row {i : Nat} : ∀ {cs : List (Addr × List V)} {its : List ZI}, ZRel cs its → (∀ q ∈ its, i < q.2.2.size) → Vals (zrow cs i) (its.map (zval i))
  | _, _, .nil, _ => .nil
  | _, _, .cons (q := q) e v r, h => by
    refine .cons (vals_at v ?_) (ZRel.row r fun q' hq => h q' (List.mem_cons_of_mem _ hq))
    rw [Array.toArray_toList]
    unfold zval
    rw [Array.getD_eq_getD_getElem?, Array.getElem?_eq_getElem (h q List.mem_cons_self)]
    rfl
theorem ZRel.len : ∀ {cs : List (Addr × List V)} {its : List ZI}, ZRel cs its → its.length = cs.length
  | _, _, .nil => rfl
  | _, _, .cons _ _ r => by rw [List.length_cons, List.length_cons, r.len]
theorem sub_one_more {m N : Nat} (h : N + 1 ≤ m) : m - N = (m - (N + 1)) + 1 := by omega
def zits : Nat → List (Addr × Array Value) → List ZI
  | _, [] => []
  | N, (t, a) :: r => (N, t, a) :: zits (N + 1) r
theorem zits_mem : ∀ {N : Nat} {l : List (Addr × Array Value)} {q : ZI}, q ∈ zits N l → N ≤ q.1 ∧ q.1 < N + l.length ∧ (q.2.1, q.2.2) ∈ l ∧ (l.map (·.1))[q.1 - N]? = some q.2.1
  | N, [], q, h => by cases h
  | N, (t, a) :: r, q, h => by
    rcases List.mem_cons.mp h with e | h
    · subst e
      refine ⟨Nat.le_refl _, Nat.lt_add_of_pos_right (Nat.succ_pos _), List.mem_cons_self, ?_⟩
      show (t :: r.map (·.1))[N - N]? = some t
      rw [Nat.sub_self]
      rfl
    · obtain ⟨h1, h2, h3, h4⟩ := zits_mem h
      refine ⟨Nat.le_of_succ_le h1, ?_, List.mem_cons_of_mem _ h3, ?_⟩
      · exact Nat.lt_of_lt_of_eq h2 (show N + 1 + r.length = N + (r.length + 1) by omega)
      rw [List.map_cons]
      have e : q.1 - N = (q.1 - (N + 1)) + 1 := sub_one_more h1
      rw [e]
      exact h4
theorem zits_fst : ∀ (N : Nat) (l : List (Addr × Array Value)), (zits N l).map (·.1) = (List.range l.length).map (N + ·)
  | N, [] => rfl
  | N, (t, a) :: r => by
    show N :: (zits (N + 1) r).map (·.1) = _
    rw [zits_fst (N + 1) r, List.length_cons, List.range_succ_eq_map, List.map_cons, List.map_map]
    show N :: _ = N :: _
    congr 1
    refine List.map_congr_left fun j _ => ?_
    show N + 1 + j = N + (j + 1)
    omega
theorem zits_nd : ∀ (N : Nat) (l : List (Addr × Array Value)), ((zits N l).map (·.1)).Nodup
  | N, [] => List.nodup_nil
  | N, (t, a) :: r => by
    show (N :: (zits (N + 1) r).map (·.1)).Nodup
    refine List.nodup_cons.mpr ⟨fun h => ?_, zits_nd (N + 1) r⟩
    obtain ⟨q, hq, e⟩ := List.mem_map.mp h
    have := (zits_mem hq).1
    rw [e] at this
    omega
theorem zits_len : ∀ (N : Nat) (l : List (Addr × Array Value)), (zits N l).length = l.length
  | _, [] => rfl
  | N, (t, a) :: r => by
    show (zits (N + 1) r).length + 1 = _
    rw [zits_len (N + 1) r]
    rfl
/-- the walk that fills the list at S: P i acc H, acc stands in the list -/
def ZRun (cs : List (Addr × List V)) (n : Nat) (S : Addr) (P : Nat → List V → Hp → Prop) (R : Hp → Prop) : Prop :=
  ∀ i acc H, P i acc H → H S = some (.lst acc) ∧ acc.length = i ∧ (i < n → ∀ T, H T = none → P (i + 1) (acc ++ [.ref T]) (upd (upd H T (.tup (zrow cs i))) S (.lst (acc ++ [.ref T])))) ∧ (i = n → R H)
section
variable {X : Cx} {pins : List (Addr × Obj)} {σ : L2.St} {z TI TO S : Addr} {its : List ZI} {cs : List (Addr × List V)} {n : Nat} {A1 : Around}
theorem ZState.keep {h h' : Heap} {i : Nat} {x : Value} {b : Bool} {old : List Value} (st : ZState h z TI TO its i x b old) (k : ∀ c o, c ∈ z :: TI :: TO :: (its.map (·.1) ++ its.map (·.2.1)) → h.get? c = some o → h'.get? c = some o) : ZState h' z TI TO its i x b old :=
  ⟨k _ _ (by simp) st.zip, k _ _ (by simp) st.ti, k _ _ (by simp) st.out, st.len, fun q hq => (st.iter q hq).at fun o e => k _ _ (by simp; exact .inr (.inr (.inr (.inl ⟨_, _, hq⟩)))) e, fun q hq => (st.tup q hq).at fun o e => k _ _ (by simp; exact .inr (.inr (.inr (.inr ⟨_, _, hq⟩)))) e⟩
theorem zl_loop {P : Nat → List V → Hp → Prop} {R : Hp → Prop} {Rs : Result → Shared → Prop} (hh : A1.handled = none) (D : ZApart z TI TO its) (hne : its ≠ []) (small : its.length ≤ 1000) (rel : ZRel cs its) (hsz : ∀ q ∈ its, q.2.2.size = n) (hn : n ≤ sizeLine)
    (run : ZRun cs n S P R) (hdone : ∀ H s, Inv X pins σ H s → R H → Rs (.ok (.ret .none)) s) :
    ∀ (k i : Nat) (acc : List V) (H : Hp) (s : Shared) (x : Value) (b : Bool) (old : List Value), n - i = k → i ≤ n → Inv X pins σ H s → (x = .none ∨ ∃ T : Nat, x = rawInt T) → ZState s.heap z TI TO its i x b old → (∀ c ∈ z :: TI :: TO :: its.map (·.1), FpOk X pins H c) → P i acc H →
    codeAny (model X.prog X.w) A1 (.builtin "list.extend.loop" ⟨[.ref S, .ref z, .none], []⟩) Rs s := by
  intro k
  induction k with
  | zero =>
    intro i acc H s x b old hk hi I hx st hf hP
    have e : i = n := by omega
    subst e
    obtain ⟨hS, hl, _, hR⟩ := run _ _ _ hP
    refine codeAny_builtin PySem.F.entry_extend_loop ?_
    rw [Around.under_plainId PySem.F.plain_extend_loop _]
    show wpAny _ A1.in1 (pyNext (.ref z) >>= _) _ _ s
    refine wpAny_bind (pyNext_zipN_end (A := A1.in1) hh D st hne hx hsz fun h' kp => ?_)
    refine wpAny_pure (hdone H _ (I.turnedL (t' := s.toks) (ch := z :: TO :: its.map (·.1)) (fun c o hc e => ?_) fun c hc => hf c ?_) (hR rfl))
    · simp only [List.mem_cons, not_or] at hc
      exact kp c o hc.1 hc.2.1 hc.2.2 e
    · rcases List.mem_cons.mp hc with e | hc
      · rw [e]; exact List.mem_cons_self
      · exact List.mem_cons_of_mem _ (List.mem_cons_of_mem _ hc)
  | succ k ih =>
    intro i acc H s x b old hk hi I hx st hf hP
    have hlt : i < n := by omega
    obtain ⟨hS, hl, hstep, _⟩ := run _ _ _ hP
    refine codeAny_builtin PySem.F.entry_extend_loop ?_
    rw [Around.under_plainId PySem.F.plain_extend_loop _]
    show wpAny _ A1.in1 (pyNext (.ref z) >>= _) _ _ s
    refine wpAny_bind (pyNext_zipN_item (A := A1.in1) D st hne hx (fun q hq => by rw [hsz q hq]; exact hlt) small fun h' T x' b' old' hx' st' hT eT apT kp => ?_)
    have hTn : H T = none := I.hok.fresh hT
    have lrow : (zrow cs i).length ≤ sizeLine := by
      unfold zrow
      rw [List.length_map, ← rel.len]
      exact Nat.le_trans small (by decide)
    have new : ObjOk X.prog X.w (upd H T (.tup (zrow cs i))) h' T (.tup (zrow cs i)) := ⟨lrow, _, rel.row fun q hq => by rw [hsz q hq]; exact hlt, ⟨_, eT, rfl, _, rfl⟩⟩
    have I1 : Inv X pins σ (upd H T (.tup (zrow cs i))) { s with heap := h' } := I.turnedNew (t' := s.toks) (ch := z :: TO :: its.map (·.1)) (fun c o hc e => by
      simp only [List.mem_cons, not_or] at hc
      exact kp c o hc.1 hc.2.1 hc.2.2 e) (fun c hc => hf c (by
      rcases List.mem_cons.mp hc with e | hc
      · rw [e]; exact List.mem_cons_self
      · exact List.mem_cons_of_mem _ (List.mem_cons_of_mem _ hc))) hT new
    have hTS : S ≠ T := fun e => by
      rw [e, hTn] at hS
      cases hS
    have hS1 : upd H T (.tup (zrow cs i)) S = some (.lst acc) := by
      rw [upd_ne hTS]
      exact hS
    show wpAny _ A1.in1 (updateSeq S (·.push (.ref T)) >>= _) _ _ _
    obtain ⟨hz, vals, kk, r2, hl2, e⟩ := I1.lstM hS1
    have hb : acc.length < sizeLine := by rw [hl]; omega
    refine wpAny_bind (wpAny_updateSeq e rfl (wpAny_pure ⟨plainId_quiet PySem.F.plain_extend_loop _, ?_⟩) (by rw [List.size_toArray]; omega) (by show (vals.toArray.push (.ref T)).size ≤ sizeLine + 1; rw [Array.size_push, List.size_toArray]; omega))
    have I2 := I1.lset (its' := vals ++ [.ref T]) (ys := acc ++ [.ref T]) (t' := s.toks) hS1 e (f := fun a => a.push (.ref T)) (by simp) (r2.append (Paired.cons (show RelV (V.ref T) (.ref T) from rfl) .nil)) (by rw [List.length_append, List.length_singleton]; omega)
    have hSn : ∀ c ∈ z :: TI :: TO :: its.map (·.1), c ≠ S := fun c hc e => by
      have := (hf c hc).1
      rw [e, hS] at this
      cases this
    have hTI : TI ≠ T := fun e => by
      have := Heap.lt_size st.ti
      rw [e] at this
      exact Nat.lt_irrefl _ (Nat.lt_of_lt_of_le this hT)
    refine ih (i + 1) _ _ _ x' b' old' (by omega) hlt I2 hx' (st'.keep fun c o hc e2 => ?_) (fun c hc => ?_) (hstep hlt T hTn)
    · have hcS : c ≠ S := fun w => by
        subst w
        simp only [List.mem_cons, List.mem_append] at hc
        rcases hc with w | w | w | w | w
        · exact hSn c (by simp [w]) rfl
        · exact hSn c (by simp [w]) rfl
        · exact hSn c (by simp [w]) rfl
        · exact hSn c (List.mem_cons_of_mem _ (List.mem_cons_of_mem _ (List.mem_cons_of_mem _ w))) rfl
        · obtain ⟨q, hq, w⟩ := List.mem_map.mp w
          obtain ⟨o2, e3, c3, _⟩ := st'.tup q hq
          rw [w] at e3
          rw [e] at e3
          cases e3
          simp at c3
      exact (Heap.get?_update_other _ _ (Ne.symm hcS)).trans e2
    · obtain ⟨f1, f2⟩ := hf c hc
      refine ⟨?_, f2⟩
      have hcT : c ≠ T := by
        simp only [List.mem_cons] at hc
        rcases hc with w | w | w | w
        · rw [w]; exact Ne.symm apT.1
        · rw [w]; exact hTI
        · rw [w]; exact Ne.symm apT.2.1
        · exact fun w2 => apT.2.2 (w2 ▸ w)
      rw [upd_ne (hSn c hc), upd_ne hcT]
      exact f1
end
end L3
namespace L3
open PySem L2
section
variable {X : Cx} {pins : List (Addr × Obj)} {σ : L2.St} {z TI TO S : Addr} {its : List ZI} {cs : List (Addr × List V)} {n : Nat} {A1 : Around}
theorem ZState.other {h h' : Heap} {i : Nat} {x : Value} {b : Bool} {old : List Value} {its0 : List Value} {kk : Nat} (st : ZState h z TI TO its i x b old) (hS : h.get? S = some { cls := .type "list", data := .seq its0.toArray kk }) (k : ∀ c o, c ≠ S → h.get? c = some o → h'.get? c = some o) : ZState h' z TI TO its i x b old := by
  refine st.keep fun c o hc e => k c o (fun w => ?_) e
  subst w
  simp only [List.mem_cons, List.mem_append] at hc
  rcases hc with w | w | w | w | w
  · subst w
    have q := st.zip
    unfold IsZipB at q
    rw [q] at hS
    simp at hS
  · subst w
    rw [st.ti] at hS
    simp at hS
  · subst w
    rw [st.out] at hS
    simp at hS
  · obtain ⟨q, hq, w⟩ := List.mem_map.mp w
    obtain ⟨o2, e3, c3, _⟩ := st.iter q hq
    rw [w, hS] at e3
    cases e3
    simp at c3
  · obtain ⟨q, hq, w⟩ := List.mem_map.mp w
    obtain ⟨o2, e3, c3, _⟩ := st.tup q hq
    rw [w, hS] at e3
    cases e3
    simp at c3
theorem zl_extend {P : Nat → List V → Hp → Prop} {R : Hp → Prop} {Rs : Result → Shared → Prop} {H : Hp} {s : Shared} {old : List Value} (hh : A1.handled = none) (D : ZApart z TI TO its) (hne : its ≠ []) (small : its.length ≤ 1000) (rel : ZRel cs its) (hsz : ∀ q ∈ its, q.2.2.size = n) (hn : n ≤ sizeLine)
    (run : ZRun cs n S P R) (hdone : ∀ H s, Inv X pins σ H s → R H → Rs (.ok (.ret .none)) s) (I : Inv X pins σ H s) (st : ZState s.heap z TI TO its 0 .none false old) (hf : ∀ c ∈ z :: TI :: TO :: its.map (·.1), FpOk X pins H c) (hP : P 0 [] H) :
    wpAny (model X.prog X.w) A1.in1 (Builtin.List.listExtendWith (.ref S) (.ref z) .none)
      (fun fin s' => match fin with | .done f => Rs (.ok f) s' | .again c' => c'.quiet = true ∧ codeAny (model X.prog X.w) A1 c' Rs s') (fun e s' => Rs (.error e) s') s := by
  obtain ⟨hq, _, _, _⟩ := run _ _ _ hP
  have hSz : S ≠ z := fun e => by
    have := (hf z List.mem_cons_self).1
    rw [← e, hq] at this
    cases this
  have hT : s.TypeIs (.ref z) "zip" := ⟨_, st.zip, rfl⟩
  unfold Builtin.List.listExtendWith
  refine wpAny_bind (wpAny_typeOf hT ?_)
  have h1 : Builtin.List.listSameRef (.ref S) (.ref z) = false := by simp [Builtin.List.listSameRef, hSz]
  have h2 : (Value.type "zip" == Value.type "list") = false := by decide
  have h3 : (Value.type "zip" == Value.type "tuple") = false := by decide
  simp only [h1, h2, h3, Bool.or_false, Bool.false_eq_true, if_false]
  refine wpAny_bind (wpAny_pyIter_zip (TI := TI) (TO := TO) (f0 := .none) st.zip ?_)
  refine wpAny_bind (wpAny_holding ?_)
  unfold Builtin.List.listLengthHint
  refine wpAny_bind (wpAny_specialOf hT zip_no_len ?_)
  show wpAny _ A1.in1 (specialOf (Value.ref z) (Str.ofString "__length_hint__") >>= _) _ _ _
  refine wpAny_bind (wpAny_specialOf hT zip_no_hint ?_)
  refine wpAny_pure ?_
  show wpAny _ A1.in1 (rule "list.extend.makes-room" >>= fun _ => Builtin.List.listTouch (.ref S) >>= fun _ =>
    again (.builtin "list.extend.loop" ⟨[.ref S, .ref z, .none], []⟩)) _ _ _
  obtain ⟨z0, vals, k, r3, hl3, e3⟩ := I.lstM hq
  cases r3
  refine wpAny_bind (wpAny_rule ?_)
  refine wpAny_bind ?_
  show wpAny _ _ (updateSeq S (·.push .none) >>= fun _ => updateSeq S (·.pop)) _ _ _
  refine wpAny_bind (wpAny_updateSeq e3 rfl ?_)
  have I2 := I.lset (f := (·.push Value.none)) (its' := [Value.none]) (ys := [.non]) (t' := s.toks) hq e3 (by simp) (.cons rfl .nil) (by rw [List.length_singleton, sizeLine_eq]; decide)
  obtain ⟨z4, its4, k4, r4, hl4, e4⟩ := I2.lstM upd_same
  obtain ⟨u4, rfl, ru4⟩ := r4.one
  have st2 := st.other (h' := s.heap.update S (Obj.mapSeq (·.push Value.none))) e3 fun c o hc e => (Heap.get?_update_other _ _ (Ne.symm hc)).trans e
  refine wpAny_updateSeq e4 rfl ?_ (by show 1 ≤ sizeLine; rw [sizeLine_eq]; decide) (by show 0 ≤ sizeLine + 1; exact Nat.zero_le _)
  have st3 := st2.other (h' := (s.heap.update S (Obj.mapSeq (·.push Value.none))).update S (Obj.mapSeq (·.pop))) e4 fun c o hc e => (Heap.get?_update_other _ _ (Ne.symm hc)).trans e
  have I3 := I2.lset (f := (·.pop)) (its := [u4]) (its' := []) (ys := []) (t' := s.toks) upd_same e4 (by rfl) .nil (Nat.zero_le _)
  rw [upd_upd] at I3
  have hH : upd H S (.lst []) = H := by
    funext b
    by_cases hb : b = S
    · rw [hb, upd_same, hq]
    · rw [upd_ne hb]
  rw [hH] at I3
  exact wpAny_pure ⟨plainId_quiet PySem.F.plain_extend_loop _, zl_loop hh D hne small rel hsz hn run hdone n 0 [] H _ .none false old (Nat.sub_zero n) (Nat.zero_le _) I3 (.inl rfl) st3 hf hP⟩
/-- list(z), z a zip that has not begun -/
theorem call_listZ {P : Nat → List V → Hp → Prop} {H : Hp} {s : Shared} {Q : VK} {old : List Value} (hc : X.calm = true) (D : ZApart z TI TO its) (hne : its ≠ []) (small : its.length ≤ 1000) (rel : ZRel cs its) (hsz : ∀ q ∈ its, q.2.2.size = n) (hn : n ≤ sizeLine)
    (I : Inv X pins σ H s) (st : ZState s.heap z TI TO its 0 .none false old) (hf : ∀ c ∈ z :: TI :: TO :: its.map (·.1), FpOk X pins H c) (hP : P 0 [] (upd H s.heap.objs.size (.lst []))) (run : ZRun cs n s.heap.objs.size P fun H' => Q (.ref s.heap.objs.size) H') :
    wpAny (model X.prog X.w) X.A (call (.type "list") [.ref z]) (EP X pins σ Q) X.xe s := by
  refine callType_codes (Q₁ := fun obj s₁ => obj = .ref s.heap.objs.size ∧ s₁ = { s with heap := s.heap.push { cls := .type "list", data := .seq #[] } }) PySem.F.called_list (PySem.F.typeCall_list_1 _) PySem.F.entry_list_init
    (code_list_new _ ⟨rfl, rfl⟩) fun obj s₁ h₁ => ?_
  obtain ⟨rfl, rfl⟩ := h₁
  have hS : (s.heap.push { cls := .type "list", data := .seq #[] }).get? s.heap.objs.size = some { cls := .type "list", data := .seq #[] } := Heap.get?_push_size _ rfl
  refine ⟨⟨_, hS, rfl⟩, PySem.F.args_list_init_2 _ _, ?_⟩
  have I1 : Inv X pins σ (upd H s.heap.objs.size (.lst [])) { s with heap := s.heap.push { cls := .type "list", data := .seq #[] } } := I.lnew (its := []) (t' := s.toks) .nil (Nat.zero_le _)
  show wpAny _ _ (do let old ← Builtin.List.listItems (.ref s.heap.objs.size); Builtin.List.listUpdate (.ref s.heap.objs.size) (fun _ => #[]); letGo old.toList.reverse; Builtin.List.listExtendWith (.ref s.heap.objs.size) (.ref z) .none) _ _ _
  refine wpAny_bind ?_
  unfold Builtin.List.listItems
  refine wpAny_bind (wpAny_seqItems hS rfl (wpAny_pure ?_))
  show wpAny _ _ (updateSeq s.heap.objs.size (fun _ => #[]) >>= fun _ => letGo (#[] : Array Value).toList.reverse >>= fun _ => Builtin.List.listExtendWith (.ref s.heap.objs.size) (.ref z) .none) _ _ _
  refine wpAny_bind (wpAny_updateSeq hS rfl ?_)
  have I2 := I1.lset (f := fun _ => #[]) (its := []) (its' := []) (ys := []) (t' := s.toks) upd_same hS rfl .nil (Nat.zero_le _)
  rw [upd_upd] at I2
  refine wpAny_bind (wpAny_letGo ?_)
  have st1 : ZState (s.heap.push { cls := .type "list", data := .seq #[] }) z TI TO its 0 .none false old := st.keep fun c o _ e => Heap.get?_push_of_some _ e
  have st2 := st1.other (its0 := []) (h' := (s.heap.push { cls := .type "list", data := .seq #[] }).update s.heap.objs.size (Obj.mapSeq fun _ => #[])) hS fun c o hc e => (Heap.get?_update_other _ _ (Ne.symm hc)).trans e
  refine zl_extend (A1 := X.A.in1) (Rs := wants (fun r s₂ => r = .none ∧ EP X pins σ Q (.ref s.heap.objs.size) s₂) X.xe) (I.ok.hd hc) D hne small rel hsz hn run
    (fun H' s' I' hR => ⟨rfl, .ref s.heap.objs.size, H', I', rfl, hR⟩) I2 st2 (fun c hc => ?_) hP
  obtain ⟨f1, f2⟩ := hf c hc
  refine ⟨?_, f2⟩
  have hne2 : c ≠ s.heap.objs.size := fun w => by
    subst w
    have : ∃ o, s.heap.get? s.heap.objs.size = some o := by
      simp only [List.mem_cons] at hc
      rcases hc with w | w | w | w
      · rw [w]; exact ⟨_, st.zip⟩
      · rw [w]; exact ⟨_, st.ti⟩
      · rw [w]; exact ⟨_, st.out⟩
      · obtain ⟨q, hq, w⟩ := List.mem_map.mp w
        obtain ⟨o, e, _⟩ := st.iter q hq
        rw [← w]
        exact ⟨o, e⟩
    obtain ⟨o, e⟩ := this
    exact Nat.lt_irrefl _ (Heap.lt_size e)
  rw [upd_ne hne2]
  exact f1
/-! ### the zip is made, then listed -/
theorem zits_rel : ∀ {cs : List (Addr × List V)} {l : List (Addr × Array Value)} (N : Nat), l.map (·.1) = cs.map (·.1) → (∀ (i : Nat) (c : Addr × List V) (p : Addr × Array Value), cs[i]? = some c → l[i]? = some p → Vals c.2 p.2.toList) → ZRel cs (zits N l)
  | [], [], _, _, _ => .nil
  | [], _ :: _, _, e, _ => by simp at e
  | _ :: _, [], _, e, _ => by simp at e
  | c :: cs, (t, a) :: l, N, e, h => by
    rw [List.map_cons, List.map_cons] at e
    obtain ⟨e1, e2⟩ := List.cons.inj e
    exact .cons e1 (h 0 c (t, a) rfl rfl) (zits_rel (N + 1) e2 fun i c' p h1 h2 => h (i + 1) c' p h1 h2)
theorem held_tups {H : Hp} {s : Shared} (I : Inv X pins σ H s) : ∀ {cs : List (Addr × List V)}, (∀ c ∈ cs, SqT X.K H c.1 c.2) → ∃ l : List (Addr × Array Value), l.map (·.1) = cs.map (·.1) ∧ (∀ p ∈ l, s.heap.IsTuple p.1 p.2) ∧ (∀ (i : Nat) (c : Addr × List V) (p : Addr × Array Value), cs[i]? = some c → l[i]? = some p → Vals c.2 p.2.toList) ∧ ∀ (i : Nat) (p : Addr × Array Value), l[i]? = some p → ∃ c, cs[i]? = some c
  | [], _ => by
    refine ⟨[], rfl, fun p hp => ?_, fun i c p h _ => ?_, fun i p h => ?_⟩
    · cases hp
    · simp at h
    · simp at h
  | c :: cs, h => by
    obtain ⟨t, v, p, _⟩ := I.tuple (h c List.mem_cons_self)
    obtain ⟨l, e1, e2, e3, e4⟩ := held_tups I (cs := cs) fun c' hc => h c' (List.mem_cons_of_mem _ hc)
    refine ⟨(c.1, t.toArray) :: l, by rw [List.map_cons, List.map_cons, e1], fun q hq => ?_, fun i c' q h1 h2 => ?_, fun i q h2 => ?_⟩
    · rcases List.mem_cons.mp hq with w | hq
      · subst w
        exact p
      · exact e2 q hq
    · cases i with
      | zero =>
        cases h1
        cases h2
        exact v
      | succ i => exact e3 i c' q h1 h2
    · cases i with
      | zero => exact ⟨_, rfl⟩
      | succ i => exact e4 i q h2
def rZL (K : PySem.W.Frag) : List V → Hp → VK → Prop := fun xs H Q => ∃ (cs : List (Addr × List V)) (n : Nat), xs = cs.map (fun c => V.ref c.1) ∧ cs ≠ [] ∧ cs.length ≤ 12 ∧ (∀ c ∈ cs, SqT K H c.1 c.2 ∧ c.2.length = n) ∧
  ∀ q, H q = none → ∃ P, P 0 [] (upd H q (.lst [])) ∧ ZRun cs n q P fun H' => Q (.ref q) H'
theorem vals_refs : ∀ {cs : List (Addr × List V)} {us : List Value}, Vals (cs.map fun c => V.ref c.1) us → us = (cs.map (·.1)).map Value.ref
  | [], _, r => by cases r; rfl
  | c :: cs, _, r => by
    cases r with
    | cons a r =>
      cases a
      rw [vals_refs r]
      rfl
theorem call_zipL {H : Hp} {s : Shared} {Q : VK} {xs : List V} {us : List Value} {A : Around} {E : Value → Shared → Prop} (hc : X.calm = true) (I : Inv X pins σ H s) (rv : Vals xs us) (h : rZL X.K xs H Q) :
    wpAny (model X.prog X.w) A (call (.type "zip") us) (fun u s' => wpAny (model X.prog X.w) X.A (call (.type "list") [u]) (EP X pins σ Q) X.xe s') E s := by
  obtain ⟨cs, n, ex, hne, hl, hcs, hq⟩ := h
  subst ex
  obtain rfl := vals_refs rv
  obtain ⟨l, e1, e2, e3, e4⟩ := held_tups I fun c hc => (hcs c hc).1
  have ll : l.length = cs.length := by
    have := congrArg List.length e1
    rwa [List.length_map, List.length_map] at this
  have lpos : 0 < cs.length := List.length_pos_iff.mpr hne
  have lt : (l.map (·.1)).length = cs.length := by rw [List.length_map, ll]
  rw [← e1]
  have hcomp : ∀ p ∈ l, p.2.size = n := fun p hp => by
    obtain ⟨i, hi⟩ := List.getElem?_of_mem hp
    obtain ⟨c, hci⟩ := e4 i p hi
    have r := e3 i c p hci hi
    have q := r.length
    rw [(hcs c (List.mem_of_getElem? hci)).2] at q
    simpa using q.symm
  have hn : n ≤ sizeLine := by
    obtain ⟨c, hc0⟩ := List.exists_mem_of_ne_nil _ hne
    obtain ⟨_, _, _, z⟩ := I.tuple (hcs c hc0).1
    rw [(hcs c hc0).2] at z
    exact z
  refine call_zipN (by rw [lt]; exact lpos) (by rw [lt]; exact hl) (fun t ht => ?_) ?_
  · obtain ⟨p, hp, e⟩ := List.mem_map.mp ht
    rw [← e]
    exact ⟨_, e2 p hp⟩
  generalize hts : l.map (·.1) = ts at *
  have sP : (pushIts s.heap ts).objs.size = s.heap.objs.size + l.length := by rw [push_size, lt, ll]
  have sT : (zgT s.heap ts).objs.size = s.heap.objs.size + l.length + 1 := by unfold zgT; rw [Heap.size_push, sP]
  have sO : (zgO s.heap ts).objs.size = s.heap.objs.size + l.length + 2 := by unfold zgO; rw [Heap.size_push, sT]
  have kT : ∀ c o, (pushIts s.heap ts).get? c = some o → (zgZ s.heap ts).get? c = some o := fun c o e => Heap.get?_push_of_some _ (Heap.get?_push_of_some _ (Heap.get?_push_of_some _ e))
  have k0 : ∀ c o, s.heap.get? c = some o → (zgZ s.heap ts).get? c = some o := fun c o e => kT c o (push_keep ts _ _ _ e)
  have efst : (zits s.heap.objs.size l).map (fun q => Value.ref q.1) = (itAddrs s.heap.objs.size ts.length).map Value.ref := by
    have e := zits_fst s.heap.objs.size l
    unfold itAddrs
    rw [lt, ← ll, ← e, List.map_map]
    rfl
  have ap : ZApart (zgO s.heap ts).objs.size (pushIts s.heap ts).objs.size (zgT s.heap ts).objs.size (zits s.heap.objs.size l) := by
    rw [sP, sT, sO]
    have tl : ∀ q ∈ zits s.heap.objs.size l, q.2.1 < s.heap.objs.size := fun q hq => by
      obtain ⟨_, _, h3, _⟩ := zits_mem hq
      obtain ⟨o, e, _⟩ := e2 _ h3
      exact Heap.lt_size e
    have il : ∀ q ∈ zits s.heap.objs.size l, s.heap.objs.size ≤ q.1 ∧ q.1 < s.heap.objs.size + l.length := fun q hq => ⟨(zits_mem hq).1, (zits_mem hq).2.1⟩
    refine ⟨Nat.ne_of_lt (by omega), Nat.ne_of_lt (by omega), Nat.ne_of_lt (by omega), fun q hq => ⟨Nat.ne_of_lt (Nat.lt_of_lt_of_le (il q hq).2 (by omega)), Nat.ne_of_lt (il q hq).2, Nat.ne_of_lt (Nat.lt_of_lt_of_le (il q hq).2 (by omega))⟩,
      fun q hq => ⟨Nat.ne_of_lt (Nat.lt_of_lt_of_le (tl q hq) (by omega)), Nat.ne_of_lt (Nat.lt_of_lt_of_le (tl q hq) (by omega))⟩, fun q hq r hr => Nat.ne_of_lt (Nat.lt_of_lt_of_le (tl q hq) (il r hr).1), zits_nd _ _⟩
  have st : ZState (zgZ s.heap ts) (zgO s.heap ts).objs.size (pushIts s.heap ts).objs.size (zgT s.heap ts).objs.size (zits s.heap.objs.size l) 0 .none false (((itAddrs s.heap.objs.size ts.length).map Value.ref).map fun _ => Value.none) := by
    refine ⟨Heap.get?_push_size _ rfl, ?_, Heap.get?_push_of_some _ (Heap.get?_push_size _ rfl), ?_, fun q hq => ?_, fun q hq => (e2 _ (zits_mem hq).2.2.1).at fun o e => k0 _ _ e⟩
    · rw [efst]
      exact Heap.get?_push_of_some _ (Heap.get?_push_of_some _ (Heap.get?_push_size _ rfl))
    · rw [List.length_map, ← efst, List.length_map]
    · obtain ⟨h1, h2, _, h4⟩ := zits_mem hq
      rw [hts] at h4
      have g := kT _ _ (push_get ts s.heap _ _ h4)
      rw [Nat.add_sub_cancel' h1] at g
      exact ⟨_, g, rfl, rfl⟩
  have I2 : Inv X pins σ H { s with heap := zgZ s.heap ts } := I.kept (t' := s.toks) k0
  have hf : ∀ c ∈ (zgO s.heap ts).objs.size :: (pushIts s.heap ts).objs.size :: (zgT s.heap ts).objs.size :: (zits s.heap.objs.size l).map (·.1), FpOk X pins H c := fun c hc => by
    have hle : s.heap.objs.size ≤ c := by
      simp only [List.mem_cons] at hc
      rcases hc with w | w | w | w
      · rw [w, sO]; exact Nat.le_trans (Nat.le_add_right _ l.length) (Nat.le_add_right _ 2)
      · rw [w, sP]; exact Nat.le_add_right _ _
      · rw [w, sT]; exact Nat.le_trans (Nat.le_add_right _ l.length) (Nat.le_add_right _ 1)
      · obtain ⟨q, hq, w⟩ := List.mem_map.mp w
        rw [← w]
        exact (zits_mem hq).1
    exact I.fpOk hle (I.hok.fresh hle)
  obtain ⟨P, hP, run⟩ := hq (zgZ s.heap ts).objs.size (I2.hok.fresh (Nat.le_refl _))
  have lz : (zits s.heap.objs.size l).length = cs.length := by rw [zits_len, ll]
  refine call_listZ (s := { s with heap := zgZ s.heap ts }) hc ap (fun e => ?_) (by rw [lz]; exact Nat.le_trans hl (by decide)) (zits_rel _ (by rw [hts]; exact e1) e3) (fun q hq => hcomp _ (zits_mem hq).2.2.1) hn I2 st hf hP run
  rw [e] at lz
  rw [← lz] at lpos
  exact Nat.lt_irrefl _ lpos
/-- list(zip(*e)) -/
def tZLs (K : PySem.W.Frag) (te : TE) : TE := fun σ H Q => te σ H fun y H1 => ∃ a xs, y = V.ref a ∧ (SqT K H1 a xs ∨ SqL K H1 a xs) ∧ rZL K xs H1 Q
theorem pe_listZipS {e : Expr} {te : TE} {p p2 pos pos2 sp_ : Pos} (hc : X.calm = true) (he : PE X e te) (hm : X.mg "list" = none) (hm2 : X.mg "zip" = none) (hg : Gl X "list" := by rfl) (hg2 : Gl X "zip" := by rfl)
    (hst : starEach [.Starred e sp_] X.env = [(true, eval e X.env)] := by rfl)
    (hs : starEach [.Call (.Name "zip" p2) [.Starred e sp_] [] pos2] X.env = (false, eval (.Call (.Name "zip" p2) [.Starred e sp_] [] pos2) X.env) :: starEach [] X.env := by rfl) :
    PE X (.Call (.Name "list" p) [.Call (.Name "zip" p2) [.Starred e sp_] [] pos2] [] pos) (tZLs X.K te) := by
  refine ⟨fun pins s σ H Q I h => ?_⟩
  refine wpAny_Call_Name_kw (ld_blt I hg hm (show bootBuiltins "list" = some (.type "list") by rfl) ?_)
  refine PyProof.Rows.callWith_type1 ?_ hs
  rw [hs]
  refine Calls.spliced_cons ?_
  refine wpAny_Call_Name_kw (ld_blt I hg2 hm2 PyProof.Rows.boot_zip ?_)
  rw [hst]
  refine PySem.W.ks_call (P := fun _ => True) rfl (fun h _ => ⟨.machine, .inr (.inl rfl), ?_⟩) (PySem.W.ks_lone (thn (he.run pins s σ H _ I h) fun v s1 ⟨y, H1, I1, ry, a, xs, ey, hxs, q⟩ => ?_))
  · exact PySem.W.Looks.of_pure rfl
  subst ey
  obtain rfl : v = Value.ref a := ry
  refine StX.star_any I1 hxs fun us s2 I2 rv => ⟨trivial, ?_⟩
  refine wpAny_mono (call_zipL hc I2 rv q) (fun u s3 h3 => ?_) fun _ _ w => w
  exact Calls.spliced_nil h3
end
end L3
namespace L3
open PySem L2
/-! ### by data -/
def zrows (xss : List (List D)) (n : Nat) : List D := (List.range n).map fun i => D.tup (xss.map fun xs => xs.getD i .non)
def fZL : FC := fun ds M Q => ∃ (xss : List (List D)) (n : Nat), ds = xss.map D.tup ∧ xss ≠ [] ∧ xss.length ≤ 12 ∧ (∀ xs ∈ xss, xs.length = n) ∧ Q (.lst (zrows xss n)) M
inductive CRel (K : PySem.W.Frag) (H : Hp) : List (Addr × List V) → List (List D) → Prop
  | nil : CRel K H [] []
  | cons {c : Addr × List V} {xs : List D} {cs : List (Addr × List V)} {xss : List (List D)} : SqT K H c.1 c.2 → RepL K H c.2 xs → CRel K H cs xss → CRel K H (c :: cs) (xs :: xss)
theorem crel_of {K : PySem.W.Frag} {H : Hp} : ∀ {xss : List (List D)} {vs : List V}, RepL K H vs (xss.map D.tup) → ∃ cs, vs = cs.map (fun c => V.ref c.1) ∧ CRel K H cs xss
  | [], _, r => by
    cases r
    exact ⟨[], rfl, .nil⟩
  | xs :: xss, _, r => by
    cases r with
    | cons r1 r2 =>
      cases r1 with
      | tup h1 h2 =>
        obtain ⟨cs, e, r⟩ := crel_of r2
        exact ⟨(_, _) :: cs, by rw [e]; rfl, .cons h1 h2 r⟩
theorem CRel.len {K : PySem.W.Frag} {H : Hp} : ∀ {cs : List (Addr × List V)} {xss : List (List D)}, CRel K H cs xss → cs.length = xss.length
  | _, _, .nil => rfl
  | _, _, .cons _ _ r => by rw [List.length_cons, List.length_cons, r.len]
theorem CRel.tups {K : PySem.W.Frag} {H : Hp} {n : Nat} : ∀ {cs : List (Addr × List V)} {xss : List (List D)}, CRel K H cs xss → (∀ xs ∈ xss, xs.length = n) → ∀ c ∈ cs, SqT K H c.1 c.2 ∧ c.2.length = n
  | _, _, .nil, _, c, hc => by cases hc
  | _, _, .cons h1 h2 r, h, c, hc => by
    rcases List.mem_cons.mp hc with e | hc
    · subst e
      exact ⟨h1, h2.len.trans (h _ List.mem_cons_self)⟩
    · exact r.tups (fun xs hx => h xs (List.mem_cons_of_mem _ hx)) c hc
theorem CRel.row {K : PySem.W.Frag} {H : Hp} {n i : Nat} (hi : i < n) : ∀ {cs : List (Addr × List V)} {xss : List (List D)}, CRel K H cs xss → (∀ xs ∈ xss, xs.length = n) → RepL K H (zrow cs i) (xss.map fun xs => xs.getD i .non)
  | _, _, .nil, _ => .nil
  | _, _, .cons h1 h2 r, h => .cons (rep_getd h2 i (by rw [h _ List.mem_cons_self]; exact hi)) (r.row hi fun xs hx => h xs (List.mem_cons_of_mem _ hx))
theorem setM_setM {M : Mp} {a : Addr} {c d : Cell} : setM (setM M a c) a d = setM M a d := by
  funext b
  unfold setM
  by_cases h : b = a
  · rw [if_pos h, if_pos h]
  · rw [if_neg h, if_neg h, if_neg h]
theorem delM_setM {M : Mp} {a : Addr} {c : Cell} (h : M a = none) : delM (setM M a c) a = M := by
  funext b
  unfold delM setM
  by_cases e : b = a
  · rw [if_pos e, e, h]
  · rw [if_neg e, if_neg e]
theorem sim_ZL {K : PySem.W.Frag} : SimC K (rZL K) fZL := by
  intro Z xs ds H M Q Q' S r f q
  obtain ⟨xss, n, rfl, hne, hl, hn, z⟩ := f
  obtain ⟨cs, rfl, cr⟩ := crel_of r
  have lcs := cr.len
  refine ⟨cs, n, rfl, fun e => hne ?_, by rw [lcs]; exact hl, fun c hc => ⟨sqt_mono fz_sub (cr.tups hn c hc).1, (cr.tups hn c hc).2⟩, fun p hp => ?_⟩
  · rw [e] at lcs
    exact List.eq_nil_of_length_eq_zero lcs.symm
  have hm := S.free hp
  refine ⟨fun i acc H' => H' p = some (.lst acc) ∧ acc.length = i ∧ Go K Z H M H' (setM M p (.lst (zrows xss i))) ∧ RepL K (fz Z H' (setM M p (.lst (zrows xss i)))) acc (zrows xss i), ⟨upd_same, rfl, Go.putL S (.inl hp) .nil, .nil⟩, fun i acc H' hP => ?_⟩
  obtain ⟨h1, h2, g, ra⟩ := hP
  refine ⟨h1, h2, fun hi T hT => ?_, fun hi => ?_⟩
  · obtain ⟨g1, n1⟩ := Go.laid (o := .tup (zrow cs i)) g.sat hT
    have rT : Rep K (fz Z (upd H' T (.tup (zrow cs i))) (setM M p (.lst (zrows xss i)))) (.ref T) (.tup (xss.map fun xs => xs.getD i .non)) := .tup (.inl (.inl n1)) (((cr.row hi hn).up g.ex).up g1.ex)
    have er : zrows xss (i + 1) = zrows xss i ++ [.tup (xss.map fun xs => xs.getD i .non)] := by
      unfold zrows
      rw [List.range_succ, List.map_append]
      rfl
    have ra2 := (ra.up g1.ex).app (.cons rT .nil)
    rw [← er] at ra2
    have g2 := Go.putL (p := p) g1.sat (.inr ⟨_, setM_same⟩) ra2
    rw [setM_setM] at g2
    exact ⟨upd_same, by rw [List.length_append, h2]; rfl, (g.trans g1).trans g2, ra2.up g2.ex⟩
  · subst hi
    obtain ⟨g3, vs, e3, r3⟩ := Go.frozen g.sat (setM_same (M := M) (a := p))
    rw [delM_setM hm] at g3 e3 r3
    exact q _ _ H' M (g.trans g3) (.lst (.inl (.inl e3)) r3) z
/-- list(zip(e, ..)) -/
theorem pe_listZip {X : Cx} {e : Expr} {es : List Expr} {t : TA} {p p2 pos pos2 : Pos} (hc : X.calm = true) (ha : PA X (e :: es) t) (hm : X.mg "list" = none) (hm2 : X.mg "zip" = none) (hg : Gl X "list" := by rfl) (hg2 : Gl X "zip" := by rfl)
    (he : starEach (e :: es) X.env = (false, eval e X.env) :: starEach es X.env := by rfl) (hpl : (backTo pos2 (starEach es X.env)).any (·.1) = false := by rfl)
    (hs : starEach [.Call (.Name "zip" p2) (e :: es) [] pos2] X.env = (false, eval (.Call (.Name "zip" p2) (e :: es) [] pos2) X.env) :: starEach [] X.env := by rfl) :
    PE X (.Call (.Name "list" p) [.Call (.Name "zip" p2) (e :: es) [] pos2] [] pos) (tCB (rZL X.K) t) := by
  refine ⟨fun pins s σ H Q I h => ?_⟩
  refine wpAny_Call_Name_kw (ld_blt I hg hm (show bootBuiltins "list" = some (.type "list") by rfl) ?_)
  refine PyProof.Rows.callWith_type1 ?_ hs
  rw [hs]
  refine Calls.spliced_cons ?_
  refine wpAny_Call_Name_kw (ld_blt I hg2 hm2 PyProof.Rows.boot_zip ?_)
  refine PyProof.Rows.callWith_type1 (thn (ha.run pos2 pins s σ H _ I h) fun us s1 ⟨vs, H1, I1, r1, q1⟩ => ?_) he hpl
  refine wpAny_mono (call_zipL hc I1 r1 q1) (fun u s3 h3 => ?_) fun _ _ w => w
  exact Calls.spliced_nil h3
theorem de_listZip {X : Cx} {e : Expr} {es : List Expr} {tr : TA} {wr : WA} {p p2 pos pos2 : Pos} (hc : X.calm = true) (ha : DA X (e :: es) tr wr) (hm : X.mg "list" = none) (hm2 : X.mg "zip" = none) (hg : Gl X "list" := by rfl) (hg2 : Gl X "zip" := by rfl)
    (he : starEach (e :: es) X.env = (false, eval e X.env) :: starEach es X.env := by rfl) (hpl : (backTo pos2 (starEach es X.env)).any (·.1) = false := by rfl)
    (hs : starEach [.Call (.Name "zip" p2) (e :: es) [] pos2] X.env = (false, eval (.Call (.Name "zip" p2) (e :: es) [] pos2) X.env) :: starEach [] X.env := by rfl) :
    DE X (.Call (.Name "list" p) [.Call (.Name "zip" p2) (e :: es) [] pos2] [] pos) (tCB (rZL X.K) tr) (wCB fZL wr) := ⟨pe_listZip hc ha.pe hm hm2 hg hg2 he hpl hs, sim_CB ha.sm sim_ZL⟩
def wZLs (we : WE) : WE := fun ρ M Q => we ρ M fun d M1 => ∃ es, seqD M1 d = some es ∧ fZL es M1 Q
theorem de_listZipS {X : Cx} {e : Expr} {te : TE} {we : WE} {p p2 pos pos2 sp_ : Pos} (hc : X.calm = true) (he : DE X e te we) (hm : X.mg "list" = none) (hm2 : X.mg "zip" = none) (hg : Gl X "list" := by rfl) (hg2 : Gl X "zip" := by rfl)
    (hst : starEach [.Starred e sp_] X.env = [(true, eval e X.env)] := by rfl)
    (hs : starEach [.Call (.Name "zip" p2) [.Starred e sp_] [] pos2] X.env = (false, eval (.Call (.Name "zip" p2) [.Starred e sp_] [] pos2) X.env) :: starEach [] X.env := by rfl) :
    DE X (.Call (.Name "list" p) [.Call (.Name "zip" p2) [.Starred e sp_] [] pos2] [] pos) (tZLs X.K te) (wZLs we) := by
  refine ⟨pe_listZipS hc he.pe hm hm2 hg hg2 hst hs, fun Z ρ M σ H Q Q' s hw q => ?_⟩
  refine he.sm Z ρ M σ H _ _ s hw fun v d H1 M1 g1 r1 q1 => ?_
  obtain ⟨es, e1, f⟩ := q1
  obtain ⟨p, vs, rfl, hv, rl⟩ := seq_of g1.sat r1 e1
  exact ⟨p, vs, rfl, hv.symm, sim_ZL Z vs es H1 M1 Q Q' g1.sat rl f fun v d H2 M2 g2 r2 q2 => q v d H2 M2 (g1.trans g2) r2 q2⟩
def fNotB : F2 := fun d e M Q => match d, e with
  | .bl a, .bl b => Q (.bl (!decide (a = b))) M
  | _, _ => False
theorem sim_notB {K : PySem.W.Frag} : SimR K rNotB fNotB := by
  intro Z x y d e H M Q Q' S r1 r2 f q
  unfold fNotB at f
  split at f
  · cases r1
    cases r2
    exact ⟨_, _, rfl, rfl, q _ _ H M (Go.refl S) (.bl _) f⟩
  · exact f.elim
end L3
namespace L3
open PySem L2
/-! ### a string in a list or tuple of strings -/
theorem flat_strs : ∀ ys : List Str, (ys.map V.str).all L2.flatV = true
  | [] => rfl
  | y :: ys => by
    rw [List.map_cons, List.all_cons, flat_strs ys, Bool.and_true]
    rfl
theorem in_strs (x : Str) : ∀ ys : List Str, L2.inV (.str x) (ys.map V.str) = ys.any fun y => decide (y = x)
  | [] => rfl
  | y :: ys => by
    have ih := in_strs x ys
    unfold L2.inV at ih ⊢
    rw [List.map_cons, List.any_cons, List.any_cons, ih]
    congr 1
def fInS (neg : Bool) : F2 := fun d e M Q => ∃ (x : Str) (ys : List Str), d = .str x ∧ (e = .lst (ys.map .str) ∨ e = .tup (ys.map .str)) ∧ Q (.bl (if neg then !(ys.any fun y => decide (y = x)) else ys.any fun y => decide (y = x))) M
theorem sim_inS {K : PySem.W.Frag} {neg : Bool} : SimR K (L2.rIn K neg) (fInS neg) := by
  intro Z x y d e H M Q Q' S r1 r2 f q
  obtain ⟨s, ys, rfl, he, z⟩ := f
  cases r1
  rcases he with rfl | rfl
  · cases r2 with
    | lst h1 rl =>
      obtain rfl := rl.strs
      refine ⟨_, _, rfl, .inl (fz_sub.seq h1), rfl, flat_strs ys, ?_⟩
      rw [in_strs]
      exact q _ _ H M (Go.refl S) (.bl _) z
  · cases r2 with
    | tup h1 rl =>
      obtain rfl := rl.strs
      refine ⟨_, _, rfl, .inr (sqt_mono fz_sub h1), rfl, flat_strs ys, ?_⟩
      rw [in_strs]
      exact q _ _ H M (Go.refl S) (.bl _) z
/-- nothing is promised -/
theorem no_g {P : Program} {w : World} {K : PySem.W.Frag} {mg : Str → Option Value} {base : Heap} {k : Nat} {f : Addr} {fd : FuncData} {ps : List Str} {F : Fs} (no : ∀ ds M Q R, ¬ F ds M Q R) : FnG P w K mg base k f fd ps (lift K F) :=
  ⟨fun _ _ _ _ ⟨_, ds, M, Q, R, _, _, h, _⟩ => absurd h (no ds M Q R), fun _ _ _ _ _ _ _ _ _ _ _ _ _ _ ⟨_, ds, M, Q, R, _, _, h, _⟩ => absurd h (no ds M Q R)⟩
end L3
namespace L3
open PySem L2
/-! ### comprehensions over what is mapped, filtered -/
theorem lc_map {α : Type} {wg : WG} {we : WE} {Ok : Mp → Prop} {ρ : En} {M : Mp} {Q : KD} (f g : α → D) (ok : Ok M) : ∀ (xs : List α) (acc : List D), acc.length + xs.length ≤ 1000000 → (∀ a ∈ xs, ∀ K : KD, K (g a) M → wg (f a) ρ M fun ρ1 M1 => we ρ1 M1 K) →
    Q (.lst (acc ++ xs.map g)) M → wLcL wg wYes we Ok ρ (xs.map f) acc M Q
  | [], acc, _, _, q => ⟨ok, by rw [List.map_nil, List.append_nil] at q; exact q⟩
  | a :: xs, acc, hl, hs, q => by
    rw [List.length_cons] at hl
    refine ⟨ok, Nat.lt_of_lt_of_le (by omega : acc.length < 1000000) (by decide), ?_⟩
    have z := hs a List.mem_cons_self (fun y M3 => wLcL wg wYes we Ok ρ (xs.map f) (acc ++ [y]) M3 Q)
      (lc_map f g ok xs (acc ++ [g a]) (by rw [List.length_append, List.length_singleton]; omega) (fun d' h' => hs d' (List.mem_cons_of_mem _ h')) (by rw [List.append_assoc]; exact q))
    exact z
theorem lc_filt {α : Type} {wg : WG} {wt : WT} {we : WE} {Ok : Mp → Prop} {ρ : En} {M : Mp} {Q : KD} (f g : α → D) (b : α → Bool) (ok : Ok M) : ∀ (xs : List α) (acc : List D), acc.length + xs.length ≤ 1000000 →
    (∀ a ∈ xs, ∀ (A : KD) (B : Mp → Prop), (b a = true → A (g a) M) → (b a = false → B M) → wg (f a) ρ M fun ρ1 M1 => wt ρ1 M1 fun c M2 => if c = true then we ρ1 M2 A else B M2) →
    Q (.lst (acc ++ (xs.filter b).map g)) M → wLcL wg wt we Ok ρ (xs.map f) acc M Q
  | [], acc, _, _, q => ⟨ok, by rw [List.filter_nil, List.map_nil, List.append_nil] at q; exact q⟩
  | a :: xs, acc, hl, hs, q => by
    rw [List.length_cons] at hl
    refine ⟨ok, Nat.lt_of_lt_of_le (by omega : acc.length < 1000000) (by decide), ?_⟩
    refine hs a List.mem_cons_self (fun y M3 => wLcL wg wt we Ok ρ (xs.map f) (acc ++ [y]) M3 Q) (fun M2 => wLcL wg wt we Ok ρ (xs.map f) acc M2 Q) (fun hb => ?_) (fun hb => ?_)
    · refine lc_filt f g b ok xs _ (by rw [List.length_append, List.length_singleton]; omega) (fun d' h' => hs d' (List.mem_cons_of_mem _ h')) ?_
      rw [List.filter_cons_of_pos hb] at q
      rw [List.append_assoc]
      exact q
    · refine lc_filt f g b ok xs _ (by omega) (fun d' h' => hs d' (List.mem_cons_of_mem _ h')) ?_
      rw [List.filter_cons_of_neg (by rw [hb]; decide)] at q
      exact q
/-- what is walked is mapped -/
theorem loop_map {α : Type} {g : WG} {wb : WS} {Ok : Mp → Prop} {D3 : Ends3} (f : α → D) (xs : List α) (P : Nat → En → Mp → Prop)
    (hs : ∀ i a ρ M, xs[i]? = some a → i < xs.length → P i ρ M → Ok M ∧ ∀ K : En → Mp → Prop, (∀ ρ' M', P (i + 1) ρ' M' → K ρ' M') → g (f a) ρ M fun ρ1 M1 => wb { D3 with nx := K, ct := K, bk := D3.nx } ρ1 M1)
    (he : ∀ ρ M, P xs.length ρ M → Ok M ∧ D3.nx ρ M) {ρ : En} {M : Mp} (h : P 0 ρ M) : wLoop g wb Ok D3 (xs.map f) ρ M := by
  refine loop_ix P (fun i d ρ M hi hP => ?_) (fun ρ M hP => he ρ M (by rw [List.length_map] at hP; exact hP)) h
  rw [List.getElem?_map] at hi
  cases e : xs[i]? with
  | none =>
    rw [e] at hi
    cases hi
  | some a =>
    rw [e] at hi
    cases hi
    exact hs i a ρ M e (List.getElem?_eq_some_iff.mp e).1 hP
theorem if_gen {t : WT} {a b : WS} {D3 : Ends3} {ρ : En} {M : Mp} (h : ∀ A, A = a → wIfS t A b D3 ρ M) : wIfS t a b D3 ρ M := h a rfl
theorem if_gen2 {t : WT} {a b : WS} {D3 : Ends3} {ρ : En} {M : Mp} (h : ∀ A B, A = a → B = b → wIfS t A B D3 ρ M) : wIfS t a b D3 ρ M := h a b rfl rfl
end L3
namespace L3
open PySem L2
/-! ### what is raised -/
/-- an expression out of which something may be raised -/
def SimX (K : PySem.W.Frag) (W : WX3) (t : TE) (w : XR → WE) : Prop := ∀ (xr : XR) (Z : Hp) (ρ : En) (M : Mp) (σ : L2.St) (H : Hp) (Q : KD) (Q' : VK), R3 K Z ρ M σ H → w xr ρ M Q → (∀ v d H' M', Go K Z H M H' M' → Rep K (fz Z H' M') v d → Q d M' → Q' v H') →
  (∀ x C dx vs (fs : XV) H' M', ClsAt K x C → Go K Z H M H' M' → fz Z H' M' dx = some (.xd (fs.1.zip vs)) → fs.1.length = vs.length → RepL K (fz Z H' M') vs fs.2 → xr x dx fs ρ M' → W (.ref C) (some dx) σ H') → t σ H Q'
structure DX (X : Cx) (W : WX3) (e : Expr) (t : TE) (w : XR → WE) : Prop where
  pe : PE X e t
  sm : SimX X.K W t w
section
variable {X : Cx} {W : WX3} {e : Expr} {es : List Expr} {t te : TE} {we : WE} {wx : XR → WE} {pos p : Pos} {k : Nat} {tr tk : TA} {wr wk : WA} {x : Str} {st : Stmt} {ps : List Str} {F : Fs} {kws : List Keyword} {f : Addr} {fd : FuncData} {sp : Sp} {E : L2.St → XK}
theorem DE.dx (h : DE X e te we) : DX X W e te (fun _ => we) := ⟨h.pe, fun _ Z ρ M σ H Q Q' r hw q _ => h.sm Z ρ M σ H Q Q' r hw q⟩
theorem run_gX {pins : List (Addr × Obj)} {σ : L2.St} {H : Hp} {s : Shared} {Q : VK} {us ws : List Value} {vs : List V} {kw : List (Str × Value)} (G : FnG X.prog X.w X.K X.mg X.base k f fd ps sp) (hr : Room k X.A) (gd : X.A.guards = some [])
    (hx : PassesAt (L2.CX X.prog X.w) X σ (E σ)) (I : Inv X pins σ H s) (hb : BindsTo s fd ⟨us, kw⟩ (ps.zip ws)) (r : Vals vs ws) (h : sp vs H Q (E σ)) : wpAny (model X.prog X.w) X.A (call (.ref f) us kw) (EP X pins σ Q) X.xe s := by
  refine wpAny_call (codeAny_mono (G.run X.A X.stack s H ⟨us, kw⟩ ws vs Q (E σ) gd hr I.env0 hb r h) fun rr s' hq => ?_)
  cases rr with
  | error er => exact hx pins H s er s' I hq
  | ok fl =>
    cases fl with
    | ret u => exact I.after hq
    | next => exact hq.elim
    | brk => exact hq.elim
    | cont => exact hq.elim
def tCallX (sp : Sp) (E : L2.St → XK) (t : TA) : TE := fun σ H Q => t σ H fun vs J => sp vs J Q (E σ)
theorem pe_callX (G : FnG X.prog X.w X.K X.mg X.base k f fd ps sp) (hr : Room k X.A) (gd : X.A.guards = some []) (hg : Gl X x) (hm : X.mg x = some (.ref f)) (hk : PySem.W.keepIn X.K (.ref f) = true) (hb : Binds X.K fd ps []) (hx : ∀ σ, PassesAt (L2.CX X.prog X.w) X σ (E σ))
    (ha : PA X (e :: es) tr) (hdb : (x == ("__debug__" : Str)) = false := by decide) (he : starEach (e :: es) X.env = (false, eval e X.env) :: starEach es X.env := by rfl) (hpl : (backTo pos (starEach es X.env)).any (·.1) = false := by rfl) :
    PE X (.Call (.Name x p) (e :: es) [] pos) (tCallX sp E tr) := by
  refine ⟨fun pins s σ H Q I h => wpAny_Call_Name_kw (ld_glob I hg hm ?_ hdb)⟩
  refine PySem.W.callWith_K (h₀ := X.base) I.ok.mod.kin hk (thn (ha.run pos pins s σ H _ I h) fun us s1 ⟨vs, J, I1, r, q⟩ => ⟨I1.kIn, ?_⟩) he hpl
  have hl : (us ++ []).length = ps.length := by rw [List.append_nil, ← r.length]; exact G.len _ _ _ _ q
  have z := hb s1 us I1.kIn hl
  rw [List.append_nil] at z
  exact run_gX (us := us) (kw := []) G hr gd (hx σ) I1 z r q
theorem pe_callXK {n : Nat} {ks : List Str} {kws : List Keyword} {tk : TA} {idx : List Nat} (G : FnG X.prog X.w X.K X.mg X.base k f fd ps sp) (hr : Room k X.A) (gd : X.A.guards = some []) (hg : Gl X x) (hm : X.mg x = some (.ref f))
    (hk : PySem.W.keepIn X.K (.ref f) = true) (hb : KB X.K fd ps n ks idx) (hx : ∀ σ, PassesAt (L2.CX X.prog X.w) X σ (E σ)) (ha : PA X (e :: es) tr) (hkw : PK X kws tk)
    (hall : (backToKw pos (keywordEach kws X.env)).all (·.1.isSome) = true := by rfl) (hks : (backToKw pos (keywordEach kws X.env)).filterMap (·.1) = ks := by rfl)
    (hdb : (x == ("__debug__" : Str)) = false := by decide) (he : starEach (e :: es) X.env = (false, eval e X.env) :: starEach es X.env := by rfl)
    (hpl : ((backTo pos (starEach (e :: es) X.env)).any (·.1) || (backToKw pos (keywordEach kws X.env)).any (·.1.isNone)) = false := by rfl) :
    PE X (.Call (.Name x p) (e :: es) kws pos) (fun σ H Q => tr σ H fun vs J => tk σ J fun zs J2 => vs.length = n ∧ zs.length = ks.length ∧ sp (perm idx vs zs) J2 Q (E σ)) := by
  refine ⟨fun pins s σ H Q I h => wpAny_Call_Name_kw (ld_glob I hg hm ?_ hdb)⟩
  refine PySem.W.callWith_KW (h₀ := X.base) I.ok.mod.kin hk hall (thn (ha.run pos pins s σ H _ I h) fun us s1 ⟨vs, H1, I1, r, q⟩ => ?_) hpl he
  refine thn (hkw.run pos pins s1 σ H1 _ I1 q) fun ws s2 ⟨zs, H2, I2, rz, l1, l2, q2⟩ => ⟨I2.kIn, ?_⟩
  rw [hks]
  exact run_gX G hr gd (hx σ) I2 (hb s2 us ws I2.kIn (by rw [← r.length]; exact l1) (by rw [← rz.length]; exact l2)) (perm_rel idx r rz) q2
theorem pe_callXK0 {ks : List Str} {kws : List Keyword} {tk : TA} {idx : List Nat} (G : FnG X.prog X.w X.K X.mg X.base k f fd ps sp) (hr : Room k X.A) (gd : X.A.guards = some []) (hg : Gl X x) (hm : X.mg x = some (.ref f))
    (hk : PySem.W.keepIn X.K (.ref f) = true) (hb : KB X.K fd ps 0 ks idx) (hx : ∀ σ, PassesAt (L2.CX X.prog X.w) X σ (E σ)) (hkw : PK X kws tk)
    (hall : (backToKw pos (keywordEach kws X.env)).all (·.1.isSome) = true := by rfl) (hks : (backToKw pos (keywordEach kws X.env)).filterMap (·.1) = ks := by rfl)
    (hdb : (x == ("__debug__" : Str)) = false := by decide)
    (hpl : ((backTo pos (starEach [] X.env)).any (·.1) || (backToKw pos (keywordEach kws X.env)).any (·.1.isNone)) = false := by rfl) :
    PE X (.Call (.Name x p) [] kws pos) (fun σ H Q => tNil σ H fun vs J => tk σ J fun zs J2 => vs.length = 0 ∧ zs.length = ks.length ∧ sp (perm idx vs zs) J2 Q (E σ)) := by
  refine ⟨fun pins s σ H Q I h => wpAny_Call_Name_kw (ld_glob I hg hm ?_ hdb)⟩
  refine PySem.W.callWith_KW0 (h₀ := X.base) I.ok.mod.kin hk hall ?_ hpl
  refine thn (hkw.run pos pins s σ H _ I h) fun ws s2 ⟨zs, H2, I2, rz, l1, l2, q2⟩ => ⟨I2.kIn, ?_⟩
  rw [hks]
  exact run_gX (us := []) G hr gd (hx σ) I2 (hb s2 [] ws I2.kIn rfl (by rw [← rz.length]; exact l2)) (perm_rel idx .nil rz) q2
/-- a call by its contract, what it raises is wished for -/
def wCallX (F : Fs) (r : WA) : XR → WE := fun xr ρ M Q => r ρ M fun ds M1 => F ds M1 Q fun x fs M2 => ∀ dx, xr x dx fs ρ M2
theorem sim_callX {K : PySem.W.Frag} (ha : SimA K tr wr) : SimX K W (tCallX (lift K F) (L2.WE W) tr) (wCallX F wr) := by
  intro xr Z ρ M σ H Q Q' s h q qx
  refine ha Z ρ M σ H _ _ s h fun xs ds H1 M1 g1 r1 q1 => ?_
  exact ⟨Z, ds, M1, Q, _, g1.sat, r1, q1, fun v d H2 M2 g2 r2 q2 => q v d H2 M2 (g1.trans g2) r2 q2, fun x C dx vs fs H2 M2 ca g2 e2 l2 r2 z => qx x C dx vs fs H2 M2 ca (g1.trans g2) e2 l2 r2 (z dx)⟩
theorem dx_h (h : Has X.prog X.w X.K X.mg X.base k x st ps F) (hr : Room k X.A) (gd : X.A.guards = some []) (tw : Takes X W) (ha : DA X (e :: es) tr wr) (hg : Gl X x := by rfl) (hdb : (x == ("__debug__" : Str)) = false := by decide)
    (he : starEach (e :: es) X.env = (false, eval e X.env) :: starEach es X.env := by rfl) (hpl : (backTo pos (starEach es X.env)).any (·.1) = false := by rfl) : DX X W (.Call (.Name x p) (e :: es) [] pos) (tCallX (lift X.K F) (L2.WE W) tr) (wCallX F wr) := by
  obtain ⟨f, fd, G, hm, Fn, hb⟩ := h.ex
  exact ⟨pe_callX G hr gd hg hm Fn.kp hb (fun σ => passAt tw σ) ha.pe hdb he hpl, sim_callX ha.sm⟩
/-- .. with keywords -/
def wCallXK (n m : Nat) (idx : List Nat) (F : Fs) (r rk : WA) : XR → WE := fun xr ρ M Q => r ρ M fun ds M1 => rk ρ M1 fun es M2 => ds.length = n ∧ es.length = m ∧ F (permD idx ds es) M2 Q fun x fs M3 => ∀ dx, xr x dx fs ρ M3
theorem sim_callXK {K : PySem.W.Frag} {n m : Nat} {idx : List Nat} (ha : SimA K tr wr) (hk : SimA K tk wk) : SimX K W (fun σ H Q => tr σ H fun vs J => tk σ J fun zs J2 => vs.length = n ∧ zs.length = m ∧ lift K F (perm idx vs zs) J2 Q (L2.WE W σ)) (wCallXK n m idx F wr wk) := by
  intro xr Z ρ M σ H Q Q' s h q qx
  refine ha Z ρ M σ H _ _ s h fun xs ds H1 M1 g1 r1 q1 => ?_
  refine hk Z ρ M1 σ H1 _ _ (s.go g1) q1 fun ys es H2 M2 g2 r2 ⟨l1, l2, q2⟩ => ⟨by rw [r1.len]; exact l1, by rw [r2.len]; exact l2, ?_⟩
  exact ⟨Z, _, M2, Q, _, g2.sat, perm_repL idx (r1.up g2.ex) r2, q2, fun v d H3 M3 g3 r3 q3 => q v d H3 M3 ((g1.trans g2).trans g3) r3 q3,
    fun x C dx vs fs H3 M3 ca g3 e3 l3 r3 z => qx x C dx vs fs H3 M3 ca ((g1.trans g2).trans g3) e3 l3 r3 (z dx)⟩
theorem dx_hk {n : Nat} {ks : List Str} {idx : List Nat} (h : Has X.prog X.w X.K X.mg X.base k x st ps F) (hr : Room k X.A) (gd : X.A.guards = some []) (tw : Takes X W) (kb : Kw x st ps n ks idx) (ha : DA X (e :: es) tr wr) (hkw : DK X kws tk wk) (hg : Gl X x := by rfl)
    (hall : (backToKw pos (keywordEach kws X.env)).all (·.1.isSome) = true := by rfl) (hks : (backToKw pos (keywordEach kws X.env)).filterMap (·.1) = ks := by rfl)
    (hdb : (x == ("__debug__" : Str)) = false := by decide) (he : starEach (e :: es) X.env = (false, eval e X.env) :: starEach es X.env := by rfl)
    (hpl : ((backTo pos (starEach (e :: es) X.env)).any (·.1) || (backToKw pos (keywordEach kws X.env)).any (·.1.isNone)) = false := by rfl) :
    DX X W (.Call (.Name x p) (e :: es) kws pos) (fun σ H Q => tr σ H fun vs J => tk σ J fun zs J2 => vs.length = n ∧ zs.length = ks.length ∧ lift X.K F (perm idx vs zs) J2 Q (L2.WE W σ)) (wCallXK n ks.length idx F wr wk) := by
  obtain ⟨f, fd, G, hm, Fn, hb⟩ := h.ex
  exact ⟨pe_callXK G hr gd hg hm Fn.kp (kb_of Fn kb) (fun σ => passAt tw σ) ha.pe hkw.pe hall hks hdb he hpl, sim_callXK ha.sm hkw.sm⟩
theorem dx_hk0 {ks : List Str} {idx : List Nat} (h : Has X.prog X.w X.K X.mg X.base k x st ps F) (hr : Room k X.A) (gd : X.A.guards = some []) (tw : Takes X W) (kb : Kw x st ps 0 ks idx) (hkw : DK X kws tk wk) (hg : Gl X x := by rfl)
    (hall : (backToKw pos (keywordEach kws X.env)).all (·.1.isSome) = true := by rfl) (hks : (backToKw pos (keywordEach kws X.env)).filterMap (·.1) = ks := by rfl)
    (hdb : (x == ("__debug__" : Str)) = false := by decide)
    (hpl : ((backTo pos (starEach [] X.env)).any (·.1) || (backToKw pos (keywordEach kws X.env)).any (·.1.isNone)) = false := by rfl) :
    DX X W (.Call (.Name x p) [] kws pos) (fun σ H Q => tNil σ H fun vs J => tk σ J fun zs J2 => vs.length = 0 ∧ zs.length = ks.length ∧ lift X.K F (perm idx vs zs) J2 Q (L2.WE W σ)) (wCallXK 0 ks.length idx F wNil wk) := by
  obtain ⟨f, fd, G, hm, Fn, hb⟩ := h.ex
  exact ⟨pe_callXK0 G hr gd hg hm Fn.kp (kb_of Fn kb) (fun σ => passAt tw σ) hkw.pe hall hks hdb hpl, sim_callXK sim_nil hkw.sm⟩
/-! statements with such an expression -/
def wAsgX (w : XR → WE) (g : WG) : WS := fun D ρ M => w D.xr ρ M fun d M1 => g d ρ M1 D.nx
theorem ds_setX (i : Nat) {x : Str} {pos' : Pos} (hN : X.N.Nodup) (he : DX X W e te wx) (hi : X.N[i]? = some x := by rfl) (hx : Loc X.env.scope x := by first | exact .inl rfl | exact .inr rfl) (hs : swapsWith e (some (.Name x pos')) pos.line X.env = pure false := by rfl)
    (hf : X.fn x = true ∨ X.env.scope.names.lookup x = some .local := by first | exact .inl rfl | exact .inr rfl) : DS X W (.Assign [.Name x pos'] e pos) (tAsg te (gName i)) (wAsgX wx (wgName i)) :=
  ⟨ps_set hN hi hx he.pe hs hf, fun Z D3 ρ M σ H D r h en => he.sm D3.xr Z ρ M σ H _ _ r h
    (fun v d H1 M1 g r1 q => en.nx _ M1 _ H1 ⟨g.sat, (r.go g).env.set i r1⟩ g q) fun x C dx vs fs H1 M1 ca g e1 l1 r1 z => en.xr x C dx vs fs ρ σ H1 M1 ca (r.go g) g e1 l1 r1 z⟩
def wRetX (w : XR → WE) : WS := fun D ρ M => w D.xr ρ M D.rt
theorem ds_retX (he : DX X W e te wx) : DS X W (.Return (some e) pos) (tRet te) (wRetX wx) :=
  ⟨ps_ret he.pe, fun Z D3 ρ M σ H D r h en => he.sm D3.xr Z ρ M σ H _ _ r h (fun v d H1 M1 g r1 q => en.rt v d H1 M1 g r1 q) fun x C dx vs fs H1 M1 ca g e1 l1 r1 z => en.xr x C dx vs fs ρ σ H1 M1 ca (r.go g) g e1 l1 r1 z⟩
def wDropX (w : XR → WE) : WS := fun D ρ M => w D.xr ρ M fun _ M1 => D.nx ρ M1
theorem ds_exprX (he : DX X W e te wx) (hs : swapsWith e none pos.line X.env = pure false := by rfl) : DS X W (.Expr e pos) (tDrop te) (wDropX wx) :=
  ⟨ps_expr he.pe hs, fun Z D3 ρ M σ H D r h en => he.sm D3.xr Z ρ M σ H _ _ r h (fun v d H1 M1 g r1 q => en.nx ρ M1 σ H1 (r.go g) g q) fun x C dx vs fs H1 M1 ca g e1 l1 r1 z => en.xr x C dx vs fs ρ σ H1 M1 ca (r.go g) g e1 l1 r1 z⟩
end
end L3
namespace L3
open PySem L2
/-! ### own classes of errors: their making, their raising -/
/-- what an own __init__ does that stores its parameters -/
def spI (K : PySem.W.Frag) (ns : List Str) : Sp := fun vs H Q _ => ∃ (a C : Addr) (ys : List V), vs = .ref a :: ys ∧ ys.length = ns.length ∧ OexC K C ∧ (∀ f ∈ ns, PySem.W.findIn K (.ref C) f = some none) ∧ H a = some (exo a C none) ∧
  ∀ dx, H dx = none → dx ≠ a → Q .non (upd (upd H dx (exd dx (ns.zip ys).reverse)) a (exo a C (some dx)))
/-- a class of errors by its name, with its fields as __init__ stores them -/
structure Err (P : Program) (w : World) (K : PySem.W.Frag) (mg : Str → Option Value) (base : Heap) (k : Nat) (x : Str) (ps ns : List Str) : Prop where
  ex : ∃ (C fI : Addr) (fd : FuncData), ClsAt K x C ∧ mg x = some (.ref C) ∧ OexC K C ∧ XfC K C ∧ PySem.W.findIn K (.ref C) "__init__" = some (some (.ref fI)) ∧ PySem.W.typeIn K (.ref fI) = some (.type "function") ∧
    (∀ f ∈ ns, PySem.W.findIn K (.ref C) f = some none) ∧ FnOk P w K mg base (L2.CX P w) k fI fd ps (spI K ns) ∧ Binds K fd ps []
section
variable {P : Program} {w : World} {K : PySem.W.Frag} {mg : Str → Option Value} {base : Heap} {fI : Addr} {fd : FuncData} {x qual f g : Str} {st : Stmt} {self y z : Str}
/-- def __init__(self, y): self.f = y -/
theorem init1_ok {p1 p2 p3 p4 : Pos} (Fn : Fun K x qual st fI fd) (S : FnScope [self, y] [self, y] (defScope st)) (hb : defBody st = [.Assign [.Attribute (.Name self p1) f p2] (.Name y p3) p4])
    (body : ∀ (X : Cx), X.N = [self, y] → X.env.scope = defScope st → PE X (.Name self p1) (tVar 0) ∧ PE X (.Name y p3) (tVar 1) ∧ swapsWith (.Name y p3) (some (.Attribute (.Name self p1) f p2)) p4.line X.env = pure false) : FnOk P w K mg base (L2.CX P w) 1 fI fd [self, y] (spI K [f]) := by
  refine Fn.okX S (fun vs H Q E h => ?_) fun cdv A outer s H vs Q E hr h => ?_
  · obtain ⟨a, C, ys, rfl, l, _⟩ := h
    rw [List.length_cons, l]
    rfl
  · obtain ⟨b1, b2, b3⟩ := body (cxOf (L2.CX P w) P w K mg base [self, y] qual (defScope st) fI cdv A outer s H E) rfl rfl
    rw [hb]
    refine ⟨_, pss_one (ps_ost b1 b2 b3), ?_⟩
    obtain ⟨a, C, ys, rfl, l, T, hno, ha, q⟩ := h
    match ys, l with
    | [v], _ => exact ⟨v, rfl, .ref a, rfl, a, C, rfl, T, hno f List.mem_cons_self, .inl ⟨ha, fun dx h1 h2 => q dx h1 h2⟩⟩
end
/-- raise x(..) -/
def wRaise (x : Str) (ns : List Str) (wr : WA) : WS := fun D ρ M => wr ρ M fun ds M1 => ds.length = ns.length ∧ ds.length ≤ 1000 ∧ ∀ dx, D.xr x dx (ns.reverse, ds.reverse) ρ M1
theorem zip_rev {α β : Type} {xs : List α} {ys : List β} (h : xs.length = ys.length) : (xs.zip ys).reverse = xs.reverse.zip ys.reverse := by
  unfold List.zip
  exact List.reverse_zipWith h
theorem RepL.rev {K : PySem.W.Frag} {H : Hp} : ∀ {vs : List V} {ds : List D}, RepL K H vs ds → RepL K H vs.reverse ds.reverse
  | _, _, .nil => .nil
  | _, _, .cons r t => by
    rw [List.reverse_cons, List.reverse_cons]
    exact t.rev.app (.cons r .nil)
section
variable {X : Cx} {W : WX3} {e : Expr} {es : List Expr} {tr : TA} {wr : WA} {x : Str} {ps ns : List Str} {k : Nat} {p pos pos2 : Pos}
theorem ds_raise (h : Err X.prog X.w X.K X.mg X.base k x ps ns) (hc : X.calm = true) (hr : Room (k + 1) X.A) (tw : Takes X W) (ha : DA X (e :: es) tr wr) (hg : Gl X x := by rfl)
    (hdb : (x == ("__debug__" : Str)) = false := by decide) (he : starEach (e :: es) X.env = (false, eval e X.env) :: starEach es X.env := by rfl) (hpl : (backTo pos (starEach es X.env)).any (·.1) = false := by rfl) :
    ∃ t, DS X W (.Raise (some (.Call (.Name x p) (e :: es) [] pos)) none pos2) t (wRaise x ns wr) := by
  obtain ⟨C, fI, fd, hcl, hm, T, _, iC, tI, hno, F1, hb⟩ := h.ex
  refine ⟨_, ps_raise hc tw (pmk_oex T iC tI F1 hr hb .nil passL hg hm ha.pe hdb he hpl), fun Z D3 ρ M σ H D r h en => ?_⟩
  refine ha.sm Z ρ M σ H _ _ r h fun vs ds H1 M1 g1 r1 ⟨l1, l2, q1⟩ => ⟨by rw [r1.len]; exact l2, fun a hna => ?_⟩
  refine ⟨a, C, vs, by rw [List.append_nil], by rw [r1.len]; exact l1, T, hno, upd_same, fun dx hdx hne => ⟨rfl, dx, (ns.zip vs).reverse, upd_same, ?_, ?_, ?_⟩⟩
  · rw [upd_ne hne, upd_same]
  · rwa [upd_ne hne] at hdx
  · rw [upd_ne hne] at hdx
    have eq : upd (L2.del (upd (upd (upd H1 a (exo a C none)) dx (exd dx (ns.zip vs).reverse)) a (exo a C (some dx))) a) dx (.xd (ns.zip vs).reverse) = upd H1 dx (.xd (ns.zip vs).reverse) := by
      funext b
      by_cases hb : b = dx
      · subst hb
        rw [upd_same, upd_same]
      · rw [upd_ne hb, upd_ne hb]
        by_cases hb2 : b = a
        · subst hb2
          rw [L2.del_same, hna]
        · rw [L2.del_ne hb2, upd_ne hb2, upd_ne hb, upd_ne hb2]
    show W (.ref C) (some dx) σ (upd (L2.del (upd (upd (upd H1 a (exo a C none)) dx (exd dx (ns.zip vs).reverse)) a (exo a C (some dx))) a) dx (.xd (ns.zip vs).reverse))
    rw [eq]
    have l3 : ns.length = vs.length := by rw [r1.len]; exact l1.symm
    obtain ⟨g2, n2⟩ := Go.laid (p := dx) (o := .xd (ns.zip vs).reverse) g1.sat hdx
    rw [zip_rev l3] at g2 n2 ⊢
    exact en.xr x C dx vs.reverse (ns.reverse, ds.reverse) ρ σ _ M1 hcl (r.go (g1.trans g2)) (g1.trans g2) n2 (by rw [List.length_reverse, List.length_reverse]; exact l3) (r1.rev.up g2.ex) (q1 dx)
end
theorem takes_top {P : Program} {w : World} {K : PySem.W.Frag} {mg : Str → Option Value} {base : Heap} {N : List Str} {qual : Str} {sc : Scope} {f : Addr} {cdv : Value} {A : Around} {outer : List Env} {s : Shared} {H : Hp} {E : XK} :
    Takes (cxOf (L2.CX P w) P w K mg base N qual sc f cdv A outer s H E) (lw E) := takes_of rfl rfl rfl rfl
end L3
namespace L3
open PySem L2
/-! ### try -/
/-- a context that never is -/
theorem takes_void {X : Cx} {W : WX3} {o : Obj} : Takes (X.tr [(X.env.locals, o)] (fun _ _ => False)) W := fun u s' ⟨a, B, sI, pins, σ, H, cls, d, e, I, _⟩ => by
  have z := I.pin (X.env.locals, o) (List.mem_append_left _ List.mem_cons_self)
  exact z.2.2.1 rfl
/-- the wish of a try's body: a table says which classes are caught, ws is what then follows -/
def wTryAs (i : Nat) (hit : Str → Option Bool) (wb : WS) (ws : Addr → Str → Addr → WS) : WS := fun D ρ M => wb { D with xr := fun y dx fs ρ' M' => match hit y with
  | some true => ∀ a, ws a y dx { nx := fun ρ2 M2 => D.nx (ρ2.set i none) M2, rt := D.rt, bk := fun ρ2 M2 => D.bk (ρ2.set i none) M2, ct := fun ρ2 M2 => D.ct (ρ2.set i none) M2 } (ρ'.set i (some (.exc a y dx fs.1 fs.2))) M'
  | some false => D.xr y dx fs ρ' M'
  | none => False } ρ M
theorem RelS.gone {K : PySem.W.Frag} {H : Hp} {σ : L2.St} {ρ : En} (h : RelS K H σ ρ) (j : Nat) : RelS K H (σ.set j none) (ρ.set j none) := by
  refine ⟨by rw [List.length_set, List.length_set]; exact h.1, fun i e q => ?_⟩
  by_cases hij : i = j
  · subst hij
    by_cases hl : i < ρ.length
    · rw [List.getElem?_set_self hl] at q
      cases q
    · rw [List.getElem?_eq_none (by rw [List.length_set]; omega)] at q
      cases q
  · rw [List.getElem?_set_ne (Ne.symm hij)] at q ⊢
    exact h.2 i e q
/-- the context, to be named -/
structure CxIs (X : Cx) : Prop where
/-- a table of classes, by their names, against the class that a clause names -/
def Hits (K : PySem.W.Frag) (c : Value) (hit : Str → Option Bool) : Prop := ∀ (y : Str) (C : Addr) (b : Bool), ClsAt K y C → hit y = some b → PySem.W.exmOne K (.ref C) c = some b
/-- nothing -/
def o0 : Obj := ⟨.none, none, .fields #[], #[]⟩
def tsOf (K : PySem.W.Frag) (hit : Str → Option Bool) (ts : Addr → Str → Addr → Addr → Obj → List (Addr × Obj) → TS) (a : Addr) (cls : Value) (d : Option Addr) : TS := fun D σ H => ∃ y C dx, cls = .ref C ∧ d = some dx ∧ ClsAt K y C ∧ hit y = some true ∧ ts a y C dx o0 [] D σ H
section
variable {X : Cx} {W : WX3} {x n : Str} {c : Value} {i : Nat} {body suite : List Stmt} {b₀ : Stmt} {np pos pos' : Pos} {tb : WX3 → List (Addr × Obj) → (Value → Shared → Prop) → TS} {ts : Addr → Str → Addr → Addr → Obj → List (Addr × Obj) → TS} {wb : WS} {ws : Addr → Str → Addr → WS} {hit : Str → Option Bool}
theorem suite_pe (hS : ∀ (a : Addr) (oe : Obj) (y : Str) (C dx : Addr) (pn : List (Addr × Obj)), CxIs X → Zc (.ref C) (some dx) oe → (∃ vs, oe.data = .fields vs) → ClsAt X.K y C → hit y = some true → DSs (X.suite a ((a, oe) :: pn)) (fun _ _ _ _ => False) (b₀ :: suite) (ts a y C dx oe pn) (ws a y dx))
    (hts : ∀ a y C dx oe pn, ts a y C dx oe pn = ts a y C dx o0 []) (a : Addr) (oe : Obj) (cls : Value) (d : Option Addr) (pn : List (Addr × Obj)) (z : Zc cls d oe) (f : ∃ vs, oe.data = .fields vs) : PSs (X.suite a ((a, oe) :: pn)) (b₀ :: suite) (tsOf X.K hit ts a cls d) := by
  refine ⟨fun pins s σ H D I ⟨y, C, dx, e1, e2, ca, hy, h⟩ => ?_⟩
  subst e1
  subst e2
  rw [← hts a y C dx oe pn] at h
  exact (hS a oe y C dx pn ⟨⟩ z f ca hy).pe.run pins s σ H D I h
theorem ds_try_as (hs : X.stack = X.env :: X.outer) (hf : X.env.frame = some X.env.locals) (hN : X.N.Nodup) (hi : X.N[i]? = some n) (hln : X.env.kindOf n = some .local) (hc : Names X x c) (tw : Takes X W) (hh : Hits X.K c hit)
    (hb : ∀ (W' : WX3) (pn : List (Addr × Obj)) (xe : Value → Shared → Prop), Takes (X.tr pn xe) W' → PassesOwn (model X.prog X.w) X.A X.env xe → DSs (X.tr pn xe) W' body (tb W' pn xe) wb)
    (hS : ∀ (a : Addr) (oe : Obj) (y : Str) (C dx : Addr) (pn : List (Addr × Obj)), CxIs X → Zc (.ref C) (some dx) oe → (∃ vs, oe.data = .fields vs) → ClsAt X.K y C → hit y = some true → DSs (X.suite a ((a, oe) :: pn)) (fun _ _ _ _ => False) (b₀ :: suite) (ts a y C dx oe pn) (ws a y dx))  (htb : ∀ W' pn xe, tb W' pn xe = tb W' [] (fun _ _ => False) := by intros; rfl) (hts : ∀ a y C dx oe pn, ts a y C dx oe pn = ts a y C dx o0 [] := by intros; rfl) :
    DS X W (.Try body [.ExceptHandler (some (.Name x np)) (some n) (b₀ :: suite) pos'] [] [] pos) (fun D σ H => tb (wAs X.K c i (tsOf X.K hit ts) W D) [] (fun _ _ => False) D σ H) (wTryAs i hit wb ws) := by
  refine ⟨ps_try_as hs hf hN hi hln hc tw (tb := fun W' => tb W' [] (fun _ _ => False)) (fun W' pn xe tk pw => htb W' pn xe ▸ (hb W' pn xe tk pw).pe) (suite_pe hS hts), fun Z D3 ρ M σ H D r h en => ?_⟩
  have sm := (hb (wAs X.K c i (tsOf X.K hit ts) W D) [(X.env.locals, ⟨.none, none, .fields #[], #[]⟩)] (fun _ _ => False) takes_void PassesOwn.never).sm
  rw [htb] at sm
  refine sm Z _ ρ M σ H D r h ⟨en.nx, en.rt, en.bk, en.ct, fun y C dx vs fs ρ' σ' H' M' ca r' g e1 l1 rf z => ?_⟩
  dsimp only at z
  cases hy : hit y with
  | none =>
    rw [hy] at z
    exact z.elim
  | some b =>
    rw [hy] at z
    refine ⟨b, hh y C b ca hy, fun hb' a _ => ?_, fun hb' => ?_⟩
    · subst hb'
      have sm2 := (hS a ⟨.ref C, some dx, .fields #[], #[]⟩ y C dx [] ⟨⟩ ⟨rfl, rfl⟩ ⟨_, rfl⟩ ca hy).sm
      rw [hts] at sm2
      refine ⟨y, C, dx, rfl, rfl, ca, hy, sm2 Z _ _ M' _ H' _ ⟨r'.sat, r'.env.set i (.exc e1 l1 rf)⟩ (z a) ⟨fun ρ2 M2 σ2 H2 r2 g2 q => ?_, fun v d H2 M2 g2 r2 q => en.rt v d H2 M2 (g.trans g2) r2 q, fun ρ2 M2 σ2 H2 r2 g2 q => ?_, fun ρ2 M2 σ2 H2 r2 g2 q => ?_, fun _ _ _ _ _ _ _ _ _ _ _ _ _ _ _ z => z.elim⟩⟩
      · exact en.nx _ _ _ _ ⟨r2.sat, r2.env.gone i⟩ (g.trans g2) q
      · exact en.bk _ _ _ _ ⟨r2.sat, r2.env.gone i⟩ (g.trans g2) q
      · exact en.ct _ _ _ _ ⟨r2.sat, r2.env.gone i⟩ (g.trans g2) q
    · subst hb'
      exact en.xr y C dx vs fs ρ' σ' H' M' ca r' g e1 l1 rf z
/-- .. without a name -/
def wTryOnly (hit : Str → Option Bool) (wb : WS) (ws : Addr → Str → Addr → WS) : WS := fun D ρ M => wb { D with xr := fun y dx fs ρ' M' => match hit y with
  | some true => ∀ a, ws a y dx { nx := D.nx, rt := D.rt, bk := D.bk, ct := D.ct } ρ' M'
  | some false => D.xr y dx fs ρ' M'
  | none => False } ρ M
theorem ds_try_only (hs : X.stack = X.env :: X.outer) (hf : X.env.frame = some X.env.locals) (hc : Names X x c) (tw : Takes X W) (hh : Hits X.K c hit)
    (hb : ∀ (W' : WX3) (pn : List (Addr × Obj)) (xe : Value → Shared → Prop), Takes (X.tr pn xe) W' → PassesOwn (model X.prog X.w) X.A X.env xe → DSs (X.tr pn xe) W' body (tb W' pn xe) wb)
    (hS : ∀ (a : Addr) (oe : Obj) (y : Str) (C dx : Addr) (pn : List (Addr × Obj)), CxIs X → Zc (.ref C) (some dx) oe → (∃ vs, oe.data = .fields vs) → ClsAt X.K y C → hit y = some true → DSs (X.suite a ((a, oe) :: pn)) (fun _ _ _ _ => False) (b₀ :: suite) (ts a y C dx oe pn) (ws a y dx))  (htb : ∀ W' pn xe, tb W' pn xe = tb W' [] (fun _ _ => False) := by intros; rfl) (hts : ∀ a y C dx oe pn, ts a y C dx oe pn = ts a y C dx o0 [] := by intros; rfl) :
    DS X W (.Try body [.ExceptHandler (some (.Name x np)) none (b₀ :: suite) pos'] [] [] pos) (fun D σ H => tb (wOnly X.K c (tsOf X.K hit ts) W D) [] (fun _ _ => False) D σ H) (wTryOnly hit wb ws) := by
  refine ⟨ps_try_only hs hf hc tw (tb := fun W' => tb W' [] (fun _ _ => False)) (fun W' pn xe tk pw => htb W' pn xe ▸ (hb W' pn xe tk pw).pe) (suite_pe hS hts), fun Z D3 ρ M σ H D r h en => ?_⟩
  have sm := (hb (wOnly X.K c (tsOf X.K hit ts) W D) [(X.env.locals, ⟨.none, none, .fields #[], #[]⟩)] (fun _ _ => False) takes_void PassesOwn.never).sm
  rw [htb] at sm
  refine sm Z _ ρ M σ H D r h ⟨en.nx, en.rt, en.bk, en.ct, fun y C dx vs fs ρ' σ' H' M' ca r' g e1 l1 rf z => ?_⟩
  dsimp only at z
  cases hy : hit y with
  | none =>
    rw [hy] at z
    exact z.elim
  | some b =>
    rw [hy] at z
    refine ⟨b, hh y C b ca hy, fun hb' a _ => ?_, fun hb' => ?_⟩
    · subst hb'
      have sm2 := (hS a ⟨.ref C, some dx, .fields #[], #[]⟩ y C dx [] ⟨⟩ ⟨rfl, rfl⟩ ⟨_, rfl⟩ ca hy).sm
      rw [hts] at sm2
      exact ⟨y, C, dx, rfl, rfl, ca, hy, sm2 Z _ _ M' _ H' _ r' (z a) ⟨fun ρ2 M2 σ2 H2 r2 g2 q => en.nx _ _ _ _ r2 (g.trans g2) q, fun v d H2 M2 g2 r2 q => en.rt v d H2 M2 (g.trans g2) r2 q, fun ρ2 M2 σ2 H2 r2 g2 q => en.bk _ _ _ _ r2 (g.trans g2) q, fun ρ2 M2 σ2 H2 r2 g2 q => en.ct _ _ _ _ r2 (g.trans g2) q, fun _ _ _ _ _ _ _ _ _ _ _ _ _ _ _ z => z.elim⟩⟩
    · subst hb'
      exact en.xr y C dx vs fs ρ' σ' H' M' ca r' g e1 l1 rf z
end
/-! ### in an except suite -/
/-- what a class of errors says of itself -/
structure ErrF (K : PySem.W.Frag) (C : Addr) : Prop where
  xf : XfC K C
  cl : (PySem.W.clsIn K C).isSome = true
  ha : PySem.W.findIn K (.ref C) "__class__" = some (some (.builtin "object.__class__"))
  hn : PySem.W.specialIn K (.builtin "object.__class__") "__get__" = some (some (.builtin "getset_descriptor.__get__"))
  ht : PySem.W.takesIn K (.builtin "object.__class__") = some true
  hm : PySem.W.mroIn K C (.type "object") = some true
section
variable {X : Cx} {a C dx : Addr} {oe : Obj} {y f x : Str} {pn : List (Addr × Obj)} {e : Expr} {te : TE} {we : WE} {p p2 pos : Pos}
/-- e.f, e the error that is held -/
def wXf (a : Addr) (y : Str) (dx : Addr) (f : Str) (we : WE) : WE := fun ρ M Q => we ρ M fun d M1 => match d with
  | .exc a' y' dx' ns ds => a' = a ∧ y' = y ∧ dx' = dx ∧ ∃ d, (ns.zip ds).lookup f = some d ∧ Q d M1
  | _ => False
theorem lookup_rep {K : PySem.W.Frag} {H : Hp} {f : Str} {d : D} : ∀ {ns : List Str} {vs : List V} {ds : List D}, ns.length = vs.length → RepL K H vs ds → (ns.zip ds).lookup f = some d → ∃ v, (ns.zip vs).lookup f = some v ∧ Rep K H v d
  | [], _, _, _, _, h => by cases h
  | n :: ns, [], _, l, _, _ => by cases l
  | n :: ns, v :: vs, _, l, .cons (d := d') (ds := ds') r t, h => by
    have h' : (match f == n with | true => some d' | false => (ns.zip ds').lookup f) = some d := h
    show ∃ v', (match f == n with | true => some v | false => (ns.zip vs).lookup f) = some v' ∧ Rep K H v' d
    cases q : f == n with
    | true =>
      rw [q] at h'
      cases h'
      exact ⟨v, rfl, r⟩
    | false =>
      rw [q] at h'
      exact lookup_rep (Nat.succ.inj l) t h'
theorem de_xf (T : ErrF X.K C) (hno : PySem.W.findIn X.K (.ref C) f = some none) (hz : Zc (.ref C) (some dx) oe) (hf : ∃ vs, oe.data = .fields vs) (he : DE (X.suite a ((a, oe) :: pn)) e te we) (hb : attributeBase e f X.env (eval e X.env) = eval e X.env := by rfl) :
    DE (X.suite a ((a, oe) :: pn)) (.Attribute e f pos) (tXf a (.ref C) (some dx) C f te) (wXf a y dx f we) := by
  refine ⟨pe_xf T.xf hno hz hf he.pe hb, fun Z ρ M σ H Q Q' s h q => ?_⟩
  refine he.sm Z ρ M σ H _ _ s h fun v d H1 M1 g1 r1 q1 => ?_
  cases d with
  | exc a' y' dx' ns ds =>
    obtain ⟨rfl, rfl, rfl, d, hl, q2⟩ := q1
    cases r1 with
    | exc h1 l1 rl =>
      obtain ⟨v, hv, rv⟩ := lookup_rep l1 rl hl
      exact ⟨rfl, rfl, dx', _, v, rfl, fz_sub _ _ h1, hv, q v d H1 M1 g1 rv q2⟩
  | _ => exact q1.elim
/-- isinstance(e, c), c an own class of errors, or ValueError -/
def rIsX (K : PySem.W.Frag) (D a dx : Addr) (cv : Value) : List V → Hp → VK → Prop := fun xs H Q => ∃ (c : V) (b : Bool) (fs : List (Str × V)), xs = [.ref a, c] ∧ (∀ u, RelV c u → u = cv) ∧ H dx = some (.xd fs) ∧ PySem.W.kitOne K (.ref D) cv = some b ∧ Q (.bl b) H
theorem call_isX {cv : Value} (T : ErrF X.K C) (hz : Zc (.ref C) (some dx) oe) (hf : ∃ vs, oe.data = .fields vs) : CallR (X.suite a ((a, oe) :: pn)) (.builtin "isinstance") (rIsX X.K C a dx cv) := by
  intro pins s σ H xs us Q I r h
  obtain ⟨c, b, fs, rfl, hcv, hd, e, q⟩ := h
  cases r with
  | cons rx rr =>
  cases rr with
  | cons rt rr =>
  cases rr
  cases rx
  have ec := hcv _ rt
  subst ec
  obtain ⟨hget, _⟩ := I.pin (a, oe) (List.mem_append.mpr (.inl List.mem_cons_self))
  obtain ⟨vs, hv⟩ := hf
  obtain ⟨mA, hns, _⟩ : ObjOk X.prog X.w H s.heap dx (.xd fs) := I.hok dx _ hd
  obtain ⟨od, ho, _⟩ := lookIn_ns hns
  have J : PySem.W.InstAt s.heap a oe C (some od) := ⟨hget, hz.1, by unfold PySem.W.notCls; rw [hv] <;> rfl, by rw [hz.2]; exact ho⟩
  exact PySem.W.kia_one (PySem.W.kitx_exc T.cl T.xf.ga T.xf.gg T.xf.exC T.ha T.hn T.ht T.hm) I.kIn J e (fun z => nomatch z) fun tk => ⟨.bl b, H, I.kept (t' := tk) fun _ _ z => z, rfl, q⟩
def wIsX (a : Addr) (y : Str) (dx : Addr) (tab : Str → Option Bool) (we : WE) : WE := fun ρ M Q => we ρ M fun d M1 => match d with
  | .exc a' y' dx' _ _ => a' = a ∧ y' = y ∧ dx' = dx ∧ ∃ b, tab y = some b ∧ Q (.bl b) M1
  | _ => False
theorem de_isX {tab : Str → Option Bool} {v : V} {cv : Value} (T : ErrF X.K C) (ca : ClsAt X.K y C) (ht : ∀ C' b, ClsAt X.K y C' → tab y = some b → PySem.W.kitOne X.K (.ref C') cv = some b) (hz : Zc (.ref C) (some dx) oe) (hf : ∃ vs, oe.data = .fields vs)
    (hv : ∀ u, RelV v u → u = cv) (hm : X.mg "isinstance" = none) (he : DE (X.suite a ((a, oe) :: pn)) e te we) (hc : PE (X.suite a ((a, oe) :: pn)) (.Name x p2) (tC v)) (hg : Gl X "isinstance" := by rfl)
    (hs : starEach [e, .Name x p2] X.env = (false, eval e X.env) :: starEach [.Name x p2] X.env := by rfl) (hpl : (backTo pos (starEach [.Name x p2] X.env)).any (·.1) = false := by rfl)
    (hs2 : starEach [.Name x p2] X.env = [(false, eval (.Name x p2) X.env)] := by rfl) :
    DE (X.suite a ((a, oe) :: pn)) (.Call (.Name "isinstance" p) [e, .Name x p2] [] pos) (tCB (rIsX X.K C a dx cv) (tCons te (tCons (tC v) tNil))) (wIsX a y dx tab we) := by
  refine ⟨pe_callB (call_isX T hz hf) hg hm (by decide +kernel) (pa_cons he.pe (pa_cons hc pa_nil hs2) hs) (by decide) (by decide) hs hpl, fun Z ρ M σ H Q Q' s h q => ?_⟩
  refine he.sm Z ρ M σ H _ _ s h fun w d H1 M1 g1 r1 q1 => ?_
  cases d with
  | exc a' y' dx' ns ds =>
    obtain ⟨rfl, rfl, rfl, b, hb, q2⟩ := q1
    cases r1 with
    | exc h1 l1 rl => exact ⟨v, b, _, rfl, hv, fz_sub _ _ h1, ht C b ca hb, q _ _ H1 M1 g1 (.bl b) q2⟩
  | _ => exact q1.elim
end
end L3
namespace L3
open PySem L2
/-! ### plain values compared where an error is handled; tables of classes -/
def eqSc (neg : Bool) : F2 := fun d e M Q => match eqS d e with
  | some b => Q (.bl (if neg then !b else b)) M
  | none => False
theorem sim_eqSc {K : PySem.W.Frag} : SimR K rEq (eqSc false) := by
  intro Z x y d e H M Q Q' S r1 r2 f q
  unfold eqSc at f
  cases h : eqS d e with
  | none =>
    rw [h] at f
    exact f.elim
  | some b =>
    rw [h] at f
    obtain ⟨z1, z2⟩ := eqS_rep r1 r2 h
    subst z2
    exact ⟨z1, q _ _ H M (Go.refl S) (.bl _) f⟩
theorem sim_neSc {K : PySem.W.Frag} : SimR K rNe (eqSc true) := by
  intro Z x y d e H M Q Q' S r1 r2 f q
  unfold eqSc at f
  cases h : eqS d e with
  | none =>
    rw [h] at f
    exact f.elim
  | some b =>
    rw [h] at f
    obtain ⟨z1, z2⟩ := eqS_rep r1 r2 h
    subst z2
    exact ⟨z1, q _ _ H M (Go.refl S) (.bl _) f⟩
theorem tab_in {L : List (Str × Bool)} {N : List Str} {y : Str} {b : Bool} (h : L.lookup y = some b) (hs : ∀ p ∈ L, p.1 ∈ N) : y ∈ N := by
  induction L with
  | nil => cases h
  | cons p L ih =>
    obtain ⟨x, c⟩ := p
    have h' : (match y == x with | true => some c | false => L.lookup y) = some b := h
    cases q : y == x with
    | true =>
      rw [beq_iff_eq.mp q]
      exact hs _ List.mem_cons_self
    | false =>
      rw [q] at h'
      exact ih h' fun p hp => hs p (List.mem_cons_of_mem _ hp)
theorem tab_mem {L : List (Str × Bool)} {y : Str} {b : Bool} (h : L.lookup y = some b) : (y, b) ∈ L := by
  induction L with
  | nil => cases h
  | cons p L ih =>
    obtain ⟨x, c⟩ := p
    have h' : (match y == x with | true => some c | false => L.lookup y) = some b := h
    cases q : y == x with
    | true =>
      rw [q] at h'
      cases h'
      rw [beq_iff_eq.mp q]
      exact List.mem_cons_self
    | false =>
      rw [q] at h'
      exact List.mem_cons_of_mem _ (ih h')
theorem cls_one {K : PySem.W.Frag} {y : Str} {C C' : Addr} (h : ClsAt K y C) (h' : ClsAt K y C') : C = C' := by
  unfold ClsAt at h h'
  rw [h] at h'
  cases h'
  rfl
/-- a table of classes from its entries -/
theorem hits_of {K : PySem.W.Frag} {c : Value} {L : List (Str × Bool)} (h : ∀ p ∈ L, ∃ C, ClsAt K p.1 C ∧ PySem.W.exmOne K (.ref C) c = some p.2) : Hits K c (fun x => L.lookup x) := fun y C b ca hy => by
  obtain ⟨C', c1, c2⟩ := h (y, b) (tab_mem hy)
  rw [cls_one ca c1]
  exact c2
theorem kits_of {K : PySem.W.Frag} {c : Value} {L : List (Str × Bool)} (h : ∀ p ∈ L, ∃ C, ClsAt K p.1 C ∧ PySem.W.kitOne K (.ref C) c = some p.2) : ∀ y C b, ClsAt K y C → L.lookup y = some b → PySem.W.kitOne K (.ref C) c = some b := fun y C b ca hy => by
  obtain ⟨C', c1, c2⟩ := h (y, b) (tab_mem hy)
  rw [cls_one ca c1]
  exact c2
theorem cls_all {K : PySem.W.Frag} {N : List Str} {Φ : Addr → Prop} (h : ∀ x ∈ N, ∃ C, ClsAt K x C ∧ Φ C) : ∀ y C, ClsAt K y C → y ∈ N → Φ C := fun y C ca hy => by
  obtain ⟨C', c1, c2⟩ := h y hy
  rw [cls_one ca c1]
  exact c2
theorem op_eqS {X : Cx} (_ : CxIs X) (a : Addr) (oe : Obj) (pn : List (Addr × Obj)) : OpR (X.suite a ((a, oe) :: pn)) (compareOp .Eq) rEq := op_eq
theorem op_neS {X : Cx} (_ : CxIs X) (a : Addr) (oe : Obj) (pn : List (Addr × Obj)) : OpR (X.suite a ((a, oe) :: pn)) (compareOp .NotEq) rNe := op_ne
theorem de_eqS {X : Cx} {e1 e2 : Expr} {t1 t2 : TE} {w1 w2 : WE} {pos : Pos} (_ : CxIs X) (a : Addr) (oe : Obj) (pn : List (Addr × Obj)) (h1 : DE (X.suite a ((a, oe) :: pn)) e1 t1 w1) (h2 : DE (X.suite a ((a, oe) :: pn)) e2 t2 w2) :
    DE (X.suite a ((a, oe) :: pn)) (.Compare e1 [.Eq] [e2] pos) (tOp rEq t1 t2) (wOp (eqSc false) w1 w2) := de_cmp op_eq sim_eqSc h1 h2
theorem de_neS {X : Cx} {e1 e2 : Expr} {t1 t2 : TE} {w1 w2 : WE} {pos : Pos} (_ : CxIs X) (a : Addr) (oe : Obj) (pn : List (Addr × Obj)) (h1 : DE (X.suite a ((a, oe) :: pn)) e1 t1 w1) (h2 : DE (X.suite a ((a, oe) :: pn)) e2 t2 w2) :
    DE (X.suite a ((a, oe) :: pn)) (.Compare e1 [.NotEq] [e2] pos) (tOp rNe t1 t2) (wOp (eqSc true) w1 w2) := de_cmp op_ne sim_neSc h1 h2
/-- the j-th statement of a class's body -/
def clsAt (s : Stmt) (j : Nat) : Stmt := match s with
  | .ClassDef _ _ _ body _ _ _ _ _ _ _ => body.getD j (.Pass ⟨0, 0, 0, 0⟩)
  | s => s
end L3
namespace L3
open PySem L2
/-! ### a value is itself -/
theorem eqD_refl {n : Nat} {d : D} (f : fit n d) : eqD d d = true := PySem.SeqAt.eqv_refl d.py (fit_lay n d f).1
theorem eqV_self {neg : Bool} {M : Mp} {Q : KD} {n : Nat} {d : D} (hn : n ≤ 60) (f : fit n (res M d)) (q : Q (.bl (!neg)) M) : eqV neg d d M Q := by
  have main : eqD2 neg d d M Q := ⟨⟨n, hn, f, f⟩, by
    rw [eqD_refl f]
    cases neg <;> exact q⟩
  have sc : ∀ P : Prop, [Decidable P] → P → Q (.bl (if neg = true then !decide P else decide P)) M := fun P _ h => by
    rw [decide_eq_true h]
    cases neg <;> exact q
  cases d with
  | int i => exact sc _ rfl
  | str x => exact sc _ rfl
  | bl b => exact sc _ rfl
  | _ => first | exact main | exact sc _ rfl | exact sc _ trivial
theorem repr_of {M : Mp} {Q : KD} {n : Nat} {d : D} (hn : n ≤ 60) (h : shw n (res M d)) (hc : cost (res M d) ≤ 16000000) (q : Q (.str (shown (res M d))) M) : fRepr [d] M Q := ⟨⟨n, hn, h⟩, hc, q⟩
theorem kit_of_exm {K : PySem.W.Frag} {t c : Value} {b : Bool} (h : PySem.W.exmOne K t c = some b) (e : (t == c) = true → b = true) : PySem.W.kitOne K t c = some b := by
  unfold PySem.W.exmOne at h
  unfold PySem.W.kitOne
  split at h
  · split
    · rename_i h2
      rw [e h2]
    · exact h
  · cases h
end L3
namespace L3
open PySem L2
/-! ### sorted -/
theorem each_vals {K : PySem.W.Frag} {H : Hp} : ∀ {ys : List V} {its : List Value} {ds : List D}, Vals ys its → RepL K H ys ds → PySem.W.EachIs (fun v d => ∃ y, RelV y v ∧ Rep K H y d) its ds
  | _, _, _, .nil, .nil => .nil
  | _, _, _, .cons rv rvs, .cons rd rds => .cons ⟨_, rv, rd⟩ (each_vals rvs rds)
theorem vals_each {K : PySem.W.Frag} {H : Hp} : ∀ {its : List Value} {ds : List D}, PySem.W.EachIs (fun v d => ∃ y, RelV y v ∧ Rep K H y d) its ds → ∃ ys, Vals ys its ∧ RepL K H ys ds
  | _, _, .nil => ⟨[], .nil, .nil⟩
  | _, _, .cons ⟨y, a, b⟩ r => by
    obtain ⟨ys, h1, h2⟩ := vals_each r
    exact ⟨y :: ys, .cons a h1, .cons b h2⟩
theorem each_read {X : Cx} {pins : List (Addr × Obj)} {σ : L2.St} {H : Hp} {s : Shared} (I : L2.Inv X pins σ H s) (n : Nat) : ∀ {ys : List V} {its : List Value} {ds : List D}, Vals ys its → RepL X.K H ys ds → (∀ d ∈ ds, fit n d) → PySem.W.EachIs (fun v d => ∃ as, Reads s.heap v (D.py d) as) its ds
  | _, _, _, .nil, .nil, _ => .nil
  | _, _, _, .cons rv rvs, .cons rd rds, hf => .cons (Dp.reads I _ _ _ (Rep.dp n _ _ (hf _ List.mem_cons_self) rd) rv) (each_read I n rvs rds fun d hd => hf d (List.mem_cons_of_mem _ hd))
def srtD (ds : List D) : List D := ds.mergeSort (PySem.W.dataLe false D.py)
def rSrt (K : PySem.W.Frag) : List V → Hp → VK → Prop := fun xs H Q => ∃ (p : Addr) (ys : List V) (ds : List D) (n : Nat) (Hf : Hp), xs = [.ref p] ∧ SqL K H p ys ∧ RepL K H ys ds ∧ RepL K Hf ys ds ∧ n ≤ 60 ∧ (∀ d ∈ ds, fit n d) ∧ PySem.W.AllAlike (ds.map D.py) ∧ PySem.W.Sortable (ds.map D.py) ∧
  ∀ (l : Addr) (zs : List V), H l = none → RepL K Hf zs (srtD ds) → Q (.ref l) (upd H l (.lst zs))
theorem cr_srt {X : Cx} {k : Nat} (hr : Room k X.A) : CallR X (.builtin "sorted") (rSrt X.K) := by
  intro pins s σ H xs us Q I r h
  obtain ⟨p, ys, ds, n, Hf, rfl, hs, rl, rl2, hn, hf, al, so, q⟩ := h
  rw [Vals.ref1 r]
  obtain ⟨its, rv, pl, hz⟩ := I.list hs
  have hu := hr.units
  have hl : ds.length ≤ sizeLine := by rw [← rl.len]; exact hz
  refine PySem.W.sorted_data (enc := D.py) pl.isList (each_vals rv rl2) (each_read I n rv rl hf) al so hl (fun d hd => ?_) fun out ho he => ?_
  · have := (fit_lay n d (hf d hd)).2
    show X.A.units + 2 + d.py.depth < cLine
    omega
  · obtain ⟨zs, z1, z2⟩ := vals_each he
    obtain ⟨ep, hp⟩ := PyProof.Rows.sortedAll_at s.heap its out.toArray
    refine ⟨.ref _, upd H (s.heap.objs.size + 1) (.lst zs), I.laid (t' := s.toks) (fun _ _ => PyProof.Rows.sortedAll_old) (Nat.le_succ _) ⟨?_, out, ep, z1, hp⟩, rfl, q _ zs (I.hok.fresh (Nat.le_succ _)) z2⟩
    rw [z1.length, ho]
    exact hl
def fSrt : FC := fun ds M Q => match ds with
  | [d] => ∃ (es : List D) (n : Nat), (∃ a, d = .tok a ∨ d = .lst es) ∧ seqD M d = some es ∧ n ≤ 60 ∧ (∀ e ∈ es, fit n e) ∧ PySem.W.AllAlike (es.map D.py) ∧ PySem.W.Sortable (es.map D.py) ∧ Q (.lst (srtD es)) M
  | _ => False
theorem sim_srt {K : PySem.W.Frag} : SimC K (rSrt K) fSrt := by
  intro Z xs ds H M Q Q' S r f q
  unfold fSrt at f
  split at f
  · cases r with
    | cons r1 r2 =>
      cases r2
      obtain ⟨es, n, hd, hs, hn, hf, al, so, z⟩ := f
      obtain ⟨p, vs, rfl, hv, rl⟩ := lst_of S r1 hd hs
      refine ⟨p, vs, es, n, fz Z H M, rfl, hv, rl.up fz_sub, rl, hn, hf, al, so, fun l zs hl rz => ?_⟩
      obtain ⟨g, hn2⟩ := Go.laid (o := .lst zs) S hl
      exact q _ _ _ _ g (.lst (.inl (.inl hn2)) (rz.up g.ex)) z
  · exact f.elim
end L3
namespace L3
open PySem L2
/-! ### enumerate(a tuple) -/
theorem enum_newT {v : Value} {o : Obj} {Fh : Heap → Prop} (B : Begins v o Fh) :
    Meets (Builtin.«enumerate.__new__» ⟨[.type "enumerate", v], []⟩) (fun _ R s => Fh s.heap ∧
      R (.ok (.ret (.ref (s.heap.push o).objs.size))) { s with heap := (s.heap.push o).push { cls := .type "enumerate", data := .fields #[.none, .bool false, .ref s.heap.objs.size, rawInt 0, .none, .none] } }) :=
  .of_wp fun prog w A R s h => by
    obtain ⟨hp, g, d, tk, os⟩ := s
    obtain ⟨h1, h⟩ := h
    have sub := sub_enumerate
    have qi : ∀ {A' : Around} {E : Value → Shared → Prop} {Q : Value → Shared → Prop}, Q (.ref hp.objs.size) ⟨hp.push o, g, d, tk, os⟩ → wpAny (model prog w) A' (pyIter v) Q E ⟨hp, g, d, tk, os⟩ :=
      fun q => B.iter prog w _ _ ⟨hp, g, d, tk, os⟩ _ h1 q
    wp_walk using qi
    refine wpAny_stack_any fun st => wpAny_pure ?_
    split
    · rename_i c _ _ _ _ _
      cases (c == Value.type "enumerate") <;> (wp_walk using qi; exact ⟨_, rfl, h⟩)
    · wp_walk using qi
      exact ⟨_, rfl, h⟩
theorem call_enumT {prog : Program} {w : World} {A : Around} {E : Value → Shared → Prop} {s : Shared} {v : Value} {o : Obj} {Fh : Heap → Prop} {Q : Value → Shared → Prop} (B : Begins v o Fh) (h1 : Fh s.heap)
    (h : ∀ h', IsEnum h' (s.heap.objs.size + 1) s.heap.objs.size 0 .none → h'.get? s.heap.objs.size = some o → (∀ b u, s.heap.get? b = some u → h'.get? b = some u) → Q (.ref (s.heap.objs.size + 1)) { s with heap := h' }) :
    wpAny (model prog w) A (call (.type "enumerate") [v]) Q E s := by
  refine callType_new F.called_enumerate (by decide) (F.typeCall_enumerate_1 _) (F.newCall_enumerate_1 _) (fun obj => F.args_object_init_2 obj _) F.entry_enumerate_new (enum_newT B) ⟨h1, ?_⟩
  have z : (s.heap.push o).objs.size = s.heap.objs.size + 1 := Heap.size_push ..
  show _ ∧ _
  rw [z]
  have e : ((s.heap.push o).push { cls := .type "enumerate", data := .fields #[.none, .bool false, .ref s.heap.objs.size, rawInt 0, .none, .none] }).get? (s.heap.objs.size + 1) = some { cls := .type "enumerate", data := .fields #[.none, .bool false, .ref s.heap.objs.size, rawInt 0, .none, .none] } := by
    have q := Heap.get?_push_size (s.heap.push o) (o := { cls := .type "enumerate", data := .fields #[.none, .bool false, .ref s.heap.objs.size, rawInt 0, .none, .none] }) rfl
    rwa [z] at q
  exact ⟨⟨_, e, rfl⟩, h _ e (Heap.get?_push_of_some _ (Heap.get?_push_size _ B.free)) fun b u x => Heap.get?_push_of_some _ (Heap.get?_push_of_some _ x)⟩
def okE (K : PySem.W.Frag) (a : Addr) (xs : List V) (H : Hp) : Prop := SqT K H a xs
def yvE (xs : List V) (i : Nat) : List V := [.int (i : Int), xs.getD i .non]
theorem turn_enumT {P : Program} {w : World} {K : PySem.W.Frag} {elts : List Expr} {kk : Nat} {tpos : Pos} {N : Nat} {a : Addr} {xs : List V} (la : a < N) :
    Turn P w K (.Tuple elts kk tpos) (ItG xs.length (okE K a xs) (yvE xs)) [N + 1, N] (N + 1) (fun i h => i ≤ xs.length ∧ (∃ old, IsEnum h (N + 1) N i old) ∧ h.IsTupleIter N a i) := by
  refine turn_G (wr := [N + 1, N]) (by simp) (fun i h st q hq => ?_) (fun i h h' st k => ?_) (fun A i s Q E st h => ?_) (fun i h st => st.1) (fun q hq => hq) (fun i => by show 2 ≤ sizeLine; decide) (fun X hP hw hK hc pins s σ H I hok => ?_)
  · obtain ⟨_, ⟨old, he⟩, ⟨o, ho, _, d⟩⟩ := st
    have e' : q = N + 1 ∨ q = N := by simpa using hq
    rcases e' with z | z
    · rw [z]
      exact ⟨_, he, fun v q => nomatch q⟩
    · rw [z]
      exact ⟨o, ho, fun v q => by rw [d] at q; cases q⟩
  · obtain ⟨hl, ⟨old, he⟩, hi⟩ := st
    exact ⟨hl, ⟨old, k _ (by simp) _ he⟩, hi.at fun o q => k N (by simp) o q⟩
  · obtain ⟨_, ⟨old, he⟩, _⟩ := st
    exact wpAny_pyIter_enum he h
  · subst hP hw hK
    obtain ⟨ts, v1, p1, _⟩ := I.tuple hok
    have hd : X.A.handled = none := I.ok.hd hc
    have D1 := Draws.tuple (prog := X.prog) (w := X.w) (A := X.A.in1) hd N a (Nat.ne_of_lt la) ts.toArray
    have W := WalksT.enumerateD D1 (N + 1) (Nat.succ_ne_self N) (fun z => by
      rcases List.mem_cons.mp z with z | z
      · exact Nat.succ_ne_self N z
      · have := List.mem_singleton.mp z
        exact absurd (this ▸ la : N + 1 < N) (Nat.not_lt.mpr (Nat.le_succ N))) List.mem_cons_self
    have en : ts.toArray.size = xs.length := by rw [List.size_toArray, ← v1.length]
    rw [en] at W
    refine ⟨_, _, fun i h => i ≤ xs.length ∧ ((∃ old, IsEnum h (N + 1) N i old) ∧ h.IsTupleIter N a i ∧ h.IsTuple a ts.toArray), fun i T h => i + 1 ≤ xs.length ∧ _,
      ⟨W.sub, fun i h h' st k => ⟨st.1, W.frame i h h' st.2 k⟩, fun i s Q E hi st q => W.item i s Q E hi st.2 fun T vals h' tk a1 a2 a3 a4 a5 => q T vals h' tk a1 a2 a3 ⟨hi, a4⟩ a5,
        fun elts k pos i T s Q E m q => W.go elts k pos i T s Q E m.2 fun h' a1 a2 => q h' ⟨m.1, a1⟩ a2, fun i T h m => W.apart i T h m.2, fun s Q E st q => W.done s Q E st.2 q, fun i s Q E st q => W.self i s Q E st.2 q⟩,
      fun i st => ⟨st.1, st.2.1, st.2.2, p1⟩, fun i h ⟨hl, he, h1⟩ => ⟨hl, he, h1.1⟩, fun i vals hv => ?_⟩
    obtain ⟨t, x, e1, rfl⟩ := hv
    exact .cons ⟨_, rfl⟩ (.cons (vals_at v1 e1) .nil)
def iEnumT (K : PySem.W.Frag) (ta : TA) : TI := fun σ H R => ta σ H fun vs H1 => ∃ a xs, vs = [.ref a] ∧ SqT K H1 a xs ∧ R (ItG xs.length (okE K a xs) (yvE xs)) H1
theorem pi_enumT {X : Cx} {e : Expr} {ta : TA} {p pos tpos : Pos} {elts : List Expr} {kk : Nat} (hg : Gl X "enumerate") (hm : X.mg "enumerate" = none) (ha : PA X [e] ta) (hs : starEach [e] X.env = [(false, eval e X.env)] := by rfl) :
    PI X (.Tuple elts kk tpos) (.Call (.Name "enumerate" p) [e] [] pos) (iEnumT X.K ta) := by
  refine ⟨fun pins s σ H R I h => PyProof.Rows.Call_ (ld_blt I hg hm (show bootBuiltins "enumerate" = some (.type "enumerate") from rfl) (PyProof.Rows.callWith_type1 (thn (ha.run pos pins s σ H _ I h) fun us s1 ⟨vs, H1, I1, r1, q1⟩ => ?_) hs rfl))⟩
  obtain ⟨a, xs, ex, o1, q⟩ := q1
  subst ex
  cases r1 with
  | cons ra rr =>
  cases rr
  cases ra
  obtain ⟨ts, v1, p1, _⟩ := I1.tuple o1
  obtain ⟨b1, hb1, _⟩ := id p1
  refine call_enumT (begins_tuple a ts.toArray) p1 fun h' he hi hk => wpAny_pyIter_enum he ?_
  have I2 : Inv X pins σ H1 { s1 with heap := h' } := I1.kept (t' := s1.toks) hk
  refine ⟨s1.heap.objs.size + 1, [s1.heap.objs.size + 1, s1.heap.objs.size], _, _, H1, rfl, I2, turn_enumT (N := s1.heap.objs.size) (Heap.lt_size hb1), ⟨Nat.zero_le _, ⟨_, he⟩, ⟨_, hi, rfl, rfl⟩⟩, fun q hq => ?_, q⟩
  have e' : q = s1.heap.objs.size + 1 ∨ q = s1.heap.objs.size := by simpa using hq
  have hle : s1.heap.objs.size ≤ q := by
    rcases e' with z | z <;> (rw [z]; first | exact Nat.le_add_right _ _ | exact Nat.le_refl _)
  exact I1.fpOk hle (I1.hok.fresh hle)
/-! by data -/
def enumD (xs : List D) : List D := (List.range xs.length).map fun (i : Nat) => D.tup [.int (i : Int), xs.getD i .non]
def wiEnum (w : WA) : WI := fun ρ M R => w ρ M fun ds M1 => match ds with
  | [.tup xs] => R (enumD xs) AnyM M1
  | _ => False
theorem walks_e {K : PySem.W.Frag} {Z H : Hp} {M : Mp} {p : Addr} {vs : List V} {ds : List D} (h1 : SqT K (fz Z H M) p vs) (r1 : RepL K (fz Z H M) vs ds) : Walks3 K Z H M (ItG vs.length (okE K p vs) (yvE vs)) (enumD ds) AnyM := by
  intro Z2 H2 M2 S ex _
  have k : okE K p vs H2 := sqt_mono (ex.trans fz_sub) h1
  have en : (enumD ds).length = vs.length := by
    unfold enumD
    rw [List.length_map, List.length_range, r1.len]
  refine ⟨fun i d e => ?_, fun i hi => ⟨k, by rw [← en]; exact hi⟩⟩
  have li := (List.getElem?_eq_some_iff.mp e).1
  have li2 : i < ds.length := by rw [en, r1.len] at li; exact li
  have ed : d = D.tup [.int (i : Int), ds.getD i .non] := by
    unfold enumD at e
    rw [List.getElem?_map, List.getElem?_range li2] at e
    exact (Option.some.inj e).symm
  subst ed
  refine ⟨⟨k, by rw [← en]; exact li⟩, fun z H3 ⟨T, ez, hT, eH⟩ => ?_⟩
  subst ez
  subst eH
  obtain ⟨g, n⟩ := Go.laid (o := .tup (yvE vs i)) S hT
  exact ⟨g, .tup (.inl (.inl n)) (.cons (.int _) (.cons (((rep_getd r1 i li2).up ex).up g.ex) .nil))⟩
theorem di_enumT {X : Cx} {e : Expr} {tr : TA} {wr : WA} {p pos tpos : Pos} {elts : List Expr} {kk : Nat} (hm : X.mg "enumerate" = none) (ha : DA X [e] tr wr) (hg : Gl X "enumerate" := by rfl) (hs : starEach [e] X.env = [(false, eval e X.env)] := by rfl) :
    DI X (.Tuple elts kk tpos) (.Call (.Name "enumerate" p) [e] [] pos) (iEnumT X.K tr) (wiEnum wr) := by
  refine ⟨pi_enumT hg hm ha.pe hs, fun Z ρ M σ H R R' s hw q => ?_⟩
  refine ha.sm Z ρ M σ H _ _ s hw fun xs ds H1 M1 g1 r1 q1 => ?_
  split at q1
  · cases r1 with
    | cons r1 r2 =>
    cases r2
    cases r1 with
    | tup h1 l1 => exact ⟨_, _, rfl, sqt_mono fz_sub h1, q _ _ _ H1 M1 g1 (walks_e h1 l1) q1⟩
  · exact q1.elim
end L3
namespace L3
open PySem L2
/-! ### for y in zip(*xs), y one name -/
structure ZHalf (h : Heap) (z TI TO : Addr) (qs : List (Addr × Addr)) (i : Nat) (x : Value) (b : Bool) (old : List Value) : Prop where
  zip : IsZipB h z TI TO x b
  ti : h.get? TI = some { cls := .type "tuple", data := .seq (qs.map fun q => Value.ref q.1).toArray }
  out : h.get? TO = some { cls := .type "tuple", data := .seq old.toArray }
  len : old.length = qs.length
  iter : ∀ q ∈ qs, h.IsTupleIter q.1 q.2 i
def zpairs (its : List ZI) : List (Addr × Addr) := its.map fun q => (q.1, q.2.1)
def zps : Nat → List Addr → List (Addr × Addr)
  | _, [] => []
  | N, t :: ts => (N, t) :: zps (N + 1) ts
theorem zps_of : ∀ (N : Nat) (l : List (Addr × Array Value)), zpairs (zits N l) = zps N (l.map (·.1))
  | _, [] => rfl
  | N, (t, a) :: l => by
    show (N, t) :: zpairs (zits (N + 1) l) = (N, t) :: zps (N + 1) (l.map (·.1))
    rw [zps_of (N + 1) l]
theorem zps_len : ∀ (N : Nat) (ts : List Addr), (zps N ts).length = ts.length
  | _, [] => rfl
  | N, t :: ts => by
    show (zps (N + 1) ts).length + 1 = _
    rw [zps_len (N + 1) ts]
    rfl
theorem ZState.half {h : Heap} {z TI TO : Addr} {its : List ZI} {i : Nat} {x : Value} {b : Bool} {old : List Value} (S : ZState h z TI TO its i x b old) : ZHalf h z TI TO (zpairs its) i x b old := by
  refine ⟨S.zip, ?_, S.out, ?_, fun q hq => ?_⟩
  · unfold zpairs
    rw [List.map_map]
    exact S.ti
  · unfold zpairs
    rw [List.length_map]
    exact S.len
  · obtain ⟨r, hr, e⟩ := List.mem_map.mp hq
    subst e
    exact S.iter r hr
theorem ZHalf.full {h : Heap} {z TI TO : Addr} {its : List ZI} {i : Nat} {x : Value} {b : Bool} {old : List Value} (S : ZHalf h z TI TO (zpairs its) i x b old) (ht : ∀ q ∈ its, h.IsTuple q.2.1 q.2.2) : ZState h z TI TO its i x b old := by
  refine ⟨S.zip, ?_, S.out, ?_, fun q hq => S.iter (q.1, q.2.1) (List.mem_map.mpr ⟨q, hq, rfl⟩), ht⟩
  · have e := S.ti
    unfold zpairs at e
    rw [List.map_map] at e
    exact e
  · have e := S.len
    unfold zpairs at e
    rwa [List.length_map] at e
theorem ZHalf.keep {h h' : Heap} {z TI TO : Addr} {qs : List (Addr × Addr)} {i : Nat} {x : Value} {b : Bool} {old : List Value} (S : ZHalf h z TI TO qs i x b old) (k : ∀ c ∈ z :: TI :: TO :: qs.map (·.1), ∀ o, h.get? c = some o → h'.get? c = some o) : ZHalf h' z TI TO qs i x b old :=
  ⟨k z (by simp) _ S.zip, k TI (by simp) _ S.ti, k TO (by simp) _ S.out, S.len, fun q hq => (S.iter q hq).at fun o e => k q.1 (by simp; exact .inr (.inr (.inr ⟨_, hq⟩))) o e⟩
theorem pyIter_zipB {prog : Program} {w : World} {A : Around} {E : Value → Shared → Prop} {s : Shared} {z TI TO : Addr} {x : Value} {b : Bool} {Q : Value → Shared → Prop} (hz : IsZipB s.heap z TI TO x b) (h : Q (.ref z) s) : wpAny (model prog w) A (pyIter (.ref z)) Q E s := by
  have hT : s.TypeIs (.ref z) "zip" := ⟨_, hz, rfl⟩
  refine wpAny_pyIter_slot hT F.slot_zip_iter (wpAny_call_entry F.slot_zip_iter hT F.entry_zip_iter ?_ (F.args_zip_iter_1 _))
  show wpAny _ _ (ret (.ref z)) _ _ s
  exact wpAny_pure ⟨_, rfl, "zip", _, hT, F.slot_zip_next.lookup, h⟩
theorem wpAny_goName {M : Model} {A : Around} {E : Value → Shared → Prop} {s : Shared} {y : Str} {p : Pos} {it u : Value} {Q : Unit → Shared → Prop} (h : Q () s) : wpAny M A (letOwnedTupleGo (.Name y p) it u) Q E s := by
  unfold letOwnedTupleGo
  exact wpAny_pure h
def okZ (K : PySem.W.Frag) (n : Nat) (cs : List (Addr × List V)) (H : Hp) : Prop := ∀ c ∈ cs, SqT K H c.1 c.2 ∧ c.2.length = n
def tnZ (z TI TO : Addr) (qs : List (Addr × Addr)) (n i : Nat) (h : Heap) : Prop := i ≤ n ∧ ∃ x b old, (x = .none ∨ ∃ T : Nat, x = rawInt T) ∧ ZHalf h z TI TO qs i x b old
def fpZ (z TI TO : Addr) (qs : List (Addr × Addr)) : List Addr := z :: TI :: TO :: qs.map (·.1)
theorem zits_apart {h : Heap} {N : Nat} {l : List (Addr × Array Value)} (e2 : ∀ p ∈ l, p.1 < N) : ZApart (N + l.length + 2) (N + l.length) (N + l.length + 1) (zits N l) := by
  have tl : ∀ q ∈ zits N l, q.2.1 < N := fun q hq => e2 _ (zits_mem hq).2.2.1
  have il : ∀ q ∈ zits N l, N ≤ q.1 ∧ q.1 < N + l.length := fun q hq => ⟨(zits_mem hq).1, (zits_mem hq).2.1⟩
  exact ⟨Nat.ne_of_lt (by omega), Nat.ne_of_lt (by omega), Nat.ne_of_lt (by omega), fun q hq => ⟨Nat.ne_of_lt (Nat.lt_of_lt_of_le (il q hq).2 (by omega)), Nat.ne_of_lt (il q hq).2, Nat.ne_of_lt (Nat.lt_of_lt_of_le (il q hq).2 (by omega))⟩,
    fun q hq => ⟨Nat.ne_of_lt (Nat.lt_of_lt_of_le (tl q hq) (by omega)), Nat.ne_of_lt (Nat.lt_of_lt_of_le (tl q hq) (by omega))⟩, fun q hq r hr => Nat.ne_of_lt (Nat.lt_of_lt_of_le (tl q hq) (il r hr).1), zits_nd _ _⟩
theorem turn_zipN {P : Program} {w : World} {K : PySem.W.Frag} {y : Str} {yp : Pos} {N n : Nat} {cs : List (Addr × List V)} (hne : cs ≠ []) (hl : cs.length ≤ 12) (la : ∀ c ∈ cs, c.1 < N) :
    Turn P w K (.Name y yp) (ItG n (okZ K n cs) (zrow cs)) (fpZ (N + cs.length + 2) (N + cs.length) (N + cs.length + 1) (zps N (cs.map (·.1)))) (N + cs.length + 2) (tnZ (N + cs.length + 2) (N + cs.length) (N + cs.length + 1) (zps N (cs.map (·.1))) n) where
  mem := List.mem_cons_self
  obj := fun i h st q hq => by
    obtain ⟨_, x, b, old, _, S⟩ := st
    simp only [fpZ, List.mem_cons] at hq
    rcases hq with e | e | e | e
    · rw [e]
      exact ⟨_, S.zip, fun v q => nomatch q⟩
    · rw [e]
      exact ⟨_, S.ti, fun v q => nomatch q⟩
    · rw [e]
      exact ⟨_, S.out, fun v q => nomatch q⟩
    · obtain ⟨r, hr, e⟩ := List.mem_map.mp e
      obtain ⟨o, ho, _, d⟩ := S.iter r hr
      rw [← e]
      exact ⟨o, ho, fun v q => by rw [d] at q; cases q⟩
  keep := fun i h h' st k => by
    obtain ⟨hi, x, b, old, hx, S⟩ := st
    exact ⟨hi, x, b, old, hx, S.keep k⟩
  self := fun A i s Q E st h => by
    obtain ⟨_, x, b, old, _, S⟩ := st
    exact pyIter_zipB S.zip h
  item := by
    intro X hP hw hK hc i pins s σ H E I hf st hg
    obtain ⟨hok, hlt⟩ := hg
    subst hP hw hK
    obtain ⟨hi, x, b, old, hx, S⟩ := st
    obtain ⟨l, e1, e2, e3, e4⟩ := held_tups I fun c hc => (hok c hc).1
    have ll : l.length = cs.length := by
      have := congrArg List.length e1
      rwa [List.length_map, List.length_map] at this
    have D : ZApart (N + l.length + 2) (N + l.length) (N + l.length + 1) (zits N l) := zits_apart (h := s.heap) fun p hp => by
      have := List.mem_map_of_mem (f := (·.1)) hp
      rw [e1] at this
      obtain ⟨c, hc, e⟩ := List.mem_map.mp this
      exact e ▸ la c hc
    rw [ll] at D
    rw [← e1, ← zps_of] at S hf ⊢
    have SF := S.full fun q hq => e2 _ (zits_mem hq).2.2.1
    have hcomp : ∀ p ∈ l, p.2.size = n := fun p hp => by
      obtain ⟨j, hj⟩ := List.getElem?_of_mem hp
      obtain ⟨c, hci⟩ := e4 j p hj
      have q := (e3 j c p hci hj).length
      rw [(hok c (List.mem_of_getElem? hci)).2] at q
      simpa using q.symm
    have lz : (zits N l).length = cs.length := by rw [zits_len, ll]
    have hfst : (zpairs (zits N l)).map (·.1) = (zits N l).map (·.1) := by
      unfold zpairs
      rw [List.map_map]
      rfl
    have rel : ZRel cs (zits N l) := zits_rel _ e1 e3
    refine pyNext_zipN_item D SF (fun e => ?_) hx (fun q hq => by rw [hcomp _ (zits_mem hq).2.2.1]; exact hlt) (by rw [lz]; exact Nat.le_trans hl (by decide)) fun h' T x' b' old' hx' S' hT hTt hTn kp => ?_
    · rw [e] at lz
      exact hne (List.eq_nil_of_length_eq_zero lz.symm)
    refine ⟨_, rfl, wpAny_goName ?_⟩
    have row : Vals (zrow cs i) ((zits N l).map (zval i)) := rel.row fun q hq => by rw [hcomp _ (zits_mem hq).2.2.1]; exact hlt
    have szr : (zrow cs i).length ≤ sizeLine := by
      unfold zrow
      rw [List.length_map]
      exact Nat.le_trans hl (by rw [sizeLine_eq]; decide)
    have new : ObjOk X.prog X.w (upd H T (.tup (zrow cs i))) h' T (.tup (zrow cs i)) := ⟨szr, _, row, ⟨_, hTt, rfl, ⟨_, rfl⟩⟩⟩
    have kk2 : ∀ c o, c ∉ fpZ (N + cs.length + 2) (N + cs.length) (N + cs.length + 1) (zpairs (zits N l)) → s.heap.get? c = some o → h'.get? c = some o := fun c o hb e => by
      unfold fpZ at hb
      rw [hfst] at hb
      simp only [List.mem_cons, not_or] at hb
      exact kp c o hb.1 hb.2.2.1 hb.2.2.2 e
    have I1 : Inv X pins σ (upd H T (.tup (zrow cs i))) { s with heap := h' } := I.turnedNew (t' := s.toks) kk2 hf hT new
    refine ⟨.ref T, _, I1, rfl, ⟨T, rfl, I.hok.fresh hT, rfl⟩, ⟨hlt, x', b', old', hx', S'.half⟩, fun b hb => ?_⟩
    have hbT : b ≠ T := fun e => by
      subst e
      unfold fpZ at hb
      rw [hfst] at hb
      simp only [List.mem_cons] at hb
      rcases hb with e | e | e | e
      · exact hTn.1 e
      · have q := S.ti
        rw [e] at hT
        exact Nat.lt_irrefl _ (Nat.lt_of_lt_of_le (Heap.lt_size q) hT)
      · exact hTn.2.1 e
      · exact hTn.2.2 e
    rw [upd_ne hbT]
    exact (hf b hb).1
  done := by
    intro X hP hw hK hc i pins s σ H E I hf st hg
    obtain ⟨hok, hge⟩ := hg
    subst hP hw hK
    obtain ⟨hi, x, b, old, hx, S⟩ := st
    obtain ⟨l, e1, e2, e3, e4⟩ := held_tups I fun c hc => (hok c hc).1
    have ll : l.length = cs.length := by
      have := congrArg List.length e1
      rwa [List.length_map, List.length_map] at this
    have D : ZApart (N + l.length + 2) (N + l.length) (N + l.length + 1) (zits N l) := zits_apart (h := s.heap) fun p hp => by
      have := List.mem_map_of_mem (f := (·.1)) hp
      rw [e1] at this
      obtain ⟨c, hc, e⟩ := List.mem_map.mp this
      exact e ▸ la c hc
    rw [ll] at D
    rw [← e1, ← zps_of] at S hf
    have SF := S.full fun q hq => e2 _ (zits_mem hq).2.2.1
    have hcomp : ∀ p ∈ l, p.2.size = n := fun p hp => by
      obtain ⟨j, hj⟩ := List.getElem?_of_mem hp
      obtain ⟨c, hci⟩ := e4 j p hj
      have q := (e3 j c p hci hj).length
      rw [(hok c (List.mem_of_getElem? hci)).2] at q
      simpa using q.symm
    have lz : (zits N l).length = cs.length := by rw [zits_len, ll]
    have hfst : (zpairs (zits N l)).map (·.1) = (zits N l).map (·.1) := by
      unfold zpairs
      rw [List.map_map]
      rfl
    have e : i = n := Nat.le_antisymm hi hge
    subst e
    refine pyNext_zipN_end (I.ok.hd hc) D SF (fun e => ?_) hx (fun q hq => hcomp _ (zits_mem hq).2.2.1) fun h' kp => ?_
    · rw [e] at lz
      exact hne (List.eq_nil_of_length_eq_zero lz.symm)
    refine ⟨rfl, I.turnedL (t' := s.toks) (ch := fpZ (N + cs.length + 2) (N + cs.length) (N + cs.length + 1) (zpairs (zits N l))) (fun b o hb e => ?_) hf⟩
    unfold fpZ at hb
    rw [hfst] at hb
    simp only [List.mem_cons, not_or] at hb
    exact kp b o hb.1 hb.2.2.1 hb.2.2.2 e
section
variable {X : Cx} {pins : List (Addr × Obj)} {σ : L2.St}
def rZI (K : PySem.W.Frag) (R : It → Hp → Prop) : List V → Hp → Prop := fun xs H => ∃ (cs : List (Addr × List V)) (n : Nat), xs = cs.map (fun c => V.ref c.1) ∧ cs ≠ [] ∧ cs.length ≤ 12 ∧ (∀ c ∈ cs, SqT K H c.1 c.2 ∧ c.2.length = n) ∧ R (ItG n (okZ K n cs) (zrow cs)) H
theorem call_zipI {H : Hp} {s : Shared} {R : It → Hp → Prop} {xs : List V} {us : List Value} {A A2 : Around} {E E2 : Value → Shared → Prop} {y : Str} {yp : Pos} (I : Inv X pins σ H s) (rv : Vals xs us) (h : rZI X.K R xs H) :
    wpAny (model X.prog X.w) A (call (.type "zip") us) (fun u s' => wpAny (model X.prog X.w) A2 (pyIter u) (PIE X pins σ (.Name y yp) R) E2 s') E s := by
  obtain ⟨cs, n, ex, hne, hl, hcs, hq⟩ := h
  subst ex
  obtain rfl := vals_refs rv
  have lt : (cs.map (·.1)).length = cs.length := List.length_map ..
  have lpos : 0 < cs.length := List.length_pos_iff.mpr hne
  have htup : ∀ t ∈ cs.map (·.1), ∃ items, s.heap.IsTuple t items := fun t ht => by
    obtain ⟨c, hc, e⟩ := List.mem_map.mp ht
    obtain ⟨ts, _, p, _⟩ := I.tuple (hcs c hc).1
    rw [← e]
    exact ⟨_, p⟩
  refine call_zipN (by rw [lt]; exact lpos) (by rw [lt]; exact hl) htup ?_
  generalize hts : cs.map (·.1) = ts at *
  have sP : (pushIts s.heap ts).objs.size = s.heap.objs.size + cs.length := by rw [push_size, lt]
  have sT : (zgT s.heap ts).objs.size = s.heap.objs.size + cs.length + 1 := by unfold zgT; rw [Heap.size_push, sP]
  have sO : (zgO s.heap ts).objs.size = s.heap.objs.size + cs.length + 2 := by unfold zgO; rw [Heap.size_push, sT]
  have kT : ∀ c o, (pushIts s.heap ts).get? c = some o → (zgZ s.heap ts).get? c = some o := fun c o e => Heap.get?_push_of_some _ (Heap.get?_push_of_some _ (Heap.get?_push_of_some _ e))
  have k0 : ∀ c o, s.heap.get? c = some o → (zgZ s.heap ts).get? c = some o := fun c o e => kT c o (push_keep ts _ _ _ e)
  have efst : ∀ (N : Nat) (ts : List Addr), (zps N ts).map (fun q => Value.ref q.1) = (itAddrs N ts.length).map Value.ref := by
    intro N ts
    unfold itAddrs
    rw [List.map_map]
    induction ts generalizing N with
    | nil => rfl
    | cons t ts ih =>
      show Value.ref N :: (zps (N + 1) ts).map (fun q => Value.ref q.1) = _
      rw [ih (N + 1), List.length_cons, List.range_succ_eq_map, List.map_cons, List.map_map]
      show Value.ref N :: _ = Value.ref N :: _
      congr 1
      refine List.map_congr_left fun j _ => ?_
      show Value.ref (N + 1 + j) = Value.ref (N + (j + 1))
      rw [show N + 1 + j = N + (j + 1) from by omega]
  have eget : ∀ (ts : List Addr) (h : Heap), ∀ q ∈ zps h.objs.size ts, h.objs.size ≤ q.1 ∧ (pushIts h ts).get? q.1 = some (itObj q.2) := by
    intro ts
    induction ts with
    | nil => intro h q hq; cases hq
    | cons t ts ih =>
      intro h q hq
      rcases List.mem_cons.mp hq with e | hq
      · subst e
        exact ⟨Nat.le_refl _, push_keep ts _ _ _ (Heap.get?_push_size _ rfl)⟩
      · have ih2 := ih (h.push (itObj t)) q
        rw [Heap.size_push] at ih2
        obtain ⟨a, b⟩ := ih2 hq
        exact ⟨Nat.le_of_succ_le a, b⟩
  have hle : ∀ b ∈ fpZ (s.heap.objs.size + cs.length + 2) (s.heap.objs.size + cs.length) (s.heap.objs.size + cs.length + 1) (zps s.heap.objs.size ts), s.heap.objs.size ≤ b := fun b hb => by
    simp only [fpZ, List.mem_cons] at hb
    rcases hb with w | w | w | w
    · rw [w]; exact Nat.le_trans (Nat.le_add_right _ cs.length) (Nat.le_add_right _ 2)
    · rw [w]; exact Nat.le_add_right _ _
    · rw [w]; exact Nat.le_trans (Nat.le_add_right _ cs.length) (Nat.le_add_right _ 1)
    · obtain ⟨q, hq, w⟩ := List.mem_map.mp w
      rw [← w]
      exact (eget ts s.heap q hq).1
  have S : ZHalf (zgZ s.heap ts) (zgO s.heap ts).objs.size (pushIts s.heap ts).objs.size (zgT s.heap ts).objs.size (zps s.heap.objs.size ts) 0 .none false (((itAddrs s.heap.objs.size ts.length).map Value.ref).map fun _ => Value.none) := by
    refine ⟨Heap.get?_push_size _ rfl, ?_, Heap.get?_push_of_some _ (Heap.get?_push_size _ rfl), ?_, fun q hq => ⟨_, kT _ _ (eget ts s.heap q hq).2, rfl, rfl⟩⟩
    · rw [efst]
      exact Heap.get?_push_of_some _ (Heap.get?_push_of_some _ (Heap.get?_push_size _ rfl))
    · rw [List.length_map, ← efst, List.length_map]
  rw [sP, sT, sO] at S
  rw [sO]
  refine pyIter_zipB S.zip ?_
  have I2 : Inv X pins σ H { s with heap := zgZ s.heap ts } := I.kept (t' := s.toks) k0
  subst hts
  refine ⟨s.heap.objs.size + cs.length + 2, _, _, _, H, rfl, I2, turn_zipN (n := n) hne hl fun c hc => ?_, ⟨Nat.zero_le _, _, _, _, .inl rfl, S⟩, fun b hb => I.fpOk (hle b hb) (I.hok.fresh (hle b hb)), hq⟩
  obtain ⟨_, _, p, _⟩ := I.tuple (hcs c hc).1
  obtain ⟨o, ho, _⟩ := p
  exact Heap.lt_size ho
def iZipS (K : PySem.W.Frag) (te : TE) : TI := fun σ H R => te σ H fun x H1 => ∃ a xs, x = V.ref a ∧ (SqT K H1 a xs ∨ SqL K H1 a xs) ∧ rZI K R xs H1
theorem pi_zipS {e : Expr} {te : TE} {p pos sp_ : Pos} {y : Str} {yp : Pos} (he : PE X e te) (hm : X.mg "zip" = none) (hg : Gl X "zip" := by rfl) (hst : starEach [.Starred e sp_] X.env = [(true, eval e X.env)] := by rfl) :
    PI X (.Name y yp) (.Call (.Name "zip" p) [.Starred e sp_] [] pos) (iZipS X.K te) := by
  refine ⟨fun pins s σ H R I h => ?_⟩
  refine wpAny_Call_Name_kw (ld_blt I hg hm PyProof.Rows.boot_zip ?_)
  rw [hst]
  refine PySem.W.ks_call (P := fun _ => True) rfl (fun h _ => ⟨.machine, .inr (.inl rfl), ?_⟩) (PySem.W.ks_lone (thn (he.run pins s σ H _ I h) fun v s1 ⟨y, H1, I1, ry, a, xs, ey, hxs, q⟩ => ?_))
  · exact PySem.W.Looks.of_pure rfl
  subst ey
  obtain rfl : v = Value.ref a := ry
  refine StX.star_any I1 hxs fun us s2 I2 rv => ⟨trivial, ?_⟩
  exact call_zipI I2 rv q
end
/-! by data -/
def wiZipS (we : WE) : WI := fun ρ M R => we ρ M fun d M1 => ∃ (xss : List (List D)) (n : Nat), seqD M1 d = some (xss.map D.tup) ∧ xss ≠ [] ∧ xss.length ≤ 12 ∧ (∀ xs ∈ xss, xs.length = n) ∧ R (zrows xss n) AnyM M1
theorem crel_up {K : PySem.W.Frag} {H H' : Hp} (e : Same H H') : ∀ {cs : List (Addr × List V)} {xss : List (List D)}, CRel K H cs xss → CRel K H' cs xss
  | _, _, .nil => .nil
  | _, _, .cons h1 h2 r => .cons (sqt_mono e h1) (h2.up e) (crel_up e r)
theorem walks_z {K : PySem.W.Frag} {Z H : Hp} {M : Mp} {cs : List (Addr × List V)} {xss : List (List D)} {n : Nat} (hn : ∀ xs ∈ xss, xs.length = n) (cr : CRel K (fz Z H M) cs xss) : Walks3 K Z H M (ItG n (okZ K n cs) (zrow cs)) (zrows xss n) AnyM := by
  intro Z2 H2 M2 S ex _
  have cr2 := crel_up ex cr
  have k : okZ K n cs H2 := fun c hc => ⟨sqt_mono fz_sub (cr2.tups hn c hc).1, (cr2.tups hn c hc).2⟩
  have en : (zrows xss n).length = n := by
    unfold zrows
    rw [List.length_map, List.length_range]
  refine ⟨fun i d e => ?_, fun i hi => ⟨k, by rw [← en]; exact hi⟩⟩
  have li := (List.getElem?_eq_some_iff.mp e).1
  rw [en] at li
  have ed : d = D.tup (xss.map fun xs => xs.getD i .non) := by
    unfold zrows at e
    rw [List.getElem?_map, List.getElem?_range li] at e
    exact (Option.some.inj e).symm
  subst ed
  refine ⟨⟨k, li⟩, fun z H3 ⟨T, ez, hT, eH⟩ => ?_⟩
  subst ez
  subst eH
  obtain ⟨g, nw⟩ := Go.laid (o := .tup (zrow cs i)) S hT
  exact ⟨g, .tup (.inl (.inl nw)) ((cr2.row li hn).up g.ex)⟩
theorem di_zipS {X : Cx} {e : Expr} {te : TE} {we : WE} {p pos sp_ : Pos} {y : Str} {yp : Pos} (he : DE X e te we) (hm : X.mg "zip" = none) (hg : Gl X "zip" := by rfl) (hst : starEach [.Starred e sp_] X.env = [(true, eval e X.env)] := by rfl) :
    DI X (.Name y yp) (.Call (.Name "zip" p) [.Starred e sp_] [] pos) (iZipS X.K te) (wiZipS we) := by
  refine ⟨pi_zipS he.pe hm hg hst, fun Z ρ M σ H R R' s hw q => ?_⟩
  refine he.sm Z ρ M σ H _ _ s hw fun v d H1 M1 g1 r1 q1 => ?_
  obtain ⟨xss, n, e1, hne, hl, hn, f⟩ := q1
  obtain ⟨p, vs, rfl, hv, rl⟩ := seq_of g1.sat r1 e1
  obtain ⟨cs, ecs, cr⟩ := crel_of rl
  have lcs := cr.len
  refine ⟨p, vs, rfl, hv.symm, cs, n, ecs, fun e => hne ?_, by rw [lcs]; exact hl, fun c hc => ⟨sqt_mono fz_sub (cr.tups hn c hc).1, (cr.tups hn c hc).2⟩, q _ _ _ H1 M1 g1 (walks_z hn cr) f⟩
  rw [e] at lcs
  exact List.eq_nil_of_length_eq_zero lcs.symm
end L3
namespace L3
open PySem L2
section
variable {X : Cx} {o e : Expr} {to te : TE} {wo we : WE} {apos cpos : Pos}
/-! ### xs.remove(k), k held -/
theorem takes_none : Takes X (fun _ _ _ _ => False) := fun u s' ⟨a, B, sI, pins, σ, H, cls, d, e, I, nb, up, sky, na, os, ag, w⟩ => w.elim
def wRem (wo we : WE) : WE := fun ρ M Q => wo ρ M fun d M1 => match d with
  | .tok a => (∃ es, M1 a = some (.lst es)) ∧ we ρ M1 fun x M2 => ∃ (ns : List Int) (k : Int), x = .int k ∧ M2 a = some (.lst (ns.map D.int)) ∧ k ∈ ns ∧ Q .non (setM M2 a (.lst ((ns.erase k).map D.int)))
  | _ => False
theorem de_remove (hc : X.calm = true) (ho : DE X o to wo) (he : DE X e te we) (hbase : attributeBase o "remove" X.env (eval o X.env) = eval o X.env := by rfl)
    (hfew : ((backTo cpos (starEach [e] X.env)).all (fun x => !x.1) && (backToKw cpos (keywordEach [] X.env)).all (fun x => x.1.isSome)
      && decide (([e] : List Expr).length + ([] : List Keyword).length + (if ([] : List Keyword).isEmpty then 0 else 1) < 30)) = true := by rfl)
    (hline : (apos.endLine == cpos.line) = true := by rfl) (hs : starEach [e] X.env = (false, eval e X.env) :: starEach [] X.env := by rfl) (hplain : (backTo cpos (starEach [] X.env)).any (·.1) = false := by rfl) :
    DE X (.Call (.Attribute o "remove" apos) [e] [] cpos) (tRemX X.K (fun _ _ _ _ => False) to te) (wRem wo we) := by
  refine ⟨pe_remX hc takes_none ho.pe he.pe hbase hfew hline hs hplain, fun Z ρ M σ H Q Q' s h q => ?_⟩
  refine ho.sm Z ρ M σ H _ _ s h fun x d H1 M1 g1 r1 q1 => ?_
  cases d with
  | tok a =>
    cases r1
    obtain ⟨⟨es0, hm⟩, q1⟩ := q1
    obtain ⟨vs0, e0, _⟩ := g1.sat.cell a _ hm
    refine ⟨.inl ⟨rfl, _, .inl (.inl e0)⟩, ?_⟩
    refine he.sm Z ρ M1 σ H1 _ _ (s.go g1) q1 fun y d H2 M2 g2 r2 q2 => ?_
    obtain ⟨ns, k, rfl, hm2, hk, q3⟩ := q2
    obtain ⟨vs, e1, rl⟩ := g2.sat.cell a _ hm2
    obtain rfl := rl.ints
    cases r2
    refine ⟨a, ns, k, rfl, rfl, e1, fun _ => ?_, fun z => absurd hk z⟩
    have g3 := Go.putL (p := a) g2.sat (.inr ⟨_, hm2⟩) (RepL.ofInts (K := X.K) (ns.erase k))
    exact q _ _ _ _ ((g1.trans g2).trans g3) .non q3
  | _ => exact q1.elim
/-! ### tuple(xs), known to bear no dict -/
def rTupK (K : PySem.W.Frag) : List V → Hp → VK → Prop := fun xs H Q => ∃ p ys, xs = [.ref p] ∧ SqL K H p ys ∧ ∀ l o, H l = none → o.dict = none → Q (.ref l) (upd H l (.frz o (.tup ys)))
theorem call_tupleK : CallR X (.type "tuple") (rTupK X.K) := by
  intro pins s σ H xs us Q I r h
  obtain ⟨p, ys, rfl, hq, q⟩ := h
  obtain ⟨u, rfl, rx⟩ := vals1 r
  cases rx
  obtain ⟨its, r', pl, hz⟩ := I.list hq
  have hlen := r'.length
  refine call_tuple_list pl.isList (fun h' kp => ?_) (by simp only [List.size_toArray] <;> omega)
  have I1 : Inv X pins σ H { s with heap := h' } := I.kept (t' := s.toks) kp
  have I2 : Inv X pins σ (upd H h'.objs.size (.frz { cls := .type "tuple", data := .seq its.toArray } (.tup ys))) { s with heap := h'.push { cls := .type "tuple", data := .seq its.toArray } } :=
    I1.laid (t' := s.toks) (fun b o e => Heap.get?_push_of_some _ e) (Nat.le_refl _) (show ObjOk X.prog X.w _ _ _ (.frz _ (.tup ys)) from ⟨Heap.get?_push_size _ rfl, hz, its, r', PyProof.Rows.IsTup.new _ _⟩)
  exact ⟨.ref h'.objs.size, _, I2, rfl, q _ _ (I1.hok.fresh (Nat.le_refl _)) rfl⟩
def fTupleK : FC := fun ds M Q => match ds with
  | [.lst es] => Q (.tpl es) M
  | _ => False
theorem sim_tupleK {K : PySem.W.Frag} : SimC K (rTupK K) fTupleK := by
  intro Z xs ds H M Q Q' S r f q
  unfold fTupleK at f
  split at f
  · cases r with
    | cons r1 r2 =>
      cases r2
      obtain ⟨p, vs, rfl, hv, rl⟩ := lst_of S r1 ⟨0, .inr rfl⟩ rfl
      refine ⟨p, vs, rfl, hv, fun l ob hl ho => ?_⟩
      obtain ⟨g, n⟩ := Go.laid (o := .frz ob (.tup vs)) S hl
      exact q _ _ _ _ g (.tpl n ho (rl.up g.ex)) f
  · exact f.elim
/-! ### t.index(k), k held -/
def tIdxT (K : PySem.W.Frag) (to te : TE) : TE := fun σ H Q => to σ H fun x H1 => ∃ (l : Addr) (ob : Obj) (ns : List Int), x = .ref l ∧ H1 l = some (.frz ob (.tup (ns.map V.int))) ∧ ob.dict = none ∧ te σ H1 fun y H2 => ∃ (k : Int), y = .int k ∧ SqT K H2 l (ns.map V.int) ∧ k ∈ ns ∧ Q (.int (ns.idxOf k : Nat)) H2
theorem pe_idxT (ho : PE X o to) (he : PE X e te) (hbase : attributeBase o "index" X.env (eval o X.env) = eval o X.env := by rfl)
    (hfew : ((backTo cpos (starEach [e] X.env)).all (fun x => !x.1) && (backToKw cpos (keywordEach [] X.env)).all (fun x => x.1.isSome)
      && decide (([e] : List Expr).length + ([] : List Keyword).length + (if ([] : List Keyword).isEmpty then 0 else 1) < 30)) = true := by rfl)
    (hline : (apos.endLine == cpos.line) = true := by rfl) (hs : starEach [e] X.env = (false, eval e X.env) :: starEach [] X.env := by rfl) (hplain : (backTo cpos (starEach [] X.env)).any (·.1) = false := by rfl) :
    PE X (.Call (.Attribute o "index" apos) [e] [] cpos) (tIdxT X.K to te) := by
  refine ⟨fun pins s σ H Q I h => ?_⟩
  refine wpAny_Call_method_late hbase hfew hline rfl (thn (ho.run pins s σ H _ I h) fun v s1 ⟨x, H1, I1, r1, l, ob, ns, ex, hT, hd, q1⟩ => ?_)
  subst ex
  cases (show v = Value.ref l from r1)
  obtain ⟨hg, _, its0, _, o2, h1, h2, _⟩ := I1.hok l _ hT
  rw [hg] at h1
  cases h1
  refine ⟨"tuple", _, PySem.F.plainAttrs_tuple, PySem.F.slot_tuple_index, PySem.F.type_tuple_index, ⟨_, hg, h2⟩, fun a e => by cases e; exact ⟨_, hg, hd⟩, ?_⟩
  rw [hs]
  refine Calls.callWith_builtin (by show (false || (backTo cpos (starEach [] X.env)).any (·.1)) = false; rw [hplain] <;> rfl) (Calls.evalArgs_plain ?_)
  show wpAny _ _ (spliced ((false, eval e X.env) :: backTo cpos (starEach [] X.env))) _ _ s1
  refine Calls.spliced_cons (thn (he.run pins s1 σ H1 _ I1 q1) fun u s2 ⟨y, H2, I2, ry, q2⟩ => ?_)
  refine Calls.spliced_nil ?_
  obtain ⟨k, ey, hH, hk, q⟩ := q2
  subst ey
  obtain ⟨t, rfl⟩ := (show ∃ t, u = Value.int k t from ry)
  obtain ⟨its, rv, p, _⟩ := I2.tuple hH
  exact PySem.SeqAt.tuple_index_ints p (intsAre_of rv) hk ⟨.int (ns.idxOf k : Nat), H2, I2.tok _, ⟨_, rfl⟩, q⟩
def wIdx (wo we : WE) : WE := fun ρ M Q => wo ρ M fun d M1 => match d with
  | .tpl ds => ∃ ns : List Int, ds = ns.map D.int ∧ we ρ M1 fun x M2 => ∃ k : Int, x = .int k ∧ k ∈ ns ∧ Q (.int (ns.idxOf k : Nat)) M2
  | _ => False
theorem de_index (ho : DE X o to wo) (he : DE X e te we) (hbase : attributeBase o "index" X.env (eval o X.env) = eval o X.env := by rfl)
    (hfew : ((backTo cpos (starEach [e] X.env)).all (fun x => !x.1) && (backToKw cpos (keywordEach [] X.env)).all (fun x => x.1.isSome)
      && decide (([e] : List Expr).length + ([] : List Keyword).length + (if ([] : List Keyword).isEmpty then 0 else 1) < 30)) = true := by rfl)
    (hline : (apos.endLine == cpos.line) = true := by rfl) (hs : starEach [e] X.env = (false, eval e X.env) :: starEach [] X.env := by rfl) (hplain : (backTo cpos (starEach [] X.env)).any (·.1) = false := by rfl) :
    DE X (.Call (.Attribute o "index" apos) [e] [] cpos) (tIdxT X.K to te) (wIdx wo we) := by
  refine ⟨pe_idxT ho.pe he.pe hbase hfew hline hs hplain, fun Z ρ M σ H Q Q' s h q => ?_⟩
  refine ho.sm Z ρ M σ H _ _ s h fun x d H1 M1 g1 r1 q1 => ?_
  cases d with
  | tpl ds =>
    obtain ⟨ns, rfl, q1⟩ := q1
    cases r1 with
    | @tpl l ob vs _ hx hd rl =>
      obtain rfl := rl.ints
      refine ⟨l, ob, ns, rfl, fz_sub _ _ hx, hd, ?_⟩
      refine he.sm Z ρ M1 σ H1 _ _ (s.go g1) q1 fun y d H2 M2 g2 r2 q2 => ?_
      obtain ⟨k, rfl, hk, q3⟩ := q2
      cases r2
      exact ⟨k, rfl, .inl (.inr ⟨ob, fz_sub _ _ (g2.ex _ _ hx)⟩), hk, q _ _ _ _ (g1.trans g2) (.int _) q3⟩
  | _ => exact q1.elim
end
end L3
set_option maxHeartbeats 0
namespace K02
open PySem L2 L3
open PyProof.Rows (envOfC)
def top (i : Nat) : Stmt := PySem.Challenge.pw_nonearer_k02_whole_several_vectors.main.body.getD i (.Pass ⟨0, 0, 0, 0⟩)
abbrev s_differences : Stmt := top 1
abbrev s_moved_vector : Stmt := top 2
abbrev s_at_places : Stmt := top 3
abbrev s_bounds_of : Stmt := top 4
abbrev s_middle_of : Stmt := top 5
abbrev s_widest_place : Stmt := top 6
abbrev s_halves_of : Stmt := top 7
abbrev s__law_heap : Stmt := top 9
abbrev s__law_draw : Stmt := top 10
abbrev s__law_pick : Stmt := top 11
abbrev s__law_vectors : Stmt := top 12
abbrev s__law_floor : Stmt := top 13
abbrev s__law_bounds_due : Stmt := top 14
abbrev s__law_halves_right : Stmt := top 15
abbrev s__law_lot_right : Stmt := top 16
abbrev s_law : Stmt := top 17
structure Txt (K : PySem.W.Frag) (mg : Str → Option Value) (aKINDS : Addr) : Prop where
  z_abs : mg "abs" = none
  z_all : mg "all" = none
  z_bool : mg "bool" = none
  z_enumerate : mg "enumerate" = none
  z_int : mg "int" = none
  z_isinstance : mg "isinstance" = none
  z_len : mg "len" = none
  z_list : mg "list" = none
  z_max : mg "max" = none
  z_min : mg "min" = none
  z_range : mg "range" = none
  z_repr : mg "repr" = none
  z_sorted : mg "sorted" = none
  z_sum : mg "sum" = none
  z_tuple : mg "tuple" = none
  z_zip : mg "zip" = none
/-! ### contracts -/
def addI (v u : List Int) : List Int := List.zipWith (fun a b => a + b) v u
def lens (p : Nat) (vs : List (List Int)) : Prop := ∀ v ∈ vs, v.length = p
/-- the integers at one place -/
def col (vs : List (List Int)) (i : Nat) : List Int := vs.map fun u => u.getD i 0
def mnL (p : Nat) (v : List Int) (vs : List (List Int)) : List Int := (List.range p).map fun i => (col vs i).foldl min (v.getD i 0)
def mxL (p : Nat) (v : List Int) (vs : List (List Int)) : List Int := (List.range p).map fun i => (col vs i).foldl max (v.getD i 0)
def midL (p : Nat) (vs : List (List Int)) : List Int := (List.range p).map fun i => (col vs i).sum / (vs.length : Int)
/-- the first greatest -/
def mxOf : List Int → Int
  | [] => 0
  | n :: ns => ns.foldl max n
def wideAt (p : Nat) (v : List Int) (vs : List (List Int)) : Nat := (subI (mxL p v vs) (mnL p v vs)).idxOf (mxOf (subI (mxL p v vs) (mnL p v vs)))
/-- pairs by number, then by index -/
def ltP (x y : Int × Nat) : Prop := x.1 < y.1 ∨ (x.1 = y.1 ∧ x.2 < y.2)
/-- the indices in their sequence by the integers -/
def IxOf (ns : List Int) (ix : List Nat) : Prop := ix.Perm (List.range ns.length) ∧ ix.Pairwise fun i j => ltP (ns.getD i 0, i) (ns.getD j 0, j)
def hvD (ix : List Nat) (m : Nat) : D := .tup [.tup (nums (ix.take m)), .tup (nums (ix.drop m))]
/-- vectors of these laws -/
def vecs (p n : Nat) (B : Int) (vs : List (List Int)) : Prop := p ≤ 8 ∧ 1 ≤ n ∧ n ≤ 12 ∧ vs.length = n ∧ ∀ v ∈ vs, vk p B v
/-- what stood stands -/
def Up (M M' : Mp) : Prop := ∀ b c, M b = some c → M' b = some c
def F_differences : Fs := fun ds M Q _ => ∃ (v u : List Int), ds = [vec v, vec u] ∧ sm v ∧ sm u ∧ Q (vec (subI v u)) M
def F_differencesK : Fs := fun ds M Q _ => ∃ (v u : List Int), ds = [vec v, vec u] ∧ sm v ∧ sm u ∧ Q (.tpl ((subI v u).map .int)) M
def F_moved_vector : Fs := fun ds M Q _ => ∃ (v u : List Int), ds = [vec v, vec u] ∧ sm v ∧ sm u ∧ Q (vec (addI v u)) M
def F_at_places : Fs := fun ds M Q _ => ∃ (v : List Int) (ps : List Nat), ds = [vec v, .tup (nums ps)] ∧ sm v ∧ ps.length ≤ 64 ∧ (∀ p ∈ ps, p < v.length) ∧ Q (vec (atI' v ps)) M
def F_bounds_of : Fs := fun ds M Q _ => ∃ (d : D) (v : List Int) (vs : List (List Int)) (p : Nat), ds = [d] ∧ seqD M d = some ((v :: vs).map vec) ∧ vs.length ≤ 11 ∧ p ≤ 64 ∧ lens p (v :: vs) ∧ Q (.tup [vec (mnL p v vs), vec (mxL p v vs)]) M
def F_middle_of : Fs := fun ds M Q _ => ∃ (vs : List (List Int)) (p n : Nat), ds = [.tup (vs.map vec)] ∧ vecs p n 5000 vs ∧ Q (vec (midL p vs)) M
def F_widest_place : Fs := fun ds M Q _ => ∃ (v : List Int) (vs : List (List Int)) (p n : Nat), ds = [.tup ((v :: vs).map vec)] ∧ vecs p n 5000 (v :: vs) ∧ 1 ≤ p ∧ Q (.int (wideAt p v vs : Nat)) M
def F_halves_of : Fs := fun ds M Q _ => ∃ (v : List Int) (vs : List (List Int)) (p n : Nat), ds = [.tup ((v :: vs).map vec)] ∧ vecs p n 5000 (v :: vs) ∧ 1 ≤ p ∧ ∀ ix, IxOf (col (v :: vs) (wideAt p v vs)) ix → Q (hvD ix ((n + 1) / 2)) M
def F__law_heap : Fs := fun ds M Q _ => ∃ ns : List Int, ds = [.lst (ns.map .int)] ∧ ns.length ≤ 63 ∧ ∀ (M' : Mp) (a a0 : Addr), M' a = some (.drw a0) → Q (.tok a) M'
abbrev F__law_draw : Fs := drawF
abbrev F__law_pick : Fs := pickF
def F__law_vectors : Fs := fun ds M Q _ => ∃ (a a0 : Addr) (p m : Nat), ds = [.tok a, .int (p : Int), .int (m : Int)] ∧ M a = some (.drw a0) ∧ p ≤ 8 ∧ m ≤ 12 ∧ ∀ vs : List (List Int), vs.length = m → (∀ v ∈ vs, v.length = p ∧ ∀ b ∈ v, -4900 ≤ b ∧ b ≤ 4900) → Q (.lst (vs.map vec)) M
def F__law_floor : Fs := fun ds M Q _ => ∃ (t : Int) (n : Nat), ds = [.int t, .int (n : Int)] ∧ 1 ≤ n ∧ n ≤ 12 ∧ -1000000 ≤ t ∧ t ≤ 1000000 ∧ Q (.int (t / (n : Int))) M
def F__law_bounds_due : Fs := fun ds M Q _ => ∃ (v : List Int) (vs : List (List Int)) (p n : Nat), ds = [.tup ((v :: vs).map vec)] ∧ vecs p n 5000 (v :: vs) ∧ Q (.tup [vec (mnL p v vs), vec (mxL p v vs)]) M
def F__law_halves_right : Fs := fun ds M Q _ => ∃ (v : List Int) (vs : List (List Int)) (p n : Nat) (ix : List Nat), ds = [.tup ((v :: vs).map vec), hvD ix ((n + 1) / 2)] ∧ vecs p n 5000 (v :: vs) ∧ 1 ≤ p ∧ IxOf (col (v :: vs) (wideAt p v vs)) ix ∧ ∀ M', Up M M' → Q (.bl true) M'
def F__law_lot_right : Fs := fun ds M Q _ => ∃ (a a0 : Addr) (v : List Int) (vs : List (List Int)) (p n : Nat), ds = [.tok a, .tup ((v :: vs).map vec)] ∧ M a = some (.drw a0) ∧ vecs p n 4900 (v :: vs) ∧ 1 ≤ p ∧ ∀ M', Up M M' → Q (.bl true) M'
def F_law : Fs := fun ds M Q _ => ∃ ns : List Int, ds = [.lst (ns.map .int)] ∧ ns.length ≤ 63 ∧ ∀ M', Q (.bl true) M'
section
variable {P : Program} {w : World} {K : PySem.W.Frag} {mg : Str → Option Value} {base : Heap} {aKINDS : Addr}
theorem sc_differences : FnScope ["one", "other", "first", "second"] ["one", "other"] (defScope s_differences) := ⟨rfl, rfl, rfl, by decide +kernel, rfl, by decide +kernel, by decide +kernel⟩
abbrev W_differences : WS := (wRet (wCB fTuple (wCons (wLc (wiZip (wCons (wVar 0) (wCons (wVar 1) wNil))) (wgTup 2 (wgCons (wgName 2) (wgCons (wgName 3) wgNil))) wYes (wOp (fI0 fun i j => .int (i - j)) (wVar 2) (wVar 3)) [2, 3]) wNil)))
theorem dv_differences {f : Addr} (T : Txt K mg aKINDS) (cdv : Value) (A : Around) (outer : List Env) (s : Shared) (H : Hp) (E : XK) (gd : A.guards = some []) (hr : Room 0 (A.deeper (envOfC "differences" (defScope s_differences) s.heap.objs.size f cdv))) :
    ∃ t, DSs (cxOf (L2.CX P w) P w K mg base ["one", "other", "first", "second"] "differences" (defScope s_differences) f cdv A outer s H E) (lw E) (defBody s_differences) t W_differences := by
  exact ⟨_, (dss_one (ds_ret (de_callTy call_tuple_of sim_tuple T.z_tuple (show bootBuiltins "tuple" = some (.type "tuple") from rfl) (da_cons (de_lc (own := [("first", 2), ("second", 3)]) rfl sc_differences.nd (di_zip T.z_zip (da_cons (de_var 0) (da_cons (de_var 1) da_nil))) (show BlkOk ["one", "other", "first", "second"] (defScope s_differences) _ [("first", 2), ("second", 3)] from ⟨rfl, by decide +kernel, by decide +kernel, by decide +kernel, by decide +kernel⟩) (fun _ _ _ _ _ => (dg_tup rfl (dgs_cons (dg_name 2 sc_differences.nd) (dgs_cons (dg_name 3 sc_differences.nd) dgs_nil)))) (fun _ _ _ _ _ => dts_nil) (fun _ _ _ _ _ => (de_sub (de_var 2) (de_var 3))) (keep_tup (keep_cons keep_name (keep_cons keep_name keep_nil (fun _ _ _ _ _ h1 h2 => h1 _ _ h2)) (fun _ _ _ _ _ h1 h2 => h1 _ _ h2)))) da_nil))))⟩
theorem ok_differences {f : Addr} {fd : FuncData} (Fn : Fun K "differences" "differences" s_differences f fd) (T : Txt K mg aKINDS) (len : ∀ ds M Q E, F_differences ds M Q E → ds.length = 2)
    (body : ∀ ds M Q R, F_differences ds M Q R → W_differences { nx := fun _ M' => Q .non M', rt := Q, xr := lx R } (startE 4 ds) M) : FnG P w K mg base 1 f fd ["one", "other"] (lift K F_differences) :=
  ok_fn Fn sc_differences len fun cdv A outer s H E gd hr => (dv_differences T cdv A outer s H E gd hr).elim fun t ht => ⟨t, _, ht, body⟩

abbrev W_differencesK : WS := (wRet (wCB fTupleK (wCons (wLc (wiZip (wCons (wVar 0) (wCons (wVar 1) wNil))) (wgTup 2 (wgCons (wgName 2) (wgCons (wgName 3) wgNil))) wYes (wOp (fI0 fun i j => .int (i - j)) (wVar 2) (wVar 3)) [2, 3]) wNil)))
theorem dv_differencesK {f : Addr} (T : Txt K mg aKINDS) (cdv : Value) (A : Around) (outer : List Env) (s : Shared) (H : Hp) (E : XK) (gd : A.guards = some []) (hr : Room 0 (A.deeper (envOfC "differences" (defScope s_differences) s.heap.objs.size f cdv))) :
    ∃ t, DSs (cxOf (L2.CX P w) P w K mg base ["one", "other", "first", "second"] "differences" (defScope s_differences) f cdv A outer s H E) (lw E) (defBody s_differences) t W_differencesK := by
  exact ⟨_, (dss_one (ds_ret (de_callTy call_tupleK sim_tupleK T.z_tuple (show bootBuiltins "tuple" = some (.type "tuple") from rfl) (da_cons (de_lc (own := [("first", 2), ("second", 3)]) rfl sc_differences.nd (di_zip T.z_zip (da_cons (de_var 0) (da_cons (de_var 1) da_nil))) (show BlkOk ["one", "other", "first", "second"] (defScope s_differences) _ [("first", 2), ("second", 3)] from ⟨rfl, by decide +kernel, by decide +kernel, by decide +kernel, by decide +kernel⟩) (fun _ _ _ _ _ => (dg_tup rfl (dgs_cons (dg_name 2 sc_differences.nd) (dgs_cons (dg_name 3 sc_differences.nd) dgs_nil)))) (fun _ _ _ _ _ => dts_nil) (fun _ _ _ _ _ => (de_sub (de_var 2) (de_var 3))) (keep_tup (keep_cons keep_name (keep_cons keep_name keep_nil (fun _ _ _ _ _ h1 h2 => h1 _ _ h2)) (fun _ _ _ _ _ h1 h2 => h1 _ _ h2)))) da_nil))))⟩
theorem ok_differencesK {f : Addr} {fd : FuncData} (Fn : Fun K "differences" "differences" s_differences f fd) (T : Txt K mg aKINDS) (len : ∀ ds M Q E, F_differencesK ds M Q E → ds.length = 2)
    (body : ∀ ds M Q R, F_differencesK ds M Q R → W_differencesK { nx := fun _ M' => Q .non M', rt := Q, xr := lx R } (startE 4 ds) M) : FnG P w K mg base 1 f fd ["one", "other"] (lift K F_differencesK) :=
  ok_fn Fn sc_differences len fun cdv A outer s H E gd hr => (dv_differencesK T cdv A outer s H E gd hr).elim fun t ht => ⟨t, _, ht, body⟩

theorem sc_moved_vector : FnScope ["vector", "step", "first", "second"] ["vector", "step"] (defScope s_moved_vector) := ⟨rfl, rfl, rfl, by decide +kernel, rfl, by decide +kernel, by decide +kernel⟩
abbrev W_moved_vector : WS := (wRet (wCB fTuple (wCons (wLc (wiZip (wCons (wVar 0) (wCons (wVar 1) wNil))) (wgTup 2 (wgCons (wgName 2) (wgCons (wgName 3) wgNil))) wYes (wOp addD (wVar 2) (wVar 3)) [2, 3]) wNil)))
theorem dv_moved_vector {f : Addr} (T : Txt K mg aKINDS) (cdv : Value) (A : Around) (outer : List Env) (s : Shared) (H : Hp) (E : XK) (gd : A.guards = some []) (hr : Room 0 (A.deeper (envOfC "moved_vector" (defScope s_moved_vector) s.heap.objs.size f cdv))) :
    ∃ t, DSs (cxOf (L2.CX P w) P w K mg base ["vector", "step", "first", "second"] "moved_vector" (defScope s_moved_vector) f cdv A outer s H E) (lw E) (defBody s_moved_vector) t W_moved_vector := by
  exact ⟨_, (dss_one (ds_ret (de_callTy call_tuple_of sim_tuple T.z_tuple (show bootBuiltins "tuple" = some (.type "tuple") from rfl) (da_cons (de_lc (own := [("first", 2), ("second", 3)]) rfl sc_moved_vector.nd (di_zip T.z_zip (da_cons (de_var 0) (da_cons (de_var 1) da_nil))) (show BlkOk ["vector", "step", "first", "second"] (defScope s_moved_vector) _ [("first", 2), ("second", 3)] from ⟨rfl, by decide +kernel, by decide +kernel, by decide +kernel, by decide +kernel⟩) (fun _ _ _ _ _ => (dg_tup rfl (dgs_cons (dg_name 2 sc_moved_vector.nd) (dgs_cons (dg_name 3 sc_moved_vector.nd) dgs_nil)))) (fun _ _ _ _ _ => dts_nil) (fun _ _ _ _ _ => (de_add (de_var 2) (de_var 3))) (keep_tup (keep_cons keep_name (keep_cons keep_name keep_nil (fun _ _ _ _ _ h1 h2 => h1 _ _ h2)) (fun _ _ _ _ _ h1 h2 => h1 _ _ h2)))) da_nil))))⟩
theorem ok_moved_vector {f : Addr} {fd : FuncData} (Fn : Fun K "moved_vector" "moved_vector" s_moved_vector f fd) (T : Txt K mg aKINDS) (len : ∀ ds M Q E, F_moved_vector ds M Q E → ds.length = 2)
    (body : ∀ ds M Q R, F_moved_vector ds M Q R → W_moved_vector { nx := fun _ M' => Q .non M', rt := Q, xr := lx R } (startE 4 ds) M) : FnG P w K mg base 1 f fd ["vector", "step"] (lift K F_moved_vector) :=
  ok_fn Fn sc_moved_vector len fun cdv A outer s H E gd hr => (dv_moved_vector T cdv A outer s H E gd hr).elim fun t ht => ⟨t, _, ht, body⟩

theorem sc_at_places : FnScope ["vector", "places", "place"] ["vector", "places"] (defScope s_at_places) := ⟨rfl, rfl, rfl, by decide +kernel, rfl, by decide +kernel, by decide +kernel⟩
abbrev W_at_places : WS := (wRet (wCB fTuple (wCons (wLc (wiSeq (wVar 1)) (wgName 2) wYes (wOp ixD (wVar 0) (wVar 2)) [2]) wNil)))
theorem dv_at_places {f : Addr} (T : Txt K mg aKINDS) (cdv : Value) (A : Around) (outer : List Env) (s : Shared) (H : Hp) (E : XK) (gd : A.guards = some []) (hr : Room 0 (A.deeper (envOfC "at_places" (defScope s_at_places) s.heap.objs.size f cdv))) :
    ∃ t, DSs (cxOf (L2.CX P w) P w K mg base ["vector", "places", "place"] "at_places" (defScope s_at_places) f cdv A outer s H E) (lw E) (defBody s_at_places) t W_at_places := by
  exact ⟨_, (dss_one (ds_ret (de_callTy call_tuple_of sim_tuple T.z_tuple (show bootBuiltins "tuple" = some (.type "tuple") from rfl) (da_cons (de_lc (own := [("place", 2)]) rfl sc_at_places.nd (di_seq (de_var 1)) (show BlkOk ["vector", "places", "place"] (defScope s_at_places) _ [("place", 2)] from ⟨rfl, by decide +kernel, by decide +kernel, by decide +kernel, by decide +kernel⟩) (fun _ _ _ _ _ => (dg_name 2 sc_at_places.nd)) (fun _ _ _ _ _ => dts_nil) (fun _ _ _ _ _ => (de_ix (de_var 0) (de_var 2))) keep_name) da_nil))))⟩
theorem ok_at_places {f : Addr} {fd : FuncData} (Fn : Fun K "at_places" "at_places" s_at_places f fd) (T : Txt K mg aKINDS) (len : ∀ ds M Q E, F_at_places ds M Q E → ds.length = 2)
    (body : ∀ ds M Q R, F_at_places ds M Q R → W_at_places { nx := fun _ M' => Q .non M', rt := Q, xr := lx R } (startE 3 ds) M) : FnG P w K mg base 1 f fd ["vector", "places"] (lift K F_at_places) :=
  ok_fn Fn sc_at_places len fun cdv A outer s H E gd hr => (dv_at_places T cdv A outer s H E gd hr).elim fun t ht => ⟨t, _, ht, body⟩

theorem sc_bounds_of : FnScope ["vectors", "columns", "column"] ["vectors"] (defScope s_bounds_of) := ⟨rfl, rfl, rfl, by decide +kernel, rfl, by decide +kernel, by decide +kernel⟩
abbrev W_bounds_of : WS := (wSeq (wAsg (wZLs (wVar 0)) (wgName 1)) (wRet (wTup (wCons (wCB fTuple (wCons (wLc (wiSeq (wVar 1)) (wgName 2) wYes (wCB (fBest PySem.W.minD) (wCons (wVar 2) wNil)) [2]) wNil)) (wCons (wCB fTuple (wCons (wLc (wiSeq (wVar 1)) (wgName 2) wYes (wCB (fBest PySem.W.maxD) (wCons (wVar 2) wNil)) [2]) wNil)) wNil)))))
theorem dv_bounds_of {f : Addr} (T : Txt K mg aKINDS) (cdv : Value) (A : Around) (outer : List Env) (s : Shared) (H : Hp) (E : XK) (gd : A.guards = some []) (hr : Room 0 (A.deeper (envOfC "bounds_of" (defScope s_bounds_of) s.heap.objs.size f cdv))) :
    ∃ t, DSs (cxOf (L2.CX P w) P w K mg base ["vectors", "columns", "column"] "bounds_of" (defScope s_bounds_of) f cdv A outer s H E) (lw E) (defBody s_bounds_of) t W_bounds_of := by
  exact ⟨_, (dss_cons (ds_set 1 sc_bounds_of.nd (de_listZipS rfl (de_var 0) T.z_list T.z_zip)) (dss_one (ds_ret (de_tup (da_cons (de_callTy call_tuple_of sim_tuple T.z_tuple (show bootBuiltins "tuple" = some (.type "tuple") from rfl) (da_cons (de_lc (own := [("column", 2)]) rfl sc_bounds_of.nd (di_seq (de_var 1)) (show BlkOk ["vectors", "columns", "column"] (defScope s_bounds_of) _ [("column", 2)] from ⟨rfl, by decide +kernel, by decide +kernel, by decide +kernel, by decide +kernel⟩) (fun _ _ _ _ _ => (dg_name 2 sc_bounds_of.nd)) (fun _ _ _ _ _ => dts_nil) (fun _ _ _ _ _ => (de_callB (cr_minA rfl hr) sim_best T.z_min (show bootBuiltins "min" = some (.builtin "min") from rfl) (da_cons (de_var 2) da_nil))) keep_name) da_nil)) (da_cons (de_callTy call_tuple_of sim_tuple T.z_tuple (show bootBuiltins "tuple" = some (.type "tuple") from rfl) (da_cons (de_lc (own := [("column", 2)]) rfl sc_bounds_of.nd (di_seq (de_var 1)) (show BlkOk ["vectors", "columns", "column"] (defScope s_bounds_of) _ [("column", 2)] from ⟨rfl, by decide +kernel, by decide +kernel, by decide +kernel, by decide +kernel⟩) (fun _ _ _ _ _ => (dg_name 2 sc_bounds_of.nd)) (fun _ _ _ _ _ => dts_nil) (fun _ _ _ _ _ => (de_callB (cr_maxA rfl hr) sim_best T.z_max (show bootBuiltins "max" = some (.builtin "max") from rfl) (da_cons (de_var 2) da_nil))) keep_name) da_nil)) da_nil))))))⟩
theorem ok_bounds_of {f : Addr} {fd : FuncData} (Fn : Fun K "bounds_of" "bounds_of" s_bounds_of f fd) (T : Txt K mg aKINDS) (len : ∀ ds M Q E, F_bounds_of ds M Q E → ds.length = 1)
    (body : ∀ ds M Q R, F_bounds_of ds M Q R → W_bounds_of { nx := fun _ M' => Q .non M', rt := Q, xr := lx R } (startE 3 ds) M) : FnG P w K mg base 1 f fd ["vectors"] (lift K F_bounds_of) :=
  ok_fn Fn sc_bounds_of len fun cdv A outer s H E gd hr => (dv_bounds_of T cdv A outer s H E gd hr).elim fun t ht => ⟨t, _, ht, body⟩

theorem sc_middle_of : FnScope ["vectors", "column"] ["vectors"] (defScope s_middle_of) := ⟨rfl, rfl, rfl, by decide +kernel, rfl, by decide +kernel, by decide +kernel⟩
abbrev W_middle_of : WS := (wRet (wCB fTuple (wCons (wLc (wiZipS (wVar 0)) (wgName 1) wYes (wOp (fI CDivW fun i j => .int (i / j)) (wCB fSumA (wCons (wVar 1) wNil)) (wCB fLen (wCons (wVar 0) wNil))) [1]) wNil)))
theorem dv_middle_of {f : Addr} (T : Txt K mg aKINDS) (cdv : Value) (A : Around) (outer : List Env) (s : Shared) (H : Hp) (E : XK) (gd : A.guards = some []) (hr : Room 0 (A.deeper (envOfC "middle_of" (defScope s_middle_of) s.heap.objs.size f cdv))) :
    ∃ t, DSs (cxOf (L2.CX P w) P w K mg base ["vectors", "column"] "middle_of" (defScope s_middle_of) f cdv A outer s H E) (lw E) (defBody s_middle_of) t W_middle_of := by
  exact ⟨_, (dss_one (ds_ret (de_callTy call_tuple_of sim_tuple T.z_tuple (show bootBuiltins "tuple" = some (.type "tuple") from rfl) (da_cons (de_lc (own := [("column", 1)]) rfl sc_middle_of.nd (di_zipS (de_var 0) T.z_zip) (show BlkOk ["vectors", "column"] (defScope s_middle_of) _ [("column", 1)] from ⟨rfl, by decide +kernel, by decide +kernel, by decide +kernel, by decide +kernel⟩) (fun _ _ _ _ _ => (dg_name 1 sc_middle_of.nd)) (fun _ _ _ _ _ => dts_nil) (fun _ _ _ _ _ => (de_fdiv (de_callB (cr_sumA rfl) sim_sumA T.z_sum (show bootBuiltins "sum" = some (.builtin "sum") from rfl) (da_cons (de_var 1) da_nil)) (de_callB call_lenA sim_len T.z_len (show bootBuiltins "len" = some (.builtin "len") from rfl) (da_cons (de_var 0) da_nil)))) keep_name) da_nil))))⟩
theorem ok_middle_of {f : Addr} {fd : FuncData} (Fn : Fun K "middle_of" "middle_of" s_middle_of f fd) (T : Txt K mg aKINDS) (len : ∀ ds M Q E, F_middle_of ds M Q E → ds.length = 1)
    (body : ∀ ds M Q R, F_middle_of ds M Q R → W_middle_of { nx := fun _ M' => Q .non M', rt := Q, xr := lx R } (startE 2 ds) M) : FnG P w K mg base 1 f fd ["vectors"] (lift K F_middle_of) :=
  ok_fn Fn sc_middle_of len fun cdv A outer s H E gd hr => (dv_middle_of T cdv A outer s H E gd hr).elim fun t ht => ⟨t, _, ht, body⟩

theorem sc_widest_place : FnScope ["vectors", "widths", "lows", "highs"] ["vectors"] (defScope s_widest_place) := ⟨rfl, rfl, rfl, by decide +kernel, rfl, by decide +kernel, by decide +kernel⟩
abbrev W_widest_place : WS := (wSeq (wAsg (wCall F_bounds_of (wCons (wVar 0) wNil)) (wgTup 2 (wgCons (wgName 2) (wgCons (wgName 3) wgNil)))) (wSeq (wAsg (wCall F_differencesK (wCons (wVar 3) (wCons (wVar 2) wNil))) (wgName 1)) (wRet (wIdx (wVar 1) (wCB (fBest PySem.W.maxD) (wCons (wVar 1) wNil))))))
theorem dv_widest_place {f : Addr} (T : Txt K mg aKINDS) (h_differencesK : Has P w K mg base 1 "differences" s_differences ["one", "other"] F_differencesK) (h_bounds_of : Has P w K mg base 1 "bounds_of" s_bounds_of ["vectors"] F_bounds_of) (cdv : Value) (A : Around) (outer : List Env) (s : Shared) (H : Hp) (E : XK) (gd : A.guards = some []) (hr : Room 1 (A.deeper (envOfC "widest_place" (defScope s_widest_place) s.heap.objs.size f cdv))) :
    ∃ t, DSs (cxOf (L2.CX P w) P w K mg base ["vectors", "widths", "lows", "highs"] "widest_place" (defScope s_widest_place) f cdv A outer s H E) (lw E) (defBody s_widest_place) t W_widest_place := by
  exact ⟨_, (dss_cons (ds_asg (de_h h_bounds_of (hr.mono (by decide)) gd (da_cons (de_var 0) da_nil)) (dg_tup rfl (dgs_cons (dg_name 2 sc_widest_place.nd) (dgs_cons (dg_name 3 sc_widest_place.nd) dgs_nil)))) (dss_cons (ds_set 1 sc_widest_place.nd (de_h h_differencesK (hr.mono (by decide)) gd (da_cons (de_var 3) (da_cons (de_var 2) da_nil)))) (dss_one (ds_ret (de_index (de_var 1) (de_callB (cr_maxA rfl hr) sim_best T.z_max (show bootBuiltins "max" = some (.builtin "max") from rfl) (da_cons (de_var 1) da_nil)))))))⟩
theorem ok_widest_place {f : Addr} {fd : FuncData} (Fn : Fun K "widest_place" "widest_place" s_widest_place f fd) (T : Txt K mg aKINDS) (h_differencesK : Has P w K mg base 1 "differences" s_differences ["one", "other"] F_differencesK) (h_bounds_of : Has P w K mg base 1 "bounds_of" s_bounds_of ["vectors"] F_bounds_of) (len : ∀ ds M Q E, F_widest_place ds M Q E → ds.length = 1)
    (body : ∀ ds M Q R, F_widest_place ds M Q R → W_widest_place { nx := fun _ M' => Q .non M', rt := Q, xr := lx R } (startE 4 ds) M) : FnG P w K mg base 2 f fd ["vectors"] (lift K F_widest_place) :=
  ok_fn Fn sc_widest_place len fun cdv A outer s H E gd hr => (dv_widest_place T h_differencesK h_bounds_of cdv A outer s H E gd hr).elim fun t ht => ⟨t, _, ht, body⟩

theorem sc_halves_of : FnScope ["vectors", "place", "ordered", "indices", "middle", "at", "vector", "pair"] ["vectors"] (defScope s_halves_of) := ⟨rfl, rfl, rfl, by decide +kernel, rfl, by decide +kernel, by decide +kernel⟩
abbrev W_halves_of : WS := (wSeq (wAsg (wCall F_widest_place (wCons (wVar 0) wNil)) (wgName 1)) (wSeq (wAsg (wCB fSrt (wCons (wLc (wiEnum (wCons (wVar 0) wNil)) (wgTup 2 (wgCons (wgName 5) (wgCons (wgName 6) wgNil))) wYes (wTup (wCons (wOp ixD (wVar 6) (wVar 1)) (wCons (wVar 5) wNil))) [5, 6]) wNil)) (wgName 2)) (wSeq (wAsg (wCB fTuple (wCons (wLc (wiSeq (wVar 2)) (wgName 7) wYes (wOp ixD (wVar 7) (wC (.int 1))) [7]) wNil)) (wgName 3)) (wSeq (wAsg (wOp (fI CDivW fun i j => .int (i / j)) (wOp addD (wCB fLen (wCons (wVar 3) wNil)) (wC (.int 1))) (wC (.int 2))) (wgName 4)) (wRet (wTup (wCons (wSl (wVar 3) wNoP (wPart (wVar 4))) (wCons (wSl (wVar 3) (wPart (wVar 4)) wNoP) wNil))))))))
theorem dv_halves_of {f : Addr} (T : Txt K mg aKINDS) (h_widest_place : Has P w K mg base 2 "widest_place" s_widest_place ["vectors"] F_widest_place) (cdv : Value) (A : Around) (outer : List Env) (s : Shared) (H : Hp) (E : XK) (gd : A.guards = some []) (hr : Room 2 (A.deeper (envOfC "halves_of" (defScope s_halves_of) s.heap.objs.size f cdv))) :
    ∃ t, DSs (cxOf (L2.CX P w) P w K mg base ["vectors", "place", "ordered", "indices", "middle", "at", "vector", "pair"] "halves_of" (defScope s_halves_of) f cdv A outer s H E) (lw E) (defBody s_halves_of) t W_halves_of := by
  exact ⟨_, (dss_cons (ds_set 1 sc_halves_of.nd (de_h h_widest_place (hr.mono (by decide)) gd (da_cons (de_var 0) da_nil))) (dss_cons (ds_set 2 sc_halves_of.nd (de_callB (cr_srt hr) sim_srt T.z_sorted (show bootBuiltins "sorted" = some (.builtin "sorted") from rfl) (da_cons (de_lc (own := [("at", 5), ("vector", 6)]) rfl sc_halves_of.nd (di_enumT T.z_enumerate (da_cons (de_var 0) da_nil)) (show BlkOk ["vectors", "place", "ordered", "indices", "middle", "at", "vector", "pair"] (defScope s_halves_of) _ [("at", 5), ("vector", 6)] from ⟨rfl, by decide +kernel, by decide +kernel, by decide +kernel, by decide +kernel⟩) (fun _ _ _ _ _ => (dg_tup rfl (dgs_cons (dg_name 5 sc_halves_of.nd) (dgs_cons (dg_name 6 sc_halves_of.nd) dgs_nil)))) (fun _ _ _ _ _ => dts_nil) (fun _ _ _ _ _ => (de_tup (da_cons (de_ix (de_var 6) (de_var 1)) (da_cons (de_var 5) da_nil)))) (keep_tup (keep_cons keep_name (keep_cons keep_name keep_nil (fun _ _ _ _ _ h1 h2 => h1 _ _ h2)) (fun _ _ _ _ _ h1 h2 => h1 _ _ h2)))) da_nil))) (dss_cons (ds_set 3 sc_halves_of.nd (de_callTy call_tuple_of sim_tuple T.z_tuple (show bootBuiltins "tuple" = some (.type "tuple") from rfl) (da_cons (de_lc (own := [("pair", 7)]) rfl sc_halves_of.nd (di_seq (de_var 2)) (show BlkOk ["vectors", "place", "ordered", "indices", "middle", "at", "vector", "pair"] (defScope s_halves_of) _ [("pair", 7)] from ⟨rfl, by decide +kernel, by decide +kernel, by decide +kernel, by decide +kernel⟩) (fun _ _ _ _ _ => (dg_name 7 sc_halves_of.nd)) (fun _ _ _ _ _ => dts_nil) (fun _ _ _ _ _ => (de_ix (de_var 7) de_int)) keep_name) da_nil))) (dss_cons (ds_set 4 sc_halves_of.nd (de_fdiv (de_add (de_callB call_lenA sim_len T.z_len (show bootBuiltins "len" = some (.builtin "len") from rfl) (da_cons (de_var 3) da_nil)) de_int) de_int)) (dss_one (ds_ret (de_tup (da_cons (de_slice (de_var 3) do_none (do_some (de_var 4))) (da_cons (de_slice (de_var 3) (do_some (de_var 4)) do_none) da_nil)))))))))⟩
theorem ok_halves_of {f : Addr} {fd : FuncData} (Fn : Fun K "halves_of" "halves_of" s_halves_of f fd) (T : Txt K mg aKINDS) (h_widest_place : Has P w K mg base 2 "widest_place" s_widest_place ["vectors"] F_widest_place) (len : ∀ ds M Q E, F_halves_of ds M Q E → ds.length = 1)
    (body : ∀ ds M Q R, F_halves_of ds M Q R → W_halves_of { nx := fun _ M' => Q .non M', rt := Q, xr := lx R } (startE 8 ds) M) : FnG P w K mg base 3 f fd ["vectors"] (lift K F_halves_of) :=
  ok_fn Fn sc_halves_of len fun cdv A outer s H E gd hr => (dv_halves_of T h_widest_place cdv A outer s H E gd hr).elim fun t ht => ⟨t, _, ht, body⟩

theorem sc__law_heap : FnScope ["script", "cell", "cells", "stir"] ["script"] (defScope s__law_heap) := ⟨rfl, rfl, rfl, by decide +kernel, rfl, by decide +kernel, by decide +kernel⟩
abbrev W__law_heap : WS := (wSeq (wPar 2 3 (wCons (wLc (wiSeq (wSl (wVar 0) wNoP (wPart (wC (.int 60))))) (wgName 1) wYes (wOp addD (wOp (fI CM fun i j => .int (i * j)) (wC (.int 2)) (wCB fAbs (wCons (wVar 1) wNil))) (wCB fInt (wCons (wOp fLt (wVar 1) (wC (.int 0))) wNil))) [1]) (wCons (wC (.int 20479)) wNil))) (wSeq (wFor (wiSeq (wVar 2)) (wgName 1) (wAsg (wOp (fI (fun _ j => 0 < j) fun i j => .int (i % j)) (wCB fInt (wCons (wOp addD (wOp addD (wOp (fI CM fun i j => .int (i * j)) (wVar 3) (wC (.int 69621))) (wOp (fI (fun _ j => 0 < j) fun i j => .int (i % j)) (wCB fInt (wCons (wVar 1) wNil)) (wC (.int 2147483543)))) (wC (.int 29))) wNil)) (wC (.int 2147483647))) (wgName 3))) (wRet (wDrw (wLc (wiSeq (wVar 2)) (wgName 1) (wB (wOp fGe (wVar 1) (wOp (fI CPow fun i j => .int (i ^ j.toNat)) (wC (.int 10)) (wC (.int 18))))) (wVar 1) [1]) 3))))
theorem dv__law_heap {f : Addr} (T : Txt K mg aKINDS) (cdv : Value) (A : Around) (outer : List Env) (s : Shared) (H : Hp) (E : XK) (gd : A.guards = some []) (hr : Room 0 (A.deeper (envOfC "_law_heap" (defScope s__law_heap) s.heap.objs.size f cdv))) :
    ∃ t, DSs (cxOf (L2.CX P w) P w K mg base ["script", "cell", "cells", "stir"] "_law_heap" (defScope s__law_heap) f cdv A outer s H E) (lw E) (defBody s__law_heap) t W__law_heap := by
  exact ⟨_, (dss_cons (ds_par 2 3 rfl sc__law_heap.nd (da_cons (de_lc (own := [("cell", 1)]) rfl sc__law_heap.nd (di_seq (de_slice (de_var 0) do_none (do_some de_int))) (show BlkOk ["script", "cell", "cells", "stir"] (defScope s__law_heap) _ [("cell", 1)] from ⟨rfl, by decide +kernel, by decide +kernel, by decide +kernel, by decide +kernel⟩) (fun _ _ _ _ _ => (dg_name 1 sc__law_heap.nd)) (fun _ _ _ _ _ => dts_nil) (fun _ _ _ _ _ => (de_add (de_mul de_int (de_callB call_abs sim_abs T.z_abs (show bootBuiltins "abs" = some (.builtin "abs") from rfl) (da_cons (de_var 1) da_nil))) (de_callTy call_int1 sim_int T.z_int (show bootBuiltins "int" = some (.type "int") from rfl) (da_cons (de_cmp op_lt sim_lt (de_var 1) de_int) da_nil)))) keep_name) (da_cons de_int da_nil))) (dss_cons (ds_for (passes_of rfl) rfl (di_seq (de_var 2)) (dg_name 1 sc__law_heap.nd) (dss_one (ds_set 3 sc__law_heap.nd (de_mod (de_callTy call_int1 sim_int T.z_int (show bootBuiltins "int" = some (.type "int") from rfl) (da_cons (de_add (de_add (de_mul (de_var 3) de_int) (de_mod (de_callTy call_int1 sim_int T.z_int (show bootBuiltins "int" = some (.type "int") from rfl) (da_cons (de_var 1) da_nil)) de_int)) de_int) da_nil)) de_int)))) (dss_one (ds_ret (de_drw 3 (de_lc (own := [("cell", 1)]) rfl sc__law_heap.nd (di_seq (de_var 2)) (show BlkOk ["script", "cell", "cells", "stir"] (defScope s__law_heap) _ [("cell", 1)] from ⟨rfl, by decide +kernel, by decide +kernel, by decide +kernel, by decide +kernel⟩) (fun _ _ _ _ _ => (dg_name 1 sc__law_heap.nd)) (fun _ _ _ _ _ => (dts_one (dt_cmp op_ge sim_ge (de_var 1) (de_pow de_int de_int)))) (fun _ _ _ _ _ => (de_var 1)) keep_name))))))⟩
theorem ok__law_heap {f : Addr} {fd : FuncData} (Fn : Fun K "_law_heap" "_law_heap" s__law_heap f fd) (T : Txt K mg aKINDS) (len : ∀ ds M Q E, F__law_heap ds M Q E → ds.length = 1)
    (body : ∀ ds M Q R, F__law_heap ds M Q R → W__law_heap { nx := fun _ M' => Q .non M', rt := Q, xr := lx R } (startE 4 ds) M) : FnG P w K mg base 1 f fd ["script"] (lift K F__law_heap) :=
  ok_fn Fn sc__law_heap len fun cdv A outer s H E gd hr => (dv__law_heap T cdv A outer s H E gd hr).elim fun t ht => ⟨t, _, ht, body⟩

theorem sc__law_draw : FnScope ["heap", "many", "rest"] ["heap", "many"] (defScope s__law_draw) := ⟨rfl, rfl, rfl, by decide +kernel, rfl, by decide +kernel, by decide +kernel⟩

theorem sc__law_pick : FnScope ["heap", "some"] ["heap", "some"] (defScope s__law_pick) := ⟨rfl, rfl, rfl, by decide +kernel, rfl, by decide +kernel, by decide +kernel⟩
abbrev W__law_pick : WS := (wRet (wOp ixD (wVar 1) (wCall F__law_draw (wCons (wVar 0) (wCons (wCB fLen (wCons (wVar 1) wNil)) wNil)))))
theorem dv__law_pick {f : Addr} (T : Txt K mg aKINDS) (h__law_draw : Has P w K mg base 1 "_law_draw" s__law_draw ["heap", "many"] F__law_draw) (cdv : Value) (A : Around) (outer : List Env) (s : Shared) (H : Hp) (E : XK) (gd : A.guards = some []) (hr : Room 1 (A.deeper (envOfC "_law_pick" (defScope s__law_pick) s.heap.objs.size f cdv))) :
    ∃ t, DSs (cxOf (L2.CX P w) P w K mg base ["heap", "some"] "_law_pick" (defScope s__law_pick) f cdv A outer s H E) (lw E) (defBody s__law_pick) t W__law_pick := by
  exact ⟨_, (dss_one (ds_ret (de_ix (de_var 1) (de_h h__law_draw (hr.mono (by decide)) gd (da_cons (de_var 0) (da_cons (de_callB call_lenA sim_len T.z_len (show bootBuiltins "len" = some (.builtin "len") from rfl) (da_cons (de_var 1) da_nil)) da_nil))))))⟩
theorem ok__law_pick {f : Addr} {fd : FuncData} (Fn : Fun K "_law_pick" "_law_pick" s__law_pick f fd) (T : Txt K mg aKINDS) (h__law_draw : Has P w K mg base 1 "_law_draw" s__law_draw ["heap", "many"] F__law_draw) (len : ∀ ds M Q E, F__law_pick ds M Q E → ds.length = 2)
    (body : ∀ ds M Q R, F__law_pick ds M Q R → W__law_pick { nx := fun _ M' => Q .non M', rt := Q, xr := lx R } (startE 2 ds) M) : FnG P w K mg base 2 f fd ["heap", "some"] (lift K F__law_pick) :=
  ok_fn Fn sc__law_pick len fun cdv A outer s H E gd hr => (dv__law_pick T h__law_draw cdv A outer s H E gd hr).elim fun t ht => ⟨t, _, ht, body⟩

theorem sc__law_vectors : FnScope ["heap", "places", "many", "middle", "turn", "far", "found", "near", "vector", "place", "part"] ["heap", "places", "many"] (defScope s__law_vectors) := ⟨rfl, rfl, rfl, by decide +kernel, rfl, by decide +kernel, by decide +kernel⟩
abbrev W__law_vectors : WS := (wSeq (wAsg (wTup (wCons (wCall F__law_pick (wCons (wVar 0) (wCons (wLst (wCons (wC (.int 3)) (wCons (wC (.int 3)) (wCons (wC (.int 9)) (wCons (wC (.int 100)) (wCons (wC (.int 4900)) wNil)))))) wNil))) (wCons (wLstM wNil) wNil))) (wgTup 2 (wgCons (wgName 5) (wgCons (wgName 6) wgNil)))) (wSeq (wAsg (wLc (wiRange1 (wCons (wVar 1) wNil)) (wgName 9) wYes (wCall F__law_pick (wCons (wVar 0) (wCons (wLst (wCons (wC (.int 0)) (wCons (wC (.int 0)) (wCons (wOp (fI0 fun i j => .int (i - j)) (wC (.int 1)) (wVar 5)) (wCons (wVar 5) (wCons (wOp (fI0 fun i j => .int (i - j)) (wCall F__law_draw (wCons (wVar 0) (wCons (wOp addD (wOp (fI CM fun i j => .int (i * j)) (wC (.int 2)) (wVar 5)) (wC (.int 1))) wNil))) (wVar 5)) wNil)))))) wNil))) [9]) (wgName 3)) (wSeq (wFor (wiRange1 (wCons (wVar 2) wNil)) (wgName 4) (wSeq (wAsg (wCall F__law_pick (wCons (wVar 0) (wCons (wLst (wCons (wVar 5) (wCons (wC (.int 2)) (wCons (wC (.int 1)) wNil)))) wNil))) (wgName 7)) (wSeq (wAsg (wLc (wiSeq (wVar 3)) (wgName 10) wYes (wCB (f2I fun i j => if j > i then j else i) (wCons (wNeg (wVar 5)) (wCons (wCB (f2I fun i j => if j < i then j else i) (wCons (wVar 5) (wCons (wOp (fI0 fun i j => .int (i - j)) (wOp addD (wVar 10) (wCall F__law_draw (wCons (wVar 0) (wCons (wOp addD (wOp (fI CM fun i j => .int (i * j)) (wC (.int 2)) (wVar 7)) (wC (.int 1))) wNil)))) (wVar 7)) wNil))) wNil))) [10]) (wgName 8)) (wDrop (wApp (wVar 6) (wCons (wIf (wOr (wB (wOp (eqV false) (wVar 6) (wLst wNil))) (wB (wOp fGt (wCall F__law_draw (wCons (wVar 0) (wCons (wC (.int 6)) wNil))) (wC (.int 0))))) (wCB fTuple (wCons (wVar 8) wNil)) (wCall F__law_pick (wCons (wVar 0) (wCons (wVar 6) wNil)))) wNil)))))) (wRetF (wVar 6)))))
theorem dv__law_vectors {f : Addr} (T : Txt K mg aKINDS) (h__law_draw : Has P w K mg base 1 "_law_draw" s__law_draw ["heap", "many"] F__law_draw) (h__law_pick : Has P w K mg base 2 "_law_pick" s__law_pick ["heap", "some"] F__law_pick) (cdv : Value) (A : Around) (outer : List Env) (s : Shared) (H : Hp) (E : XK) (gd : A.guards = some []) (hr : Room 2 (A.deeper (envOfC "_law_vectors" (defScope s__law_vectors) s.heap.objs.size f cdv))) :
    ∃ t, DSs (cxOf (L2.CX P w) P w K mg base ["heap", "places", "many", "middle", "turn", "far", "found", "near", "vector", "place", "part"] "_law_vectors" (defScope s__law_vectors) f cdv A outer s H E) (lw E) (defBody s__law_vectors) t W__law_vectors := by
  exact ⟨_, (dss_cons (ds_asg (de_tup (da_cons (de_h h__law_pick (hr.mono (by decide)) gd (da_cons (de_var 0) (da_cons (de_lst (da_cons de_int (da_cons de_int (da_cons de_int (da_cons de_int (da_cons de_int da_nil)))))) da_nil))) (da_cons (de_lstM da_nil) da_nil))) (dg_tup rfl (dgs_cons (dg_name 5 sc__law_vectors.nd) (dgs_cons (dg_name 6 sc__law_vectors.nd) dgs_nil)))) (dss_cons (ds_setLc 3 (own := [("place", 9)]) rfl sc__law_vectors.nd (di_range1 T.z_range (da_cons (de_var 1) da_nil)) (show BlkOk ["heap", "places", "many", "middle", "turn", "far", "found", "near", "vector", "place", "part"] (defScope s__law_vectors) _ [("place", 9)] from ⟨rfl, by decide +kernel, by decide +kernel, by decide +kernel, by decide +kernel⟩) (fun _ _ _ _ _ => (dg_name 9 sc__law_vectors.nd)) (fun _ _ _ _ _ => dts_nil) (fun _ _ _ _ _ => (de_h h__law_pick (hr.mono (by decide)) gd (da_cons (de_var 0) (da_cons (de_lst (da_cons de_int (da_cons de_int (da_cons (de_sub de_int (de_var 5)) (da_cons (de_var 5) (da_cons (de_sub (de_h h__law_draw (hr.mono (by decide)) gd (da_cons (de_var 0) (da_cons (de_add (de_mul de_int (de_var 5)) de_int) da_nil))) (de_var 5)) da_nil)))))) da_nil)))) keep_name (by rfl)) (dss_cons (ds_for (passes_of rfl) rfl (di_range1 T.z_range (da_cons (de_var 2) da_nil)) (dg_name 4 sc__law_vectors.nd) (dss_cons (ds_set 7 sc__law_vectors.nd (de_h h__law_pick (hr.mono (by decide)) gd (da_cons (de_var 0) (da_cons (de_lst (da_cons (de_var 5) (da_cons de_int (da_cons de_int da_nil)))) da_nil)))) (dss_cons (ds_setLc 8 (own := [("part", 10)]) rfl sc__law_vectors.nd (di_seq (de_var 3)) (show BlkOk ["heap", "places", "many", "middle", "turn", "far", "found", "near", "vector", "place", "part"] (defScope s__law_vectors) _ [("part", 10)] from ⟨rfl, by decide +kernel, by decide +kernel, by decide +kernel, by decide +kernel⟩) (fun _ _ _ _ _ => (dg_name 10 sc__law_vectors.nd)) (fun _ _ _ _ _ => dts_nil) (fun _ _ _ _ _ => (de_callB (call_max2 rfl) sim_2I T.z_max (show bootBuiltins "max" = some (.builtin "max") from rfl) (da_cons (de_neg (de_var 5)) (da_cons (de_callB (call_min2 rfl) sim_2I T.z_min (show bootBuiltins "min" = some (.builtin "min") from rfl) (da_cons (de_var 5) (da_cons (de_sub (de_add (de_var 10) (de_h h__law_draw (hr.mono (by decide)) gd (da_cons (de_var 0) (da_cons (de_add (de_mul de_int (de_var 7)) de_int) da_nil)))) (de_var 7)) da_nil))) da_nil)))) keep_name (by rfl)) (dss_one (ds_expr (de_append (de_var 6) (da_cons (de_if (DW.dt (dw_or (dt_cmp (op_eqV hr) sim_eqV (de_var 6) (de_lst da_nil)) (dw_or1 (dt_cmp op_gt sim_gt (de_h h__law_draw (hr.mono (by decide)) gd (da_cons (de_var 0) (da_cons de_int da_nil))) de_int)))) (de_callTy call_tuple_of sim_tuple T.z_tuple (show bootBuiltins "tuple" = some (.type "tuple") from rfl) (da_cons (de_var 8) da_nil)) (de_h h__law_pick (hr.mono (by decide)) gd (da_cons (de_var 0) (da_cons (de_var 6) da_nil)))) da_nil))))))) (dss_one (ds_retF (de_var 6))))))⟩
theorem ok__law_vectors {f : Addr} {fd : FuncData} (Fn : Fun K "_law_vectors" "_law_vectors" s__law_vectors f fd) (T : Txt K mg aKINDS) (h__law_draw : Has P w K mg base 1 "_law_draw" s__law_draw ["heap", "many"] F__law_draw) (h__law_pick : Has P w K mg base 2 "_law_pick" s__law_pick ["heap", "some"] F__law_pick) (len : ∀ ds M Q E, F__law_vectors ds M Q E → ds.length = 3)
    (body : ∀ ds M Q R, F__law_vectors ds M Q R → W__law_vectors { nx := fun _ M' => Q .non M', rt := Q, xr := lx R } (startE 11 ds) M) : FnG P w K mg base 3 f fd ["heap", "places", "many"] (lift K F__law_vectors) :=
  ok_fn Fn sc__law_vectors len fun cdv A outer s H E gd hr => (dv__law_vectors T h__law_draw h__law_pick cdv A outer s H E gd hr).elim fun t ht => ⟨t, _, ht, body⟩

theorem sc__law_floor : FnScope ["total", "many", "found"] ["total", "many"] (defScope s__law_floor) := ⟨rfl, rfl, rfl, by decide +kernel, rfl, by decide +kernel, by decide +kernel⟩
abbrev W__law_floor : WS := (wSeq (wAsg (wOp (fI CDivW fun i j => .int (i / j)) (wCB fAbs (wCons (wVar 0) wNil)) (wVar 1)) (wgName 2)) (wRet (wIf (wB (wOp fGe (wVar 0) (wC (.int 0)))) (wVar 2) (wOp (fI0 fun i j => .int (i - j)) (wNeg (wVar 2)) (wCB fInt (wCons (wOp (eqV true) (wOp (fI CM fun i j => .int (i * j)) (wVar 2) (wVar 1)) (wNeg (wVar 0))) wNil))))))
theorem dv__law_floor {f : Addr} (T : Txt K mg aKINDS) (cdv : Value) (A : Around) (outer : List Env) (s : Shared) (H : Hp) (E : XK) (gd : A.guards = some []) (hr : Room 0 (A.deeper (envOfC "_law_floor" (defScope s__law_floor) s.heap.objs.size f cdv))) :
    ∃ t, DSs (cxOf (L2.CX P w) P w K mg base ["total", "many", "found"] "_law_floor" (defScope s__law_floor) f cdv A outer s H E) (lw E) (defBody s__law_floor) t W__law_floor := by
  exact ⟨_, (dss_cons (ds_set 2 sc__law_floor.nd (de_fdiv (de_callB call_abs sim_abs T.z_abs (show bootBuiltins "abs" = some (.builtin "abs") from rfl) (da_cons (de_var 0) da_nil)) (de_var 1))) (dss_one (ds_ret (de_if (dt_cmp op_ge sim_ge (de_var 0) de_int) (de_var 2) (de_sub (de_neg (de_var 2)) (de_callTy call_int1 sim_int T.z_int (show bootBuiltins "int" = some (.type "int") from rfl) (da_cons (de_cmp (op_neV hr) sim_neV (de_mul (de_var 2) (de_var 1)) (de_neg (de_var 0))) da_nil)))))))⟩
theorem ok__law_floor {f : Addr} {fd : FuncData} (Fn : Fun K "_law_floor" "_law_floor" s__law_floor f fd) (T : Txt K mg aKINDS) (len : ∀ ds M Q E, F__law_floor ds M Q E → ds.length = 2)
    (body : ∀ ds M Q R, F__law_floor ds M Q R → W__law_floor { nx := fun _ M' => Q .non M', rt := Q, xr := lx R } (startE 3 ds) M) : FnG P w K mg base 1 f fd ["total", "many"] (lift K F__law_floor) :=
  ok_fn Fn sc__law_floor len fun cdv A outer s H E gd hr => (dv__law_floor T cdv A outer s H E gd hr).elim fun t ht => ⟨t, _, ht, body⟩

theorem sc__law_bounds_due : FnScope ["vectors", "orders", "place", "vector", "order"] ["vectors"] (defScope s__law_bounds_due) := ⟨rfl, rfl, rfl, by decide +kernel, rfl, by decide +kernel, by decide +kernel⟩
abbrev W__law_bounds_due : WS := (wSeq (wAsg (wLc (wiRange1 (wCons (wCB fLen (wCons (wOp ixD (wVar 0) (wC (.int 0))) wNil)) wNil)) (wgName 2) wYes (wCB fSorted (wCons (wLc (wiSeq (wVar 0)) (wgName 3) wYes (wOp ixD (wVar 3) (wVar 2)) [3]) wNil)) [2]) (wgName 1)) (wRet (wTup (wCons (wCB fTuple (wCons (wLc (wiSeq (wVar 1)) (wgName 4) wYes (wOp ixD (wVar 4) (wC (.int 0))) [4]) wNil)) (wCons (wCB fTuple (wCons (wLc (wiSeq (wVar 1)) (wgName 4) wYes (wOp ixD (wVar 4) (wNeg (wC (.int 1)))) [4]) wNil)) wNil)))))
theorem dv__law_bounds_due {f : Addr} (T : Txt K mg aKINDS) (cdv : Value) (A : Around) (outer : List Env) (s : Shared) (H : Hp) (E : XK) (gd : A.guards = some []) (hr : Room 0 (A.deeper (envOfC "_law_bounds_due" (defScope s__law_bounds_due) s.heap.objs.size f cdv))) :
    ∃ t, DSs (cxOf (L2.CX P w) P w K mg base ["vectors", "orders", "place", "vector", "order"] "_law_bounds_due" (defScope s__law_bounds_due) f cdv A outer s H E) (lw E) (defBody s__law_bounds_due) t W__law_bounds_due := by
  exact ⟨_, (dss_cons (ds_setLc 1 (own := [("place", 2)]) rfl sc__law_bounds_due.nd (di_range1 T.z_range (da_cons (de_callB call_lenA sim_len T.z_len (show bootBuiltins "len" = some (.builtin "len") from rfl) (da_cons (de_ix (de_var 0) de_int) da_nil)) da_nil)) (show BlkOk ["vectors", "orders", "place", "vector", "order"] (defScope s__law_bounds_due) _ [("place", 2)] from ⟨rfl, by decide +kernel, by decide +kernel, by decide +kernel, by decide +kernel⟩) (fun _ _ _ _ _ => (dg_name 2 sc__law_bounds_due.nd)) (fun _ _ _ _ _ => dts_nil) (fun _ _ _ _ _ => (de_callB cr_sorted sim_sorted T.z_sorted (show bootBuiltins "sorted" = some (.builtin "sorted") from rfl) (da_cons (de_lc (own := [("vector", 3)]) rfl sc__law_bounds_due.nd (di_seq (de_var 0)) (show BlkOk ["vectors", "orders", "place", "vector", "order"] _ _ [("vector", 3)] from ⟨rfl, of_decide_eq_true (by kernel_rfl), of_decide_eq_true (by kernel_rfl), of_decide_eq_true (by kernel_rfl), of_decide_eq_true (by kernel_rfl)⟩) (fun _ _ _ _ _ => (dg_name 3 sc__law_bounds_due.nd)) (fun _ _ _ _ _ => dts_nil) (fun _ _ _ _ _ => (de_ix (de_var 3) (de_var 2))) keep_name) da_nil))) keep_name (by rfl)) (dss_one (ds_ret (de_tup (da_cons (de_callTy call_tuple_of sim_tuple T.z_tuple (show bootBuiltins "tuple" = some (.type "tuple") from rfl) (da_cons (de_lc (own := [("order", 4)]) rfl sc__law_bounds_due.nd (di_seq (de_var 1)) (show BlkOk ["vectors", "orders", "place", "vector", "order"] (defScope s__law_bounds_due) _ [("order", 4)] from ⟨rfl, by decide +kernel, by decide +kernel, by decide +kernel, by decide +kernel⟩) (fun _ _ _ _ _ => (dg_name 4 sc__law_bounds_due.nd)) (fun _ _ _ _ _ => dts_nil) (fun _ _ _ _ _ => (de_ix (de_var 4) de_int)) keep_name) da_nil)) (da_cons (de_callTy call_tuple_of sim_tuple T.z_tuple (show bootBuiltins "tuple" = some (.type "tuple") from rfl) (da_cons (de_lc (own := [("order", 4)]) rfl sc__law_bounds_due.nd (di_seq (de_var 1)) (show BlkOk ["vectors", "orders", "place", "vector", "order"] (defScope s__law_bounds_due) _ [("order", 4)] from ⟨rfl, by decide +kernel, by decide +kernel, by decide +kernel, by decide +kernel⟩) (fun _ _ _ _ _ => (dg_name 4 sc__law_bounds_due.nd)) (fun _ _ _ _ _ => dts_nil) (fun _ _ _ _ _ => (de_ix (de_var 4) (de_neg de_int))) keep_name) da_nil)) da_nil))))))⟩
theorem ok__law_bounds_due {f : Addr} {fd : FuncData} (Fn : Fun K "_law_bounds_due" "_law_bounds_due" s__law_bounds_due f fd) (T : Txt K mg aKINDS) (len : ∀ ds M Q E, F__law_bounds_due ds M Q E → ds.length = 1)
    (body : ∀ ds M Q R, F__law_bounds_due ds M Q R → W__law_bounds_due { nx := fun _ M' => Q .non M', rt := Q, xr := lx R } (startE 5 ds) M) : FnG P w K mg base 1 f fd ["vectors"] (lift K F__law_bounds_due) :=
  ok_fn Fn sc__law_bounds_due len fun cdv A outer s H E gd hr => (dv__law_bounds_due T cdv A outer s H E gd hr).elim fun t ht => ⟨t, _, ht, body⟩

theorem sc__law_halves_right : FnScope ["vectors", "told", "widths", "place", "turn", "many", "lows", "highs", "left", "order", "best", "at"] ["vectors", "told"] (defScope s__law_halves_right) := ⟨rfl, rfl, rfl, by decide +kernel, rfl, by decide +kernel, by decide +kernel⟩
abbrev W__law_halves_right : WS := (wSeq (wAsg (wCall F__law_bounds_due (wCons (wVar 0) wNil)) (wgTup 2 (wgCons (wgName 6) (wgCons (wgName 7) wgNil)))) (wSeq (wAsg (wLc (wiRange1 (wCons (wCB fLen (wCons (wVar 6) wNil)) wNil)) (wgName 3) wYes (wOp (fI0 fun i j => .int (i - j)) (wOp ixD (wVar 7) (wVar 3)) (wOp ixD (wVar 6) (wVar 3))) [3]) (wgName 2)) (wSeq (wAsg (wCB (fMost fun y m => m ≤ y) (wCons (wLc (wiRange1 (wCons (wCB fLen (wCons (wVar 2) wNil)) wNil)) (wgName 11) (wB (wOp (eqV false) (wOp ixD (wVar 2) (wVar 11)) (wCB (fMost fun y m => y ≤ m) (wCons (wVar 2) wNil)))) (wVar 11) [11]) wNil)) (wgName 3)) (wSeq (wIfS (wOr (wB (wOp (eqV true) (wCall F_widest_place (wCons (wVar 0) wNil)) (wVar 3))) (wOr (wB (wOp (eqV true) (wCallK 0 1 [0] F_widest_place wNil (wCons (wVar 0) wNil)) (wVar 3))) (wB (wCB fIsi (wCons (wCall F_widest_place (wCons (wVar 0) wNil)) (wCons (wC (.ty "bool")) wNil)))))) (wRet (wC (.bl false))) wNext) (wSeq (wPar 8 9 (wCons (wListRg (wCB fLen (wCons (wVar 0) wNil))) (wCons (wLstM wNil) wNil))) (wSeq (wFor (wiRange1 (wCons (wCB fLen (wCons (wVar 0) wNil)) wNil)) (wgName 4) (wSeq (wAsg (wOp ixD (wVar 8) (wC (.int 0))) (wgName 10)) (wSeq (wFor (wiSeq (wVar 8)) (wgName 11) (wIfS (wB (wOp fLt (wOp ixD (wOp ixD (wVar 0) (wVar 11)) (wVar 3)) (wOp ixD (wOp ixD (wVar 0) (wVar 10)) (wVar 3)))) (wAsg (wVar 11) (wgName 10)) wNext)) (wSeq (wDrop (wRem (wVar 8) (wVar 10))) (wDrop (wApp (wVar 9) (wCons (wVar 10) wNil))))))) (wSeq (wAsg (wOp (fI0 fun i j => .int (i - j)) (wCB fLen (wCons (wVar 0) wNil)) (wOp (fI CDivW fun i j => .int (i / j)) (wCB fLen (wCons (wVar 0) wNil)) (wC (.int 2)))) (wgName 5)) (wRet (wOp (eqV false) (wCB fRepr (wCons (wVar 1) wNil)) (wCB fRepr (wCons (wTup (wCons (wCB fTuple (wCons (wSl (wVar 9) wNoP (wPart (wVar 5))) wNil)) (wCons (wCB fTuple (wCons (wSl (wVar 9) (wPart (wVar 5)) wNoP) wNil)) wNil))) wNil)))))))))))
theorem dv__law_halves_right {f : Addr} (T : Txt K mg aKINDS) (h_widest_place : Has P w K mg base 2 "widest_place" s_widest_place ["vectors"] F_widest_place) (h__law_bounds_due : Has P w K mg base 1 "_law_bounds_due" s__law_bounds_due ["vectors"] F__law_bounds_due) (cdv : Value) (A : Around) (outer : List Env) (s : Shared) (H : Hp) (E : XK) (gd : A.guards = some []) (hr : Room 2 (A.deeper (envOfC "_law_halves_right" (defScope s__law_halves_right) s.heap.objs.size f cdv))) :
    ∃ t, DSs (cxOf (L2.CX P w) P w K mg base ["vectors", "told", "widths", "place", "turn", "many", "lows", "highs", "left", "order", "best", "at"] "_law_halves_right" (defScope s__law_halves_right) f cdv A outer s H E) (lw E) (defBody s__law_halves_right) t W__law_halves_right := by
  exact ⟨_, (dss_cons (ds_asg (de_h h__law_bounds_due (hr.mono (by decide)) gd (da_cons (de_var 0) da_nil)) (dg_tup rfl (dgs_cons (dg_name 6 sc__law_halves_right.nd) (dgs_cons (dg_name 7 sc__law_halves_right.nd) dgs_nil)))) (dss_cons (ds_set 2 sc__law_halves_right.nd (de_lc (own := [("place", 3)]) rfl sc__law_halves_right.nd (di_range1 T.z_range (da_cons (de_callB call_lenA sim_len T.z_len (show bootBuiltins "len" = some (.builtin "len") from rfl) (da_cons (de_var 6) da_nil)) da_nil)) (show BlkOk ["vectors", "told", "widths", "place", "turn", "many", "lows", "highs", "left", "order", "best", "at"] (defScope s__law_halves_right) _ [("place", 3)] from ⟨rfl, by decide +kernel, by decide +kernel, by decide +kernel, by decide +kernel⟩) (fun _ _ _ _ _ => (dg_name 3 sc__law_halves_right.nd)) (fun _ _ _ _ _ => dts_nil) (fun _ _ _ _ _ => (de_sub (de_ix (de_var 7) (de_var 3)) (de_ix (de_var 6) (de_var 3)))) keep_name)) (dss_cons (ds_set 3 sc__law_halves_right.nd (de_callB (cr_min rfl) sim_min T.z_min (show bootBuiltins "min" = some (.builtin "min") from rfl) (da_cons (de_lc (own := [("at", 11)]) rfl sc__law_halves_right.nd (di_range1 T.z_range (da_cons (de_callB call_lenA sim_len T.z_len (show bootBuiltins "len" = some (.builtin "len") from rfl) (da_cons (de_var 2) da_nil)) da_nil)) (show BlkOk ["vectors", "told", "widths", "place", "turn", "many", "lows", "highs", "left", "order", "best", "at"] (defScope s__law_halves_right) _ [("at", 11)] from ⟨rfl, by decide +kernel, by decide +kernel, by decide +kernel, by decide +kernel⟩) (fun _ _ _ _ _ => (dg_name 11 sc__law_halves_right.nd)) (fun _ _ _ _ _ => (dts_one (dt_cmp (op_eqV hr) sim_eqV (de_ix (de_var 2) (de_var 11)) (de_callB (cr_max rfl) sim_max T.z_max (show bootBuiltins "max" = some (.builtin "max") from rfl) (da_cons (de_var 2) da_nil))))) (fun _ _ _ _ _ => (de_var 11)) keep_name) da_nil))) (dss_cons (ds_if (DW.dt (dw_or (dt_cmp (op_neV hr) sim_neV (de_h h_widest_place (hr.mono (by decide)) gd (da_cons (de_var 0) da_nil)) (de_var 3)) (dw_or (dt_cmp (op_neV hr) sim_neV (de_hk0 (ks := ["vectors"]) (idx := [0]) h_widest_place (hr.mono (by decide)) gd (fun _ _ _ _ _ _ us ws h1 h2 => match us, ws, h1, h2 with | [], [_], _, _ => rfl) (dk_cons (de_var 0) dk_nil)) (de_var 3)) (dw_or1 (dt_val (de_callB call_isi sim_isi T.z_isinstance (show bootBuiltins "isinstance" = some (.builtin "isinstance") from rfl) (da_cons (de_h h_widest_place (hr.mono (by decide)) gd (da_cons (de_var 0) da_nil)) (da_cons (de_bty T.z_bool rfl) da_nil)))))))) (dss_one (ds_ret de_bl)) dss_nil) (dss_cons (ds_par 8 9 rfl sc__law_halves_right.nd (da_cons (de_listRg rfl T.z_list T.z_range (de_callB call_lenA sim_len T.z_len (show bootBuiltins "len" = some (.builtin "len") from rfl) (da_cons (de_var 0) da_nil))) (da_cons (de_lstM da_nil) da_nil))) (dss_cons (ds_for (passes_of rfl) rfl (di_range1 T.z_range (da_cons (de_callB call_lenA sim_len T.z_len (show bootBuiltins "len" = some (.builtin "len") from rfl) (da_cons (de_var 0) da_nil)) da_nil)) (dg_name 4 sc__law_halves_right.nd) (dss_cons (ds_set 10 sc__law_halves_right.nd (de_ix (de_var 8) de_int)) (dss_cons (ds_for (passes_of rfl) rfl (di_seq (de_var 8)) (dg_name 11 sc__law_halves_right.nd) (dss_one (ds_if (dt_cmp op_lt sim_lt (de_ix (de_ix (de_var 0) (de_var 11)) (de_var 3)) (de_ix (de_ix (de_var 0) (de_var 10)) (de_var 3))) (dss_one (ds_set 10 sc__law_halves_right.nd (de_var 11))) dss_nil))) (dss_cons (ds_expr (de_remove rfl (de_var 8) (de_var 10))) (dss_one (ds_expr (de_append (de_var 9) (da_cons (de_var 10) da_nil)))))))) (dss_cons (ds_set 5 sc__law_halves_right.nd (de_sub (de_callB call_lenA sim_len T.z_len (show bootBuiltins "len" = some (.builtin "len") from rfl) (da_cons (de_var 0) da_nil)) (de_fdiv (de_callB call_lenA sim_len T.z_len (show bootBuiltins "len" = some (.builtin "len") from rfl) (da_cons (de_var 0) da_nil)) de_int))) (dss_one (ds_ret (de_cmp (op_eqV hr) sim_eqV (de_callB (call_repr_any hr gd) sim_repr T.z_repr (show bootBuiltins "repr" = some (.builtin "repr") from rfl) (da_cons (de_var 1) da_nil)) (de_callB (call_repr_any hr gd) sim_repr T.z_repr (show bootBuiltins "repr" = some (.builtin "repr") from rfl) (da_cons (de_tup (da_cons (de_callTy call_tuple_of sim_tuple T.z_tuple (show bootBuiltins "tuple" = some (.type "tuple") from rfl) (da_cons (de_slice (de_var 9) do_none (do_some (de_var 5))) da_nil)) (da_cons (de_callTy call_tuple_of sim_tuple T.z_tuple (show bootBuiltins "tuple" = some (.type "tuple") from rfl) (da_cons (de_slice (de_var 9) (do_some (de_var 5)) do_none) da_nil)) da_nil))) da_nil))))))))))))⟩
theorem ok__law_halves_right {f : Addr} {fd : FuncData} (Fn : Fun K "_law_halves_right" "_law_halves_right" s__law_halves_right f fd) (T : Txt K mg aKINDS) (h_widest_place : Has P w K mg base 2 "widest_place" s_widest_place ["vectors"] F_widest_place) (h__law_bounds_due : Has P w K mg base 1 "_law_bounds_due" s__law_bounds_due ["vectors"] F__law_bounds_due) (len : ∀ ds M Q E, F__law_halves_right ds M Q E → ds.length = 2)
    (body : ∀ ds M Q R, F__law_halves_right ds M Q R → W__law_halves_right { nx := fun _ M' => Q .non M', rt := Q, xr := lx R } (startE 12 ds) M) : FnG P w K mg base 3 f fd ["vectors", "told"] (lift K F__law_halves_right) :=
  ok_fn Fn sc__law_halves_right len fun cdv A outer s H E gd hr => (dv__law_halves_right T h_widest_place h__law_bounds_due cdv A outer s H E gd hr).elim fun t ht => ⟨t, _, ht, body⟩

theorem sc__law_lot_right : FnScope ["heap", "vectors", "totals", "vector", "step", "moved", "bounds", "middle", "kept", "place", "part", "bound", "total"] ["heap", "vectors"] (defScope s__law_lot_right) := ⟨rfl, rfl, rfl, by decide +kernel, rfl, by decide +kernel, by decide +kernel⟩
abbrev W__law_lot_right : WS := (wSeq (wAsg (wTup (wCons (wCall F_bounds_of (wCons (wVar 1) wNil)) (wCons (wCall F_middle_of (wCons (wVar 1) wNil)) (wCons (wCB fRepr (wCons (wVar 1) wNil)) wNil)))) (wgTup 3 (wgCons (wgName 6) (wgCons (wgName 7) (wgCons (wgName 8) wgNil))))) (wSeq (wAsg (wLc (wiRange1 (wCons (wCB fLen (wCons (wOp ixD (wVar 1) (wC (.int 0))) wNil)) wNil)) (wgName 9) wYes (wCB fSumA (wCons (wLc (wiSeq (wVar 1)) (wgName 3) wYes (wOp ixD (wVar 3) (wVar 9)) [3]) wNil)) [9]) (wgName 2)) (wSeq (wIfS (wOr (wB (wOp (eqV true) (wCB fRepr (wCons (wVar 6) wNil)) (wCB fRepr (wCons (wCall F__law_bounds_due (wCons (wVar 1) wNil)) wNil)))) (wB (wOp (eqV true) (wCB fRepr (wCons (wVar 7) wNil)) (wCB fRepr (wCons (wCB fTuple (wCons (wLc (wiSeq (wVar 2)) (wgName 12) wYes (wCall F__law_floor (wCons (wVar 12) (wCons (wCB fLen (wCons (wVar 1) wNil)) wNil))) [12]) wNil)) wNil))))) (wRet (wC (.bl false))) wNext) (wSeq (wIfS (wOr (wB (wOp (eqV true) (wCallK 0 1 [0] F_bounds_of wNil (wCons (wVar 1) wNil)) (wVar 6))) (wB (wOp (eqV true) (wCallK 0 1 [0] F_middle_of wNil (wCons (wVar 1) wNil)) (wVar 7)))) (wRet (wC (.bl false))) wNext) (wSeq (wFor (wiSeq (wOp addD (wVar 1) (wTup (wCons (wVar 7) wNil)))) (wgName 3) (wIfS (wNot (wB (wCB (fBls fun bs => bs.all id) (wCons (wLc (wiRange1 (wCons (wCB fLen (wCons (wVar 3) wNil)) wNil)) (wgName 9) wYes (wChain fLe fLe (wOp ixD (wOp ixD (wVar 6) (wC (.int 0))) (wVar 9)) (wOp ixD (wVar 3) (wVar 9)) (wOp ixD (wOp ixD (wVar 6) (wC (.int 1))) (wVar 9))) [9]) wNil)))) (wRet (wC (.bl false))) wNext)) (wSeq (wIfS (wOr (wNot (wB (wCall F__law_halves_right (wCons (wVar 1) (wCons (wCall F_halves_of (wCons (wVar 1) wNil)) wNil))))) (wB (wOp (eqV true) (wCallK 0 1 [0] F_halves_of wNil (wCons (wVar 1) wNil)) (wCall F_halves_of (wCons (wVar 1) wNil))))) (wRet (wC (.bl false))) wNext) (wSeq (wAsg (wCB fTuple (wCons (wLc (wiSeq (wVar 7)) (wgName 10) wYes (wOp (fI0 fun i j => .int (i - j)) (wCall F__law_draw (wCons (wVar 0) (wCons (wC (.int 41)) wNil))) (wC (.int 20))) [10]) wNil)) (wgName 4)) (wSeq (wAsg (wCB fTuple (wCons (wLc (wiSeq (wVar 1)) (wgName 3) wYes (wCall F_moved_vector (wCons (wVar 3) (wCons (wVar 4) wNil))) [3]) wNil)) (wgName 5)) (wSeq (wIfS (wB (wOp (eqV true) (wCB fRepr (wCons (wVar 5) wNil)) (wCB fRepr (wCons (wCB fTuple (wCons (wLc (wiSeq (wVar 1)) (wgName 3) wYes (wCB fTuple (wCons (wLc (wiRange1 (wCons (wCB fLen (wCons (wVar 4) wNil)) wNil)) (wgName 9) wYes (wOp addD (wOp ixD (wVar 3) (wVar 9)) (wOp ixD (wVar 4) (wVar 9))) [9]) wNil)) [3]) wNil)) wNil)))) (wRet (wC (.bl false))) wNext) (wSeq (wIfS (wOr (wB (wOp (eqV true) (wCall F_middle_of (wCons (wVar 5) wNil)) (wCallK 0 2 [1, 0] F_moved_vector wNil (wCons (wVar 4) (wCons (wVar 7) wNil))))) (wB (wOp (eqV true) (wCall F_bounds_of (wCons (wVar 5) wNil)) (wCB fTuple (wCons (wLc (wiSeq (wVar 6)) (wgName 11) wYes (wCall F_moved_vector (wCons (wVar 11) (wCons (wVar 4) wNil))) [11]) wNil))))) (wRet (wC (.bl false))) wNext) (wRet (wAndV (wOp (eqV false) (wCall F_halves_of (wCons (wVar 5) wNil)) (wCall F_halves_of (wCons (wVar 1) wNil))) (wOp (eqV false) (wCB fRepr (wCons (wVar 1) wNil)) (wVar 8))))))))))))))
theorem dv__law_lot_right {f : Addr} (T : Txt K mg aKINDS) (h_moved_vector : Has P w K mg base 1 "moved_vector" s_moved_vector ["vector", "step"] F_moved_vector) (h_bounds_of : Has P w K mg base 1 "bounds_of" s_bounds_of ["vectors"] F_bounds_of) (h_middle_of : Has P w K mg base 1 "middle_of" s_middle_of ["vectors"] F_middle_of) (h_halves_of : Has P w K mg base 3 "halves_of" s_halves_of ["vectors"] F_halves_of) (h__law_draw : Has P w K mg base 1 "_law_draw" s__law_draw ["heap", "many"] F__law_draw) (h__law_floor : Has P w K mg base 1 "_law_floor" s__law_floor ["total", "many"] F__law_floor) (h__law_bounds_due : Has P w K mg base 1 "_law_bounds_due" s__law_bounds_due ["vectors"] F__law_bounds_due) (h__law_halves_right : Has P w K mg base 3 "_law_halves_right" s__law_halves_right ["vectors", "told"] F__law_halves_right) (cdv : Value) (A : Around) (outer : List Env) (s : Shared) (H : Hp) (E : XK) (gd : A.guards = some []) (hr : Room 3 (A.deeper (envOfC "_law_lot_right" (defScope s__law_lot_right) s.heap.objs.size f cdv))) :
    ∃ t, DSs (cxOf (L2.CX P w) P w K mg base ["heap", "vectors", "totals", "vector", "step", "moved", "bounds", "middle", "kept", "place", "part", "bound", "total"] "_law_lot_right" (defScope s__law_lot_right) f cdv A outer s H E) (lw E) (defBody s__law_lot_right) t W__law_lot_right := by
  exact ⟨_, (dss_cons (ds_asg (de_tup (da_cons (de_h h_bounds_of (hr.mono (by decide)) gd (da_cons (de_var 1) da_nil)) (da_cons (de_h h_middle_of (hr.mono (by decide)) gd (da_cons (de_var 1) da_nil)) (da_cons (de_callB (call_repr_any hr gd) sim_repr T.z_repr (show bootBuiltins "repr" = some (.builtin "repr") from rfl) (da_cons (de_var 1) da_nil)) da_nil)))) (dg_tup rfl (dgs_cons (dg_name 6 sc__law_lot_right.nd) (dgs_cons (dg_name 7 sc__law_lot_right.nd) (dgs_cons (dg_name 8 sc__law_lot_right.nd) dgs_nil))))) (dss_cons (ds_setLc 2 (own := [("place", 9)]) rfl sc__law_lot_right.nd (di_range1 T.z_range (da_cons (de_callB call_lenA sim_len T.z_len (show bootBuiltins "len" = some (.builtin "len") from rfl) (da_cons (de_ix (de_var 1) de_int) da_nil)) da_nil)) (show BlkOk ["heap", "vectors", "totals", "vector", "step", "moved", "bounds", "middle", "kept", "place", "part", "bound", "total"] (defScope s__law_lot_right) _ [("place", 9)] from ⟨rfl, by decide +kernel, by decide +kernel, by decide +kernel, by decide +kernel⟩) (fun _ _ _ _ _ => (dg_name 9 sc__law_lot_right.nd)) (fun _ _ _ _ _ => dts_nil) (fun _ _ _ _ _ => (de_callB (cr_sumA rfl) sim_sumA T.z_sum (show bootBuiltins "sum" = some (.builtin "sum") from rfl) (da_cons (de_lc (own := [("vector", 3)]) rfl sc__law_lot_right.nd (di_seq (de_var 1)) (show BlkOk ["heap", "vectors", "totals", "vector", "step", "moved", "bounds", "middle", "kept", "place", "part", "bound", "total"] _ _ [("vector", 3)] from ⟨rfl, of_decide_eq_true (by kernel_rfl), of_decide_eq_true (by kernel_rfl), of_decide_eq_true (by kernel_rfl), of_decide_eq_true (by kernel_rfl)⟩) (fun _ _ _ _ _ => (dg_name 3 sc__law_lot_right.nd)) (fun _ _ _ _ _ => dts_nil) (fun _ _ _ _ _ => (de_ix (de_var 3) (de_var 9))) keep_name) da_nil))) keep_name (by rfl)) (dss_cons (ds_if (DW.dt (dw_or (dt_cmp (op_neV hr) sim_neV (de_callB (call_repr_any hr gd) sim_repr T.z_repr (show bootBuiltins "repr" = some (.builtin "repr") from rfl) (da_cons (de_var 6) da_nil)) (de_callB (call_repr_any hr gd) sim_repr T.z_repr (show bootBuiltins "repr" = some (.builtin "repr") from rfl) (da_cons (de_h h__law_bounds_due (hr.mono (by decide)) gd (da_cons (de_var 1) da_nil)) da_nil))) (dw_or1 (dt_cmp (op_neV hr) sim_neV (de_callB (call_repr_any hr gd) sim_repr T.z_repr (show bootBuiltins "repr" = some (.builtin "repr") from rfl) (da_cons (de_var 7) da_nil)) (de_callB (call_repr_any hr gd) sim_repr T.z_repr (show bootBuiltins "repr" = some (.builtin "repr") from rfl) (da_cons (de_callTy call_tuple_of sim_tuple T.z_tuple (show bootBuiltins "tuple" = some (.type "tuple") from rfl) (da_cons (de_lc (own := [("total", 12)]) rfl sc__law_lot_right.nd (di_seq (de_var 2)) (show BlkOk ["heap", "vectors", "totals", "vector", "step", "moved", "bounds", "middle", "kept", "place", "part", "bound", "total"] (defScope s__law_lot_right) _ [("total", 12)] from ⟨rfl, by decide +kernel, by decide +kernel, by decide +kernel, by decide +kernel⟩) (fun _ _ _ _ _ => (dg_name 12 sc__law_lot_right.nd)) (fun _ _ _ _ _ => dts_nil) (fun _ _ _ _ _ => (de_h h__law_floor (hr.mono (by decide)) gd (da_cons (de_var 12) (da_cons (de_callB call_lenA sim_len T.z_len (show bootBuiltins "len" = some (.builtin "len") from rfl) (da_cons (de_var 1) da_nil)) da_nil)))) keep_name) da_nil)) da_nil)))))) (dss_one (ds_ret de_bl)) dss_nil) (dss_cons (ds_if (DW.dt (dw_or (dt_cmp (op_neV hr) sim_neV (de_hk0 (ks := ["vectors"]) (idx := [0]) h_bounds_of (hr.mono (by decide)) gd (fun _ _ _ _ _ _ us ws h1 h2 => match us, ws, h1, h2 with | [], [_], _, _ => rfl) (dk_cons (de_var 1) dk_nil)) (de_var 6)) (dw_or1 (dt_cmp (op_neV hr) sim_neV (de_hk0 (ks := ["vectors"]) (idx := [0]) h_middle_of (hr.mono (by decide)) gd (fun _ _ _ _ _ _ us ws h1 h2 => match us, ws, h1, h2 with | [], [_], _, _ => rfl) (dk_cons (de_var 1) dk_nil)) (de_var 7))))) (dss_one (ds_ret de_bl)) dss_nil) (dss_cons (ds_for (passes_of rfl) rfl (di_seq (de_add (de_var 1) (de_tup (da_cons (de_var 7) da_nil)))) (dg_name 3 sc__law_lot_right.nd) (dss_one (ds_if (dt_not (dt_val (de_callB (cr_all rfl) sim_all T.z_all (show bootBuiltins "all" = some (.builtin "all") from rfl) (da_cons (de_lc (own := [("place", 9)]) rfl sc__law_lot_right.nd (di_range1 T.z_range (da_cons (de_callB call_lenA sim_len T.z_len (show bootBuiltins "len" = some (.builtin "len") from rfl) (da_cons (de_var 3) da_nil)) da_nil)) (show BlkOk ["heap", "vectors", "totals", "vector", "step", "moved", "bounds", "middle", "kept", "place", "part", "bound", "total"] (defScope s__law_lot_right) _ [("place", 9)] from ⟨rfl, by decide +kernel, by decide +kernel, by decide +kernel, by decide +kernel⟩) (fun _ _ _ _ _ => (dg_name 9 sc__law_lot_right.nd)) (fun _ _ _ _ _ => dts_nil) (fun _ _ _ _ _ => (de_chain op_le sim_le op_le sim_le (de_ix (de_ix (de_var 6) de_int) (de_var 9)) (de_ix (de_var 3) (de_var 9)) (de_ix (de_ix (de_var 6) de_int) (de_var 9)))) keep_name) da_nil)))) (dss_one (ds_ret de_bl)) dss_nil))) (dss_cons (ds_if (DW.dt (dw_or (dt_not (dt_val (de_h h__law_halves_right (hr.mono (by decide)) gd (da_cons (de_var 1) (da_cons (de_h h_halves_of (hr.mono (by decide)) gd (da_cons (de_var 1) da_nil)) da_nil))))) (dw_or1 (dt_cmp (op_neV hr) sim_neV (de_hk0 (ks := ["vectors"]) (idx := [0]) h_halves_of (hr.mono (by decide)) gd (fun _ _ _ _ _ _ us ws h1 h2 => match us, ws, h1, h2 with | [], [_], _, _ => rfl) (dk_cons (de_var 1) dk_nil)) (de_h h_halves_of (hr.mono (by decide)) gd (da_cons (de_var 1) da_nil)))))) (dss_one (ds_ret de_bl)) dss_nil) (dss_cons (ds_set 4 sc__law_lot_right.nd (de_callTy call_tuple_of sim_tuple T.z_tuple (show bootBuiltins "tuple" = some (.type "tuple") from rfl) (da_cons (de_lc (own := [("part", 10)]) rfl sc__law_lot_right.nd (di_seq (de_var 7)) (show BlkOk ["heap", "vectors", "totals", "vector", "step", "moved", "bounds", "middle", "kept", "place", "part", "bound", "total"] (defScope s__law_lot_right) _ [("part", 10)] from ⟨rfl, by decide +kernel, by decide +kernel, by decide +kernel, by decide +kernel⟩) (fun _ _ _ _ _ => (dg_name 10 sc__law_lot_right.nd)) (fun _ _ _ _ _ => dts_nil) (fun _ _ _ _ _ => (de_sub (de_h h__law_draw (hr.mono (by decide)) gd (da_cons (de_var 0) (da_cons de_int da_nil))) de_int)) keep_name) da_nil))) (dss_cons (ds_set 5 sc__law_lot_right.nd (de_callTy call_tuple_of sim_tuple T.z_tuple (show bootBuiltins "tuple" = some (.type "tuple") from rfl) (da_cons (de_lc (own := [("vector", 3)]) rfl sc__law_lot_right.nd (di_seq (de_var 1)) (show BlkOk ["heap", "vectors", "totals", "vector", "step", "moved", "bounds", "middle", "kept", "place", "part", "bound", "total"] (defScope s__law_lot_right) _ [("vector", 3)] from ⟨rfl, by decide +kernel, by decide +kernel, by decide +kernel, by decide +kernel⟩) (fun _ _ _ _ _ => (dg_name 3 sc__law_lot_right.nd)) (fun _ _ _ _ _ => dts_nil) (fun _ _ _ _ _ => (de_h h_moved_vector (hr.mono (by decide)) gd (da_cons (de_var 3) (da_cons (de_var 4) da_nil)))) keep_name) da_nil))) (dss_cons (ds_if (dt_cmp (op_neV hr) sim_neV (de_callB (call_repr_any hr gd) sim_repr T.z_repr (show bootBuiltins "repr" = some (.builtin "repr") from rfl) (da_cons (de_var 5) da_nil)) (de_callB (call_repr_any hr gd) sim_repr T.z_repr (show bootBuiltins "repr" = some (.builtin "repr") from rfl) (da_cons (de_callTy call_tuple_of sim_tuple T.z_tuple (show bootBuiltins "tuple" = some (.type "tuple") from rfl) (da_cons (de_lc (own := [("vector", 3)]) rfl sc__law_lot_right.nd (di_seq (de_var 1)) (show BlkOk ["heap", "vectors", "totals", "vector", "step", "moved", "bounds", "middle", "kept", "place", "part", "bound", "total"] (defScope s__law_lot_right) _ [("vector", 3)] from ⟨rfl, by decide +kernel, by decide +kernel, by decide +kernel, by decide +kernel⟩) (fun _ _ _ _ _ => (dg_name 3 sc__law_lot_right.nd)) (fun _ _ _ _ _ => dts_nil) (fun _ _ _ _ _ => (de_callTy call_tuple_of sim_tuple T.z_tuple (show bootBuiltins "tuple" = some (.type "tuple") from rfl) (da_cons (de_lc (own := [("place", 9)]) rfl sc__law_lot_right.nd (di_range1 T.z_range (da_cons (de_callB call_lenA sim_len T.z_len (show bootBuiltins "len" = some (.builtin "len") from rfl) (da_cons (de_var 4) da_nil)) da_nil)) (show BlkOk ["heap", "vectors", "totals", "vector", "step", "moved", "bounds", "middle", "kept", "place", "part", "bound", "total"] _ _ [("place", 9)] from ⟨rfl, of_decide_eq_true (by kernel_rfl), of_decide_eq_true (by kernel_rfl), of_decide_eq_true (by kernel_rfl), of_decide_eq_true (by kernel_rfl)⟩) (fun _ _ _ _ _ => (dg_name 9 sc__law_lot_right.nd)) (fun _ _ _ _ _ => dts_nil) (fun _ _ _ _ _ => (de_add (de_ix (de_var 3) (de_var 9)) (de_ix (de_var 4) (de_var 9)))) keep_name) da_nil))) keep_name) da_nil)) da_nil))) (dss_one (ds_ret de_bl)) dss_nil) (dss_cons (ds_if (DW.dt (dw_or (dt_cmp (op_neV hr) sim_neV (de_h h_middle_of (hr.mono (by decide)) gd (da_cons (de_var 5) da_nil)) (de_hk0 (ks := ["step", "vector"]) (idx := [1, 0]) h_moved_vector (hr.mono (by decide)) gd (fun _ _ _ _ _ _ us ws h1 h2 => match us, ws, h1, h2 with | [], [_, _], _, _ => rfl) (dk_cons (de_var 4) (dk_cons (de_var 7) dk_nil)))) (dw_or1 (dt_cmp (op_neV hr) sim_neV (de_h h_bounds_of (hr.mono (by decide)) gd (da_cons (de_var 5) da_nil)) (de_callTy call_tuple_of sim_tuple T.z_tuple (show bootBuiltins "tuple" = some (.type "tuple") from rfl) (da_cons (de_lc (own := [("bound", 11)]) rfl sc__law_lot_right.nd (di_seq (de_var 6)) (show BlkOk ["heap", "vectors", "totals", "vector", "step", "moved", "bounds", "middle", "kept", "place", "part", "bound", "total"] (defScope s__law_lot_right) _ [("bound", 11)] from ⟨rfl, by decide +kernel, by decide +kernel, by decide +kernel, by decide +kernel⟩) (fun _ _ _ _ _ => (dg_name 11 sc__law_lot_right.nd)) (fun _ _ _ _ _ => dts_nil) (fun _ _ _ _ _ => (de_h h_moved_vector (hr.mono (by decide)) gd (da_cons (de_var 11) (da_cons (de_var 4) da_nil)))) keep_name) da_nil)))))) (dss_one (ds_ret de_bl)) dss_nil) (dss_one (ds_ret (de_and (de_cmp (op_eqV hr) sim_eqV (de_h h_halves_of (hr.mono (by decide)) gd (da_cons (de_var 5) da_nil)) (de_h h_halves_of (hr.mono (by decide)) gd (da_cons (de_var 1) da_nil))) (de_one (de_cmp (op_eqV hr) sim_eqV (de_callB (call_repr_any hr gd) sim_repr T.z_repr (show bootBuiltins "repr" = some (.builtin "repr") from rfl) (da_cons (de_var 1) da_nil)) (de_var 8))))))))))))))))⟩
theorem ok__law_lot_right {f : Addr} {fd : FuncData} (Fn : Fun K "_law_lot_right" "_law_lot_right" s__law_lot_right f fd) (T : Txt K mg aKINDS) (h_moved_vector : Has P w K mg base 1 "moved_vector" s_moved_vector ["vector", "step"] F_moved_vector) (h_bounds_of : Has P w K mg base 1 "bounds_of" s_bounds_of ["vectors"] F_bounds_of) (h_middle_of : Has P w K mg base 1 "middle_of" s_middle_of ["vectors"] F_middle_of) (h_halves_of : Has P w K mg base 3 "halves_of" s_halves_of ["vectors"] F_halves_of) (h__law_draw : Has P w K mg base 1 "_law_draw" s__law_draw ["heap", "many"] F__law_draw) (h__law_floor : Has P w K mg base 1 "_law_floor" s__law_floor ["total", "many"] F__law_floor) (h__law_bounds_due : Has P w K mg base 1 "_law_bounds_due" s__law_bounds_due ["vectors"] F__law_bounds_due) (h__law_halves_right : Has P w K mg base 3 "_law_halves_right" s__law_halves_right ["vectors", "told"] F__law_halves_right) (len : ∀ ds M Q E, F__law_lot_right ds M Q E → ds.length = 2)
    (body : ∀ ds M Q R, F__law_lot_right ds M Q R → W__law_lot_right { nx := fun _ M' => Q .non M', rt := Q, xr := lx R } (startE 13 ds) M) : FnG P w K mg base 4 f fd ["heap", "vectors"] (lift K F__law_lot_right) :=
  ok_fn Fn sc__law_lot_right len fun cdv A outer s H E gd hr => (dv__law_lot_right T h_moved_vector h_bounds_of h_middle_of h_halves_of h__law_draw h__law_floor h__law_bounds_due h__law_halves_right cdv A outer s H E gd hr).elim fun t ht => ⟨t, _, ht, body⟩

theorem sc_law : FnScope ["script", "heap", "turn", "some", "vectors", "due", "places", "many", "one", "other", "place", "more"] ["script"] (defScope s_law) := ⟨rfl, rfl, rfl, by decide +kernel, rfl, by decide +kernel, by decide +kernel⟩
abbrev W_law : WS := (wSeq (wAsg (wCall F__law_heap (wCons (wVar 0) wNil)) (wgName 1)) (wSeq (wFor (wiRange1 (wCons (wOp addD (wC (.int 2)) (wCB fInt (wCons (wOp fGt (wCB fLen (wCons (wVar 0) wNil)) (wC (.int 2))) wNil))) wNil)) (wgName 2) (wSeq (wAsg (wTup (wCons (wCall F__law_pick (wCons (wVar 1) (wCons (wLst (wCons (wC (.int 2)) (wCons (wC (.int 3)) (wCons (wC (.int 1)) (wCons (wC (.int 4)) (wCons (wC (.int 8)) (wCons (wC (.int 5)) wNil))))))) wNil))) (wCons (wCall F__law_pick (wCons (wVar 1) (wCons (wLst (wCons (wC (.int 3)) (wCons (wC (.int 5)) (wCons (wC (.int 1)) (wCons (wC (.int 2)) (wCons (wC (.int 8)) (wCons (wC (.int 12)) wNil))))))) wNil))) wNil))) (wgTup 2 (wgCons (wgName 6) (wgCons (wgName 7) wgNil)))) (wSeq (wAsg (wCB fTuple (wCons (wCall F__law_vectors (wCons (wVar 1) (wCons (wVar 6) (wCons (wVar 7) wNil)))) wNil)) (wgName 4)) (wSeq (wIfS (wNot (wB (wCall F__law_lot_right (wCons (wVar 1) (wCons (wVar 4) wNil))))) (wRet (wC (.bl false))) wNext) (wSeq (wAsg (wTup (wCons (wCall F__law_pick (wCons (wVar 1) (wCons (wVar 4) wNil))) (wCons (wCall F__law_pick (wCons (wVar 1) (wCons (wVar 4) wNil))) wNil))) (wgTup 2 (wgCons (wgName 8) (wgCons (wgName 9) wgNil)))) (wSeq (wAsg (wCB fTuple (wCons (wLc (wiRange1 (wCons (wVar 6) wNil)) (wgName 10) wYes (wOp (fI0 fun i j => .int (i - j)) (wOp ixD (wVar 8) (wVar 10)) (wOp ixD (wVar 9) (wVar 10))) [10]) wNil)) (wgName 5)) (wSeq (wIfS (wOr (wB (wOp (eqV true) (wCB fRepr (wCons (wCall F_differences (wCons (wVar 8) (wCons (wVar 9) wNil))) wNil)) (wCB fRepr (wCons (wVar 5) wNil)))) (wB (wOp (eqV true) (wCall F_moved_vector (wCons (wVar 9) (wCons (wCallK 0 2 [1, 0] F_differences wNil (wCons (wVar 9) (wCons (wVar 8) wNil))) wNil))) (wVar 8)))) (wRet (wC (.bl false))) wNext) (wSeq (wAsg (wCB fTuple (wCons (wLc (wiRange1 (wCons (wCall F__law_draw (wCons (wVar 1) (wCons (wC (.int 6)) wNil))) wNil)) (wgName 11) wYes (wCall F__law_draw (wCons (wVar 1) (wCons (wVar 6) wNil))) [11]) wNil)) (wgName 3)) (wIfS (wOr (wB (wOp (eqV true) (wCB fRepr (wCons (wCall F_at_places (wCons (wVar 8) (wCons (wVar 3) wNil))) wNil)) (wCB fRepr (wCons (wCB fTuple (wCons (wLc (wiSeq (wVar 3)) (wgName 10) wYes (wOp ixD (wVar 8) (wVar 10)) [10]) wNil)) wNil)))) (wB (wOp (eqV true) (wCallK 0 2 [1, 0] F_at_places wNil (wCons (wVar 3) (wCons (wVar 8) wNil))) (wCall F_at_places (wCons (wVar 8) (wCons (wVar 3) wNil)))))) (wRet (wC (.bl false))) wNext))))))))) (wSeq (wAsg (wTup (wCons (wTup (wCons (wC (.int 4)) (wCons (wC (.int 0)) wNil))) (wCons (wTup (wCons (wC (.int 1)) (wCons (wC (.int 1)) wNil))) (wCons (wTup (wCons (wC (.int 7)) (wCons (wNeg (wC (.int 2))) wNil))) (wCons (wTup (wCons (wC (.int 1)) (wCons (wC (.int 5)) wNil))) wNil))))) (wgName 3)) (wSeq (wIfS (wOr (wB (wOp (eqV true) (wCall F_bounds_of (wCons (wVar 3) wNil)) (wTup (wCons (wTup (wCons (wC (.int 1)) (wCons (wNeg (wC (.int 2))) wNil))) (wCons (wTup (wCons (wC (.int 7)) (wCons (wC (.int 5)) wNil))) wNil))))) (wOr (wB (wOp (eqV true) (wCall F_middle_of (wCons (wVar 3) wNil)) (wTup (wCons (wC (.int 3)) (wCons (wC (.int 1)) wNil))))) (wOr (wB (wOp (eqV true) (wCall F_widest_place (wCons (wVar 3) wNil)) (wC (.int 1)))) (wB (wOp (eqV true) (wCall F_halves_of (wCons (wVar 3) wNil)) (wTup (wCons (wTup (wCons (wC (.int 2)) (wCons (wC (.int 0)) wNil))) (wCons (wTup (wCons (wC (.int 1)) (wCons (wC (.int 3)) wNil))) wNil)))))))) (wRet (wC (.bl false))) wNext) (wSeq (wIfS (wOr (wB (wOp (eqV true) (wCall F_middle_of (wCons (wTup (wCons (wTup (wCons (wNeg (wC (.int 1))) (wCons (wC (.int 0)) wNil))) (wCons (wTup (wCons (wC (.int 0)) (wCons (wNeg (wC (.int 3))) wNil))) (wCons (wTup (wCons (wC (.int 0)) (wCons (wC (.int 0)) wNil))) wNil)))) wNil)) (wTup (wCons (wNeg (wC (.int 1))) (wCons (wNeg (wC (.int 1))) wNil))))) (wB (wOp (eqV true) (wCall F_halves_of (wCons (wTup (wCons (wTup (wCons (wC (.int 2)) (wCons (wC (.int 2)) wNil))) (wCons (wTup (wCons (wC (.int 2)) (wCons (wC (.int 2)) wNil))) (wCons (wTup (wCons (wC (.int 2)) (wCons (wC (.int 2)) wNil))) wNil)))) wNil)) (wTup (wCons (wTup (wCons (wC (.int 0)) (wCons (wC (.int 1)) wNil))) (wCons (wTup (wCons (wC (.int 2)) wNil)) wNil)))))) (wRet (wC (.bl false))) wNext) (wRet (wAndV (wOp (eqV false) (wCall F_halves_of (wCons (wTup (wCons (wTup (wCons (wC (.int 5)) wNil)) wNil)) wNil)) (wTup (wCons (wTup (wCons (wC (.int 0)) wNil)) (wCons (wTup wNil) wNil)))) (wOp (eqV false) (wCall F_widest_place (wCons (wTup (wCons (wTup (wCons (wC (.int 0)) (wCons (wC (.int 0)) wNil))) (wCons (wTup (wCons (wC (.int 3)) (wCons (wNeg (wC (.int 3))) wNil))) wNil))) wNil)) (wC (.int 0))))))))))
theorem dv_law {f : Addr} (T : Txt K mg aKINDS) (h_differences : Has P w K mg base 1 "differences" s_differences ["one", "other"] F_differences) (h_moved_vector : Has P w K mg base 1 "moved_vector" s_moved_vector ["vector", "step"] F_moved_vector) (h_at_places : Has P w K mg base 1 "at_places" s_at_places ["vector", "places"] F_at_places) (h_bounds_of : Has P w K mg base 1 "bounds_of" s_bounds_of ["vectors"] F_bounds_of) (h_middle_of : Has P w K mg base 1 "middle_of" s_middle_of ["vectors"] F_middle_of) (h_widest_place : Has P w K mg base 2 "widest_place" s_widest_place ["vectors"] F_widest_place) (h_halves_of : Has P w K mg base 3 "halves_of" s_halves_of ["vectors"] F_halves_of) (h__law_heap : Has P w K mg base 1 "_law_heap" s__law_heap ["script"] F__law_heap) (h__law_draw : Has P w K mg base 1 "_law_draw" s__law_draw ["heap", "many"] F__law_draw) (h__law_pick : Has P w K mg base 2 "_law_pick" s__law_pick ["heap", "some"] F__law_pick) (h__law_vectors : Has P w K mg base 3 "_law_vectors" s__law_vectors ["heap", "places", "many"] F__law_vectors) (h__law_lot_right : Has P w K mg base 4 "_law_lot_right" s__law_lot_right ["heap", "vectors"] F__law_lot_right) (cdv : Value) (A : Around) (outer : List Env) (s : Shared) (H : Hp) (E : XK) (gd : A.guards = some []) (hr : Room 4 (A.deeper (envOfC "law" (defScope s_law) s.heap.objs.size f cdv))) :
    ∃ t, DSs (cxOf (L2.CX P w) P w K mg base ["script", "heap", "turn", "some", "vectors", "due", "places", "many", "one", "other", "place", "more"] "law" (defScope s_law) f cdv A outer s H E) (lw E) (defBody s_law) t W_law := by
  exact ⟨_, (dss_cons (ds_set 1 sc_law.nd (de_h h__law_heap (hr.mono (by decide)) gd (da_cons (de_var 0) da_nil))) (dss_cons (ds_for (passes_of rfl) rfl (di_range1 T.z_range (da_cons (de_add de_int (de_callTy call_int1 sim_int T.z_int (show bootBuiltins "int" = some (.type "int") from rfl) (da_cons (de_cmp op_gt sim_gt (de_callB call_lenA sim_len T.z_len (show bootBuiltins "len" = some (.builtin "len") from rfl) (da_cons (de_var 0) da_nil)) de_int) da_nil))) da_nil)) (dg_name 2 sc_law.nd) (dss_cons (ds_asg (de_tup (da_cons (de_h h__law_pick (hr.mono (by decide)) gd (da_cons (de_var 1) (da_cons (de_lst (da_cons de_int (da_cons de_int (da_cons de_int (da_cons de_int (da_cons de_int (da_cons de_int da_nil))))))) da_nil))) (da_cons (de_h h__law_pick (hr.mono (by decide)) gd (da_cons (de_var 1) (da_cons (de_lst (da_cons de_int (da_cons de_int (da_cons de_int (da_cons de_int (da_cons de_int (da_cons de_int da_nil))))))) da_nil))) da_nil))) (dg_tup rfl (dgs_cons (dg_name 6 sc_law.nd) (dgs_cons (dg_name 7 sc_law.nd) dgs_nil)))) (dss_cons (ds_set 4 sc_law.nd (de_callTy call_tuple_of sim_tuple T.z_tuple (show bootBuiltins "tuple" = some (.type "tuple") from rfl) (da_cons (de_h h__law_vectors (hr.mono (by decide)) gd (da_cons (de_var 1) (da_cons (de_var 6) (da_cons (de_var 7) da_nil)))) da_nil))) (dss_cons (ds_if (dt_not (dt_val (de_h h__law_lot_right (hr.mono (by decide)) gd (da_cons (de_var 1) (da_cons (de_var 4) da_nil))))) (dss_one (ds_ret de_bl)) dss_nil) (dss_cons (ds_asg (de_tup (da_cons (de_h h__law_pick (hr.mono (by decide)) gd (da_cons (de_var 1) (da_cons (de_var 4) da_nil))) (da_cons (de_h h__law_pick (hr.mono (by decide)) gd (da_cons (de_var 1) (da_cons (de_var 4) da_nil))) da_nil))) (dg_tup rfl (dgs_cons (dg_name 8 sc_law.nd) (dgs_cons (dg_name 9 sc_law.nd) dgs_nil)))) (dss_cons (ds_set 5 sc_law.nd (de_callTy call_tuple_of sim_tuple T.z_tuple (show bootBuiltins "tuple" = some (.type "tuple") from rfl) (da_cons (de_lc (own := [("place", 10)]) rfl sc_law.nd (di_range1 T.z_range (da_cons (de_var 6) da_nil)) (show BlkOk ["script", "heap", "turn", "some", "vectors", "due", "places", "many", "one", "other", "place", "more"] (defScope s_law) _ [("place", 10)] from ⟨rfl, by decide +kernel, by decide +kernel, by decide +kernel, by decide +kernel⟩) (fun _ _ _ _ _ => (dg_name 10 sc_law.nd)) (fun _ _ _ _ _ => dts_nil) (fun _ _ _ _ _ => (de_sub (de_ix (de_var 8) (de_var 10)) (de_ix (de_var 9) (de_var 10)))) keep_name) da_nil))) (dss_cons (ds_if (DW.dt (dw_or (dt_cmp (op_neV hr) sim_neV (de_callB (call_repr_any hr gd) sim_repr T.z_repr (show bootBuiltins "repr" = some (.builtin "repr") from rfl) (da_cons (de_h h_differences (hr.mono (by decide)) gd (da_cons (de_var 8) (da_cons (de_var 9) da_nil))) da_nil)) (de_callB (call_repr_any hr gd) sim_repr T.z_repr (show bootBuiltins "repr" = some (.builtin "repr") from rfl) (da_cons (de_var 5) da_nil))) (dw_or1 (dt_cmp (op_neV hr) sim_neV (de_h h_moved_vector (hr.mono (by decide)) gd (da_cons (de_var 9) (da_cons (de_hk0 (ks := ["other", "one"]) (idx := [1, 0]) h_differences (hr.mono (by decide)) gd (fun _ _ _ _ _ _ us ws h1 h2 => match us, ws, h1, h2 with | [], [_, _], _, _ => rfl) (dk_cons (de_var 9) (dk_cons (de_var 8) dk_nil))) da_nil))) (de_var 8))))) (dss_one (ds_ret de_bl)) dss_nil) (dss_cons (ds_set 3 sc_law.nd (de_callTy call_tuple_of sim_tuple T.z_tuple (show bootBuiltins "tuple" = some (.type "tuple") from rfl) (da_cons (de_lc (own := [("more", 11)]) rfl sc_law.nd (di_range1 T.z_range (da_cons (de_h h__law_draw (hr.mono (by decide)) gd (da_cons (de_var 1) (da_cons de_int da_nil))) da_nil)) (show BlkOk ["script", "heap", "turn", "some", "vectors", "due", "places", "many", "one", "other", "place", "more"] (defScope s_law) _ [("more", 11)] from ⟨rfl, by decide +kernel, by decide +kernel, by decide +kernel, by decide +kernel⟩) (fun _ _ _ _ _ => (dg_name 11 sc_law.nd)) (fun _ _ _ _ _ => dts_nil) (fun _ _ _ _ _ => (de_h h__law_draw (hr.mono (by decide)) gd (da_cons (de_var 1) (da_cons (de_var 6) da_nil)))) keep_name) da_nil))) (dss_one (ds_if (DW.dt (dw_or (dt_cmp (op_neV hr) sim_neV (de_callB (call_repr_any hr gd) sim_repr T.z_repr (show bootBuiltins "repr" = some (.builtin "repr") from rfl) (da_cons (de_h h_at_places (hr.mono (by decide)) gd (da_cons (de_var 8) (da_cons (de_var 3) da_nil))) da_nil)) (de_callB (call_repr_any hr gd) sim_repr T.z_repr (show bootBuiltins "repr" = some (.builtin "repr") from rfl) (da_cons (de_callTy call_tuple_of sim_tuple T.z_tuple (show bootBuiltins "tuple" = some (.type "tuple") from rfl) (da_cons (de_lc (own := [("place", 10)]) rfl sc_law.nd (di_seq (de_var 3)) (show BlkOk ["script", "heap", "turn", "some", "vectors", "due", "places", "many", "one", "other", "place", "more"] (defScope s_law) _ [("place", 10)] from ⟨rfl, by decide +kernel, by decide +kernel, by decide +kernel, by decide +kernel⟩) (fun _ _ _ _ _ => (dg_name 10 sc_law.nd)) (fun _ _ _ _ _ => dts_nil) (fun _ _ _ _ _ => (de_ix (de_var 8) (de_var 10))) keep_name) da_nil)) da_nil))) (dw_or1 (dt_cmp (op_neV hr) sim_neV (de_hk0 (ks := ["places", "vector"]) (idx := [1, 0]) h_at_places (hr.mono (by decide)) gd (fun _ _ _ _ _ _ us ws h1 h2 => match us, ws, h1, h2 with | [], [_, _], _, _ => rfl) (dk_cons (de_var 3) (dk_cons (de_var 8) dk_nil))) (de_h h_at_places (hr.mono (by decide)) gd (da_cons (de_var 8) (da_cons (de_var 3) da_nil))))))) (dss_one (ds_ret de_bl)) dss_nil)))))))))) (dss_cons (ds_set 3 sc_law.nd (de_tup (da_cons (de_tup (da_cons de_int (da_cons de_int da_nil))) (da_cons (de_tup (da_cons de_int (da_cons de_int da_nil))) (da_cons (de_tup (da_cons de_int (da_cons (de_neg de_int) da_nil))) (da_cons (de_tup (da_cons de_int (da_cons de_int da_nil))) da_nil)))))) (dss_cons (ds_if (DW.dt (dw_or (dt_cmp (op_neV hr) sim_neV (de_h h_bounds_of (hr.mono (by decide)) gd (da_cons (de_var 3) da_nil)) (de_tup (da_cons (de_tup (da_cons de_int (da_cons (de_neg de_int) da_nil))) (da_cons (de_tup (da_cons de_int (da_cons de_int da_nil))) da_nil)))) (dw_or (dt_cmp (op_neV hr) sim_neV (de_h h_middle_of (hr.mono (by decide)) gd (da_cons (de_var 3) da_nil)) (de_tup (da_cons de_int (da_cons de_int da_nil)))) (dw_or (dt_cmp (op_neV hr) sim_neV (de_h h_widest_place (hr.mono (by decide)) gd (da_cons (de_var 3) da_nil)) de_int) (dw_or1 (dt_cmp (op_neV hr) sim_neV (de_h h_halves_of (hr.mono (by decide)) gd (da_cons (de_var 3) da_nil)) (de_tup (da_cons (de_tup (da_cons de_int (da_cons de_int da_nil))) (da_cons (de_tup (da_cons de_int (da_cons de_int da_nil))) da_nil))))))))) (dss_one (ds_ret de_bl)) dss_nil) (dss_cons (ds_if (DW.dt (dw_or (dt_cmp (op_neV hr) sim_neV (de_h h_middle_of (hr.mono (by decide)) gd (da_cons (de_tup (da_cons (de_tup (da_cons (de_neg de_int) (da_cons de_int da_nil))) (da_cons (de_tup (da_cons de_int (da_cons (de_neg de_int) da_nil))) (da_cons (de_tup (da_cons de_int (da_cons de_int da_nil))) da_nil)))) da_nil)) (de_tup (da_cons (de_neg de_int) (da_cons (de_neg de_int) da_nil)))) (dw_or1 (dt_cmp (op_neV hr) sim_neV (de_h h_halves_of (hr.mono (by decide)) gd (da_cons (de_tup (da_cons (de_tup (da_cons de_int (da_cons de_int da_nil))) (da_cons (de_tup (da_cons de_int (da_cons de_int da_nil))) (da_cons (de_tup (da_cons de_int (da_cons de_int da_nil))) da_nil)))) da_nil)) (de_tup (da_cons (de_tup (da_cons de_int (da_cons de_int da_nil))) (da_cons (de_tup (da_cons de_int da_nil)) da_nil))))))) (dss_one (ds_ret de_bl)) dss_nil) (dss_one (ds_ret (de_and (de_cmp (op_eqV hr) sim_eqV (de_h h_halves_of (hr.mono (by decide)) gd (da_cons (de_tup (da_cons (de_tup (da_cons de_int da_nil)) da_nil)) da_nil)) (de_tup (da_cons (de_tup (da_cons de_int da_nil)) (da_cons (de_tup da_nil) da_nil)))) (de_one (de_cmp (op_eqV hr) sim_eqV (de_h h_widest_place (hr.mono (by decide)) gd (da_cons (de_tup (da_cons (de_tup (da_cons de_int (da_cons de_int da_nil))) (da_cons (de_tup (da_cons de_int (da_cons (de_neg de_int) da_nil))) da_nil))) da_nil)) de_int))))))))))⟩
theorem ok_law {f : Addr} {fd : FuncData} (Fn : Fun K "law" "law" s_law f fd) (T : Txt K mg aKINDS) (h_differences : Has P w K mg base 1 "differences" s_differences ["one", "other"] F_differences) (h_moved_vector : Has P w K mg base 1 "moved_vector" s_moved_vector ["vector", "step"] F_moved_vector) (h_at_places : Has P w K mg base 1 "at_places" s_at_places ["vector", "places"] F_at_places) (h_bounds_of : Has P w K mg base 1 "bounds_of" s_bounds_of ["vectors"] F_bounds_of) (h_middle_of : Has P w K mg base 1 "middle_of" s_middle_of ["vectors"] F_middle_of) (h_widest_place : Has P w K mg base 2 "widest_place" s_widest_place ["vectors"] F_widest_place) (h_halves_of : Has P w K mg base 3 "halves_of" s_halves_of ["vectors"] F_halves_of) (h__law_heap : Has P w K mg base 1 "_law_heap" s__law_heap ["script"] F__law_heap) (h__law_draw : Has P w K mg base 1 "_law_draw" s__law_draw ["heap", "many"] F__law_draw) (h__law_pick : Has P w K mg base 2 "_law_pick" s__law_pick ["heap", "some"] F__law_pick) (h__law_vectors : Has P w K mg base 3 "_law_vectors" s__law_vectors ["heap", "places", "many"] F__law_vectors) (h__law_lot_right : Has P w K mg base 4 "_law_lot_right" s__law_lot_right ["heap", "vectors"] F__law_lot_right) (len : ∀ ds M Q E, F_law ds M Q E → ds.length = 1)
    (body : ∀ ds M Q R, F_law ds M Q R → W_law { nx := fun _ M' => Q .non M', rt := Q, xr := lx R } (startE 12 ds) M) : FnG P w K mg base 5 f fd ["script"] (lift K F_law) :=
  ok_fn Fn sc_law len fun cdv A outer s H E gd hr => (dv_law T h_differences h_moved_vector h_at_places h_bounds_of h_middle_of h_widest_place h_halves_of h__law_heap h__law_draw h__law_pick h__law_vectors h__law_lot_right cdv A outer s H E gd hr).elim fun t ht => ⟨t, _, ht, body⟩
theorem ok__law_draw {f : Addr} {fd : FuncData} (Fn : Fun K "_law_draw" "_law_draw" s__law_draw f fd) (T : Txt K mg aKINDS) : FnG P w K mg base 1 f fd ["heap", "many"] (lift K drawF) := by
  refine fn_g Fn sc__law_draw (fun vs H Q E h => ?_) (fun cdv A outer s H vs Q E gd hr h => ?_)
  · obtain ⟨Z, ds, M, Qd, Rd, _, r, ⟨a, a0, n, rfl, _⟩, _⟩ := h
    exact r.len
  · obtain ⟨Z, ds, M, Qd, Rd, sat, r, ⟨a, a0, n, rfl, hm, hn, hn2, q⟩, kq, _⟩ := h
    cases r with
    | cons r1 r2 =>
    cases r2 with
    | cons r2 r3 =>
    cases r3
    cases r1
    cases r2
    obtain ⟨m0, cs, st, ea, e0, s0, s1, cl, cn⟩ := sat.cell a _ hm
    have d0 : Dr H a a0 cs st H := ⟨fun _ _ _ _ e => e, ea, e0, s0, s1, cl, cn⟩
    have fin : ∀ (H' : Hp) (cs' : List Int) (st' k : Int), Dr H a a0 cs' st' H' → 0 ≤ k → k < n → Q (.int k) H' := fun H' cs' st' k d h1 h2 => kq _ _ H' M (Go.drawn sat hm d.keep d.ok) (.int k) (q k h1 h2)
    have last : ∀ cs' : List Int, cs' ≠ [] → ∃ cs0 c, cs' = cs0 ++ [c] := fun cs' h => ⟨_, _, (List.dropLast_concat_getLast h).symm⟩
    have tail : ∃ t2, PSs (cxOf (L2.CX P w) P w K mg base ["heap", "many", "rest"] "_law_draw" (defScope s__law_draw) f cdv A outer s H E) (defBody s__law_draw).tail t2 ∧
        ∀ (H2 : Hp) (cs' : List Int), Dr H a a0 cs' st H2 → t2 { nx := fun _ J => Q .non J, rt := Q } [some (.ref a), some (.int n), none] H2 := by
      refine ⟨_, pss_cons (ps_if (dt_cmp (op_neG hr) sim_ne (de_ix (de_var 0) de_int) (de_lst da_nil)).pe
            (pss_cons (ps_set (i := 2) sc__law_draw.nd rfl (Or.inl rfl) (pe_bm0 PySem.F.plainAttrs_list PySem.F.slot_list_pop PySem.F.type_list_pop mt_pop (de_ix (de_var 0) de_int).pe))
              (pss_cons (ps_expr (pe_bm PySem.F.plainAttrs_list PySem.F.slot_list_append PySem.F.type_list_append mt_append (de_ix (de_var 0) de_int).pe (da_cons (de_fdiv (de_var 2) (de_var 1)) da_nil).pe))
                (pss_one (ps_ret (de_mod (de_callTy call_int1 sim_int T.z_int (by rfl) (da_cons (de_var 2) da_nil)) (de_var 1)).pe)))) pss_nil)
          (pss_cons (ds_asg (E := lw E) (de_mod (de_callTy call_int1 sim_int T.z_int (by rfl) (da_cons (de_add (de_mul (de_ix (de_var 0) de_int) de_int) de_int) da_nil)) de_int) (dg_sub (de_var 0) de_int)).pe
            (pss_one (ps_ret (de_mod (de_callTy call_int1 sim_int T.z_int (by rfl) (da_cons (de_fdiv (de_ix (de_var 0) de_int) de_int) da_nil)) (de_var 1)).pe))), fun H2 cs' d2 => ?_⟩
      refine ⟨_, rfl, ix_l d2.ha rfl ⟨Nat.zero_le _, fun p hp => ?_⟩⟩
      have d3 := d2.new (o := .lst []) hp
      refine ne_nil d3.h0 upd_same ⟨_, rfl, ?_⟩
      refine ite2 (fun hc => ?_) (fun hc => ?_)
      · obtain ⟨cs0, c, rfl⟩ := last cs' (of_decide_eq_true hc)
        have c0 : 0 ≤ c := d3.pos c (List.mem_append_right _ (List.mem_singleton.mpr rfl))
        have d4 := d3.put (cs' := cs0) (by have z := d3.len; rw [List.length_append] at z; omega) (fun x hx => d3.pos x (List.mem_append_left _ hx))
        have l4 : cs0.length < 100 := by
          have z := d3.len
          rw [List.length_append, List.length_singleton] at z
          omega
        refine ⟨_, rfl, ix_l d3.ha rfl ⟨.inl ⟨rfl, _, SqL.of d3.h0⟩, pop_last d3.h0 ?_⟩⟩
        refine ⟨_, rfl, ix_l d4.ha rfl ⟨.inl ⟨rfl, _, SqL.of d4.h0⟩, _, rfl, _, rfl, _, _, rfl, rfl, ⟨hn, hn2⟩, a0, _, _, rfl, rfl, d4.h0, by rw [List.length_map]; exact Nat.lt_of_lt_of_le l4 (by decide), ?_⟩⟩
        have d5 := d4.put (cs' := cs0 ++ [c / n]) (by rw [List.length_append, List.length_singleton]; omega) (fun x hx => by
          rcases List.mem_append.mp hx with z | z
          · exact d4.pos x z
          · rw [List.mem_singleton.mp z]
            exact Int.ediv_nonneg c0 (by omega))
        rw [List.map_append] at d5
        refine ⟨_, rfl, .inl ⟨_, rfl, _, rfl, _, _, rfl, rfl, hn, ?_⟩⟩
        exact fin _ _ _ _ d5 (Int.emod_nonneg _ (by omega)) (Int.emod_lt_of_pos _ hn)
      · refine ⟨_, rfl, ix_l d3.ha rfl ⟨_, _, rfl, rfl, .inl (.inr ⟨by decide, by decide⟩), .inl ⟨_, _, rfl, rfl, .inl ⟨_, rfl, _, _, rfl, rfl, (by show (0 : Int) < 2147483647; decide), _, rfl, a, _, _, _, rfl, rfl, d3.ha, rfl, ?_⟩⟩⟩⟩
        have d5 := d3.stir (s' := (st * 48271 + 13) % 2147483647) (Int.emod_nonneg _ (by decide)) (Int.lt_trans (Int.emod_lt_of_pos _ (by decide)) (by decide))
        exact ⟨_, rfl, ix_l d5.ha rfl ⟨_, _, rfl, rfl, ⟨(by decide), (by decide)⟩, .inl ⟨_, rfl, _, rfl, _, _, rfl, rfl, hn, fin _ _ _ _ d5 (Int.emod_nonneg _ (by omega)) (Int.emod_lt_of_pos _ hn)⟩⟩⟩
    obtain ⟨t2, ht2, out⟩ := tail
    refine ⟨_, pss_cons (ps_while (passes_of rfl) (DW.dt (dw_and (dt_cmp (op_neG hr) sim_ne (de_ix (de_var 0) de_int) (de_lst da_nil)) (dw_and1 (dt_cmp (op_eqG hr) sim_eq (de_ix (de_ix (de_var 0) de_int) (de_neg de_int)) de_int)))).pe
        (pss_one (ps_expr (pe_bm0 PySem.F.plainAttrs_list PySem.F.slot_list_pop PySem.F.type_list_pop mt_pop (de_ix (de_var 0) de_int).pe)))) ht2, ?_⟩
    refine ⟨fun m σ' H' => σ' = [some (.ref a), some (.int n), none] ∧ ∃ cs' : List Int, Dr H a a0 cs' st H' ∧ m = cs'.length, ⟨_, rfl, cs, d0, rfl⟩, ?_⟩
    rintro m σ' H' ⟨rfl, cs', d, rfl⟩
    refine ⟨_, rfl, ix_l d.ha rfl ⟨Nat.zero_le _, fun p hp => ?_⟩⟩
    have d1 := d.new (o := .lst []) hp
    refine ne_nil d1.h0 upd_same ⟨_, rfl, ?_⟩
    refine ite2 (fun hc => ?_) (fun hc => ?_)
    · obtain ⟨cs0, c, rfl⟩ := last cs' (of_decide_eq_true hc)
      refine ⟨_, rfl, ix_l d1.ha rfl ⟨_, rfl, ix_l d1.h0 at_last ?_⟩⟩
      unfold tC
      refine eq_int ⟨_, rfl, ?_⟩
      refine ite2 (fun h0 => ?_) (fun h0 => ?_)
      · have dp := d1.put (cs' := cs0) (by have z := d1.len; rw [List.length_append] at z; omega) (fun x hx => d1.pos x (List.mem_append_left _ hx))
        refine ⟨fun σ2 H2 => σ2 = [some (.ref a), some (.int n), none] ∧ Dr H a a0 cs0 st H2, fun σ2 H2 ⟨e, d2⟩ => ⟨cs0.length, by rw [List.length_append, List.length_singleton]; omega, e, cs0, d2, rfl⟩, ?_⟩
        exact ⟨_, rfl, ix_l d1.ha rfl ⟨.inl ⟨rfl, _, SqL.of d1.h0⟩, pop_last d1.h0 ⟨rfl, dp⟩⟩⟩
      · exact out _ _ d1
    · exact out _ _ d1
end
end K02
namespace K02
open PySem L2 L3
def fSub : D → D := fun d => match d with
  | .tup [.int a, .int b] => .int (a - b)
  | _ => .non
theorem zip_sub (v u : List Int) : (zipD (v.map .int) (u.map .int)).map fSub = (subI v u).map D.int := by
  unfold zipD subI
  induction v generalizing u with
  | nil => rfl
  | cons a v ih =>
    cases u with
    | nil => rfl
    | cons b u =>
      rw [List.map_cons, List.map_cons, List.zipWith_cons_cons, List.zipWith_cons_cons, List.map_cons, List.map_cons, ih]
      rfl
theorem zip_mem {v u : List Int} {d : D} (h : d ∈ zipD (v.map .int) (u.map .int)) : ∃ a b : Int, d = .tup [.int a, .int b] := by
  obtain ⟨i, hi⟩ := List.mem_iff_getElem?.mp h
  obtain ⟨x, y, e1, e2, rfl⟩ := zip_get hi
  have i1 := List.mem_of_getElem? e1
  have i2 := List.mem_of_getElem? e2
  obtain ⟨a, _, rfl⟩ := List.mem_map.mp i1
  obtain ⟨b, _, rfl⟩ := List.mem_map.mp i2
  exact ⟨a, b, rfl⟩
theorem zip_len {xs ys : List D} : (zipD xs ys).length ≤ xs.length := by
  unfold zipD
  rw [List.length_zipWith]
  omega
theorem wp_differences : ∀ ds M Q R, F_differences ds M Q R → W_differences { nx := fun _ M' => Q .non M', rt := Q, xr := lx R } (startE 4 ds) M := by
  rintro ds M Q R ⟨v, u, rfl, hv, hu, q⟩
  unfold W_differences
  simp (disch := first | assumption | decide) only [wSeq, wNext, wAsg, wgName, wIfS, wB, wOp, wVar, wC, wCall, wCallK, wCons, wNil, wRet, wRetN, wDrop, wTup, wLst, wIf, wAnd, wOr, wNot, wAndV, wOrV, wNotV, wNeg, wChain, fI, fI0, addD, fLt, fLe, fGt, fGe, fIsB, wCB, fAbs, f2I, fInt, fIsq, wPar, wPar3, permD, startE, List.map_cons, List.map_nil, List.cons_append, List.nil_append, List.append_nil, List.length_cons, List.length_nil, List.replicate, List.getElem?_cons_zero, List.getElem?_cons_succ, List.set_cons_zero, List.set_cons_succ, List.getD_cons_zero, List.getD_cons_succ, Nat.reduceAdd, Nat.reduceSub, Nat.zero_add, true_and, and_true, Bool.not_true, Bool.not_false, if_true, if_false, Bool.false_eq_true, reduceIte, decide_eq_true_eq, Bool.not_eq_true', decide_eq_false_iff_not, eqV_int, eqV_str, eqV_bl, decide_true, reduceCtorEq, not_true_eq_false, not_false_eq_true, Bool.not_eq_true, List.not_mem_nil, false_implies, implies_true, Int.reduceNeg, Int.reduceToNat, Int.reducePow, Int.reduceMul, Int.reduceAdd, draw_i, ix_t0, ix_t1, ix_t2, ix_t3, ix_m3, ix_m4, sn_ball_box, sn_cell_box, sn_cell_ball, sn_ball_cell, sn_box_ball, sn_box_cell, decide_false, wLc, wiZip, wipeE, vec, fTuple]
  refine lc_pure fSub True.intro _ [] ?_ (fun d hd K hK => ?_) ?_
  · have := zip_len (xs := v.map D.int) (ys := u.map D.int)
    rw [List.length_map] at this
    have := hv.1
    simp only [List.length_nil]
    omega
  · obtain ⟨a, b, rfl⟩ := zip_mem hd
    simp (disch := first | assumption | decide) only [wSeq, wNext, wAsg, wgName, wIfS, wB, wOp, wVar, wC, wCall, wCallK, wCons, wNil, wRet, wRetN, wDrop, wTup, wLst, wIf, wAnd, wOr, wNot, wAndV, wOrV, wNotV, wNeg, wChain, fI, fI0, addD, fLt, fLe, fGt, fGe, fIsB, wCB, fAbs, f2I, fInt, fIsq, wPar, wPar3, permD, startE, List.map_cons, List.map_nil, List.cons_append, List.nil_append, List.append_nil, List.length_cons, List.length_nil, List.replicate, List.getElem?_cons_zero, List.getElem?_cons_succ, List.set_cons_zero, List.set_cons_succ, List.getD_cons_zero, List.getD_cons_succ, Nat.reduceAdd, Nat.reduceSub, Nat.zero_add, true_and, and_true, Bool.not_true, Bool.not_false, if_true, if_false, Bool.false_eq_true, reduceIte, decide_eq_true_eq, Bool.not_eq_true', decide_eq_false_iff_not, eqV_int, eqV_str, eqV_bl, decide_true, reduceCtorEq, not_true_eq_false, not_false_eq_true, Bool.not_eq_true, List.not_mem_nil, false_implies, implies_true, Int.reduceNeg, Int.reduceToNat, Int.reducePow, Int.reduceMul, Int.reduceAdd, draw_i, ix_t0, ix_t1, ix_t2, ix_t3, ix_m3, ix_m4, sn_ball_box, sn_cell_box, sn_cell_ball, sn_ball_cell, sn_box_ball, sn_box_cell, decide_false, wgTup, wgCons, wgNil]
    exact hK
  · rw [List.nil_append, zip_sub]
    exact ⟨_, rfl, q⟩
theorem atI_nat {v : List Int} {p : Nat} (h : p < v.length) : atI (v.map D.int) (p : Int) = some (.int (v.getD p 0)) := by
  unfold atI ixN
  rw [List.getD_eq_getElem?_getD, List.getElem?_eq_getElem h]
  simp [h]
theorem wp__law_pick : ∀ ds M Q R, pickF ds M Q R → W__law_pick { nx := fun _ M' => Q .non M', rt := Q, xr := lx R } (startE 2 ds) M := by
  rintro ds M Q R ⟨a, a0, d, es, rfl, hm, hs, h0, h1, q⟩
  unfold W__law_pick
  simp (disch := first | assumption | decide) only [wSeq, wNext, wAsg, wgName, wIfS, wB, wOp, wVar, wC, wCall, wCallK, wCons, wNil, wRet, wRetN, wDrop, wTup, wLst, wIf, wAnd, wOr, wNot, wAndV, wOrV, wNotV, wNeg, wChain, fI, fI0, addD, fLt, fLe, fGt, fGe, fIsB, wCB, fAbs, f2I, fInt, fIsq, wPar, wPar3, permD, startE, List.map_cons, List.map_nil, List.cons_append, List.nil_append, List.append_nil, List.length_cons, List.length_nil, List.replicate, List.getElem?_cons_zero, List.getElem?_cons_succ, List.set_cons_zero, List.set_cons_succ, List.getD_cons_zero, List.getD_cons_succ, Nat.reduceAdd, Nat.reduceSub, Nat.zero_add, true_and, and_true, Bool.not_true, Bool.not_false, if_true, if_false, Bool.false_eq_true, reduceIte, decide_eq_true_eq, Bool.not_eq_true', decide_eq_false_iff_not, eqV_int, eqV_str, eqV_bl, decide_true, reduceCtorEq, not_true_eq_false, not_false_eq_true, Bool.not_eq_true, List.not_mem_nil, false_implies, implies_true, Int.reduceNeg, Int.reduceToNat, Int.reducePow, Int.reduceMul, Int.reduceAdd, draw_i, ix_t0, ix_t1, ix_t2, ix_t3, ix_m3, ix_m4, sn_ball_box, sn_cell_box, sn_cell_ball, sn_ball_cell, sn_box_ball, sn_box_cell, decide_false]
  have fl : ∀ Q' : KD, Q' (.int (es.length : Int)) M → fLen [d] M Q' := fun Q' h => by
    cases d <;> first | exact ⟨es, hs, h⟩ | cases hs
  refine fl _ ?_
  have hl : (0 : Int) < (es.length : Int) := by omega
  have hg : ((es.length : Nat) : Int).natAbs.log2 < 9000 := by
    rw [Int.natAbs_natCast]
    have := Nat.log2_le_self es.length
    have h2 : es.length.log2 < 20 := (Nat.log2_lt (by omega)).mpr (by omega)
    omega
  refine ⟨a, a0, _, rfl, hm, hl, hg, fun k k0 k1 => ?_⟩
  obtain ⟨i, rfl⟩ := Int.eq_ofNat_of_zero_le k0
  have hi : i < es.length := by omega
  have e : atI es (i : Int) = some es[i] := by
    unfold atI ixN
    simp [hi]
  have fx : ∀ Q' : KD, Q' es[i] M → ixD d (.int (i : Int)) M Q' := fun Q' h => by
    cases d <;> first | exact ⟨es, _, hs, e, h⟩ | cases hs
  exact fx _ (q _ (List.getElem_mem hi))
theorem cut_ints (ns : List Int) (lo hi : Option Int) : ∃ ms : List Int, cutD (ns.map .int) lo hi = ms.map .int ∧ ms.length ≤ ns.length := by
  unfold cutD
  refine ⟨(ns.drop (HT.sIx (ns.map D.int).length 0 lo)).take (HT.sIx (ns.map D.int).length (ns.map D.int).length hi - HT.sIx (ns.map D.int).length 0 lo), ?_, ?_⟩
  · rw [← List.map_drop, ← List.map_take]
  · rw [List.length_take, List.length_drop]
    omega
theorem heap_cells {Q : KD} {M : Mp} {sc : Option D} {v2 v3 : Option D} : ∀ (ns acc : List Int), acc.length + ns.length ≤ 63 → (∀ c ∈ acc, 0 ≤ c) → (∀ cs : List Int, cs.length ≤ 63 → (∀ c ∈ cs, 0 ≤ c) → Q (.lst (cs.map .int)) M) →
    wLcL (wgName 1) wYes (wOp addD (wOp (fI CM fun i j => .int (i * j)) (wC (.int 2)) (wCB fAbs (wCons (wVar 1) wNil))) (wCB fInt (wCons (wOp fLt (wVar 1) (wC (.int 0))) wNil))) AnyM [sc, none, v2, v3] (ns.map .int) (acc.map .int) M Q
  | [], acc, hl, hp, q => ⟨True.intro, q acc (by simpa using hl) hp⟩
  | n :: ns, acc, hl, hp, q => by
    refine ⟨True.intro, ?_, ?_⟩
    · rw [List.length_map]
      rw [List.length_cons] at hl
      exact Nat.lt_of_lt_of_le (by omega : acc.length < 63) (by decide)
    · have e : ∀ c : Int, acc.map D.int ++ [.int c] = (acc ++ [c]).map .int := fun c => by rw [List.map_append]; rfl
      simp (disch := first | assumption | decide) only [wSeq, wNext, wAsg, wgName, wIfS, wB, wOp, wVar, wC, wCall, wCallK, wCons, wNil, wRet, wRetN, wDrop, wTup, wLst, wIf, wAnd, wOr, wNot, wAndV, wOrV, wNotV, wNeg, wChain, fI, fI0, addD, fLt, fLe, fGt, fGe, fIsB, wCB, fAbs, f2I, fInt, fIsq, wPar, wPar3, permD, startE, List.map_cons, List.map_nil, List.cons_append, List.nil_append, List.append_nil, List.length_cons, List.length_nil, List.replicate, List.getElem?_cons_zero, List.getElem?_cons_succ, List.set_cons_zero, List.set_cons_succ, List.getD_cons_zero, List.getD_cons_succ, Nat.reduceAdd, Nat.reduceSub, Nat.zero_add, true_and, and_true, Bool.not_true, Bool.not_false, if_true, if_false, Bool.false_eq_true, reduceIte, decide_eq_true_eq, Bool.not_eq_true', decide_eq_false_iff_not, eqV_int, eqV_str, eqV_bl, decide_true, reduceCtorEq, not_true_eq_false, not_false_eq_true, Bool.not_eq_true, List.not_mem_nil, false_implies, implies_true, Int.reduceNeg, Int.reduceToNat, Int.reducePow, Int.reduceMul, Int.reduceAdd, draw_i, ix_t0, ix_t1, ix_t2, ix_t3, ix_m3, ix_m4, sn_ball_box, sn_cell_box, sn_cell_ball, sn_ball_cell, sn_box_ball, sn_box_cell, decide_false, wYes]
      refine ⟨.inl (.inl ⟨by decide, by decide⟩), ?_⟩
      rw [e]
      refine heap_cells ns _ (by rw [List.length_append, List.length_singleton]; rw [List.length_cons] at hl; omega) (fun c hc => ?_) q
      rcases List.mem_append.mp hc with z | z
      · exact hp c z
      · rw [List.mem_singleton.mp z]
        split <;> omega
theorem heap_great {Q : KD} {M : Mp} {v0 v2 v3 : Option D} : ∀ (ns acc : List Int), acc.length + ns.length ≤ 63 → (∀ c ∈ acc, 0 ≤ c) → (∀ c ∈ ns, 0 ≤ c) → (∀ cs : List Int, cs.length ≤ 63 → (∀ c ∈ cs, 0 ≤ c) → Q (.lst (cs.map .int)) M) →
    wLcL (wgName 1) (wB (wOp fGe (wVar 1) (wOp (fI CPow fun i j => .int (i ^ j.toNat)) (wC (.int 10)) (wC (.int 18))))) (wVar 1) AnyM [v0, none, v2, v3] (ns.map .int) (acc.map .int) M Q
  | [], acc, hl, hp, hq, q => ⟨True.intro, q acc (by simpa using hl) hp⟩
  | n :: ns, acc, hl, hp, hq, q => by
    rw [List.length_cons] at hl
    refine ⟨True.intro, ?_, ?_⟩
    · rw [List.length_map]
      exact Nat.lt_of_lt_of_le (by omega : acc.length < 63) (by decide)
    · have e : ∀ c : Int, acc.map D.int ++ [.int c] = (acc ++ [c]).map .int := fun c => by rw [List.map_append]; rfl
      simp (disch := first | assumption | decide) only [wSeq, wNext, wAsg, wgName, wIfS, wB, wOp, wVar, wC, wCall, wCallK, wCons, wNil, wRet, wRetN, wDrop, wTup, wLst, wIf, wAnd, wOr, wNot, wAndV, wOrV, wNotV, wNeg, wChain, fI, fI0, addD, fLt, fLe, fGt, fGe, fIsB, wCB, fAbs, f2I, fInt, fIsq, wPar, wPar3, permD, startE, List.map_cons, List.map_nil, List.cons_append, List.nil_append, List.append_nil, List.length_cons, List.length_nil, List.replicate, List.getElem?_cons_zero, List.getElem?_cons_succ, List.set_cons_zero, List.set_cons_succ, List.getD_cons_zero, List.getD_cons_succ, Nat.reduceAdd, Nat.reduceSub, Nat.zero_add, true_and, and_true, Bool.not_true, Bool.not_false, if_true, if_false, Bool.false_eq_true, reduceIte, decide_eq_true_eq, Bool.not_eq_true', decide_eq_false_iff_not, eqV_int, eqV_str, eqV_bl, decide_true, reduceCtorEq, not_true_eq_false, not_false_eq_true, Bool.not_eq_true, List.not_mem_nil, false_implies, implies_true, Int.reduceNeg, Int.reduceToNat, Int.reducePow, Int.reduceMul, Int.reduceAdd, draw_i, ix_t0, ix_t1, ix_t2, ix_t3, ix_m3, ix_m4, sn_ball_box, sn_cell_box, sn_cell_ball, sn_ball_cell, sn_box_ball, sn_box_cell, decide_false]
      refine ⟨⟨by decide, by decide, by decide⟩, ?_⟩
      have hq2 : ∀ c ∈ ns, 0 ≤ c := fun c hc => hq c (List.mem_cons_of_mem _ hc)
      split
      · rw [e]
        refine heap_great ns _ (by rw [List.length_append, List.length_singleton]; omega) (fun c hc => ?_) hq2 q
        rcases List.mem_append.mp hc with z | z
        · exact hp c z
        · rw [List.mem_singleton.mp z]
          exact hq n List.mem_cons_self
      · exact heap_great ns acc (by omega) hp hq2 q
theorem wp__law_heap : ∀ ds M Q R, F__law_heap ds M Q R → W__law_heap { nx := fun _ M' => Q .non M', rt := Q, xr := lx R } (startE 4 ds) M := by
  rintro ds M Q R ⟨ns, rfl, hn, q⟩
  unfold W__law_heap
  refine seq_gen fun K hK => ?_
  simp (disch := first | assumption | decide) only [wSeq, wNext, wAsg, wgName, wIfS, wB, wOp, wVar, wC, wCall, wCallK, wCons, wNil, wRet, wRetN, wDrop, wTup, wLst, wIf, wAnd, wOr, wNot, wAndV, wOrV, wNotV, wNeg, wChain, fI, fI0, addD, fLt, fLe, fGt, fGe, fIsB, wCB, fAbs, f2I, fInt, fIsq, wPar, wPar3, permD, startE, List.map_cons, List.map_nil, List.cons_append, List.nil_append, List.append_nil, List.length_cons, List.length_nil, List.replicate, List.getElem?_cons_zero, List.getElem?_cons_succ, List.set_cons_zero, List.set_cons_succ, List.getD_cons_zero, List.getD_cons_succ, Nat.reduceAdd, Nat.reduceSub, Nat.zero_add, true_and, and_true, Bool.not_true, Bool.not_false, if_true, if_false, Bool.false_eq_true, reduceIte, decide_eq_true_eq, Bool.not_eq_true', decide_eq_false_iff_not, eqV_int, eqV_str, eqV_bl, decide_true, reduceCtorEq, not_true_eq_false, not_false_eq_true, Bool.not_eq_true, List.not_mem_nil, false_implies, implies_true, Int.reduceNeg, Int.reduceToNat, Int.reducePow, Int.reduceMul, Int.reduceAdd, draw_i, ix_t0, ix_t1, ix_t2, ix_t3, ix_m3, ix_m4, sn_ball_box, sn_cell_box, sn_cell_ball, sn_ball_cell, sn_box_ball, sn_box_cell, decide_false, wLc, wSl, wNoP, wPart, slD, wiSeq, wipeE]
  obtain ⟨ms, em, lm⟩ := cut_ints ns none (some 60)
  refine ⟨_, ⟨0, .inr rfl⟩, rfl, ?_⟩
  rw [em]
  refine heap_cells ms [] (by simp; omega) (fun c hc => by cases hc) fun cs hc hp => ?_
  subst hK
  refine seq_gen fun K hK => ?_
  refine for_gen fun B hB => ?_
  simp (disch := first | assumption | decide) only [wSeq, wNext, wAsg, wgName, wIfS, wB, wOp, wVar, wC, wCall, wCallK, wCons, wNil, wRet, wRetN, wDrop, wTup, wLst, wIf, wAnd, wOr, wNot, wAndV, wOrV, wNotV, wNeg, wChain, fI, fI0, addD, fLt, fLe, fGt, fGe, fIsB, wCB, fAbs, f2I, fInt, fIsq, wPar, wPar3, permD, startE, List.map_cons, List.map_nil, List.cons_append, List.nil_append, List.append_nil, List.length_cons, List.length_nil, List.replicate, List.getElem?_cons_zero, List.getElem?_cons_succ, List.set_cons_zero, List.set_cons_succ, List.getD_cons_zero, List.getD_cons_succ, Nat.reduceAdd, Nat.reduceSub, Nat.zero_add, true_and, and_true, Bool.not_true, Bool.not_false, if_true, if_false, Bool.false_eq_true, reduceIte, decide_eq_true_eq, Bool.not_eq_true', decide_eq_false_iff_not, eqV_int, eqV_str, eqV_bl, decide_true, reduceCtorEq, not_true_eq_false, not_false_eq_true, Bool.not_eq_true, List.not_mem_nil, false_implies, implies_true, Int.reduceNeg, Int.reduceToNat, Int.reducePow, Int.reduceMul, Int.reduceAdd, draw_i, ix_t0, ix_t1, ix_t2, ix_t3, ix_m3, ix_m4, sn_ball_box, sn_cell_box, sn_cell_ball, sn_ball_cell, sn_box_ball, sn_box_cell, decide_false, wFor, wiSeq]
  refine loop_ix (fun i ρ' M' => M' = M ∧ ∃ (v1 : Option D) (s : Int), ρ' = [some (.lst (ns.map .int)), v1, some (.lst (cs.map .int)), some (.int s)] ∧ 0 ≤ s ∧ s < 4294967296) ?_ ?_ ⟨rfl, _, _, rfl, by decide, by decide⟩
  · rintro i d ρ' M' hi ⟨rfl, v1, s, rfl, s0, s1⟩
    refine ⟨True.intro, fun K' hK' => ?_⟩
    obtain ⟨c, rfl⟩ : ∃ c : Int, d = .int c := by
      rw [List.getElem?_map] at hi
      cases e : cs[i]? with
      | none =>
        rw [e] at hi
        cases hi
      | some c =>
        rw [e] at hi
        exact ⟨c, (Option.some.inj hi).symm⟩
    subst hB
    simp (disch := first | assumption | decide) only [wSeq, wNext, wAsg, wgName, wIfS, wB, wOp, wVar, wC, wCall, wCallK, wCons, wNil, wRet, wRetN, wDrop, wTup, wLst, wIf, wAnd, wOr, wNot, wAndV, wOrV, wNotV, wNeg, wChain, fI, fI0, addD, fLt, fLe, fGt, fGe, fIsB, wCB, fAbs, f2I, fInt, fIsq, wPar, wPar3, permD, startE, List.map_cons, List.map_nil, List.cons_append, List.nil_append, List.append_nil, List.length_cons, List.length_nil, List.replicate, List.getElem?_cons_zero, List.getElem?_cons_succ, List.set_cons_zero, List.set_cons_succ, List.getD_cons_zero, List.getD_cons_succ, Nat.reduceAdd, Nat.reduceSub, Nat.zero_add, true_and, and_true, Bool.not_true, Bool.not_false, if_true, if_false, Bool.false_eq_true, reduceIte, decide_eq_true_eq, Bool.not_eq_true', decide_eq_false_iff_not, eqV_int, eqV_str, eqV_bl, decide_true, reduceCtorEq, not_true_eq_false, not_false_eq_true, Bool.not_eq_true, List.not_mem_nil, false_implies, implies_true, Int.reduceNeg, Int.reduceToNat, Int.reducePow, Int.reduceMul, Int.reduceAdd, draw_i, ix_t0, ix_t1, ix_t2, ix_t3, ix_m3, ix_m4, sn_ball_box, sn_cell_box, sn_cell_ball, sn_ball_cell, sn_box_ball, sn_box_cell, decide_false]
    refine ⟨.inl (.inr ⟨by decide, by decide⟩), by decide, by decide, ?_⟩
    exact hK' _ _ ⟨rfl, _, _, rfl, Int.emod_nonneg _ (by decide), Int.lt_trans (Int.emod_lt_of_pos _ (by decide)) (by decide)⟩
  · rintro ρ' M' ⟨rfl, v1, s, rfl, s0, s1⟩
    refine ⟨True.intro, ?_⟩
    show K _ _
    subst hK
    simp (disch := first | assumption | decide) only [wSeq, wNext, wAsg, wgName, wIfS, wB, wOp, wVar, wC, wCall, wCallK, wCons, wNil, wRet, wRetN, wDrop, wTup, wLst, wIf, wAnd, wOr, wNot, wAndV, wOrV, wNotV, wNeg, wChain, fI, fI0, addD, fLt, fLe, fGt, fGe, fIsB, wCB, fAbs, f2I, fInt, fIsq, wPar, wPar3, permD, startE, List.map_cons, List.map_nil, List.cons_append, List.nil_append, List.append_nil, List.length_cons, List.length_nil, List.replicate, List.getElem?_cons_zero, List.getElem?_cons_succ, List.set_cons_zero, List.set_cons_succ, List.getD_cons_zero, List.getD_cons_succ, Nat.reduceAdd, Nat.reduceSub, Nat.zero_add, true_and, and_true, Bool.not_true, Bool.not_false, if_true, if_false, Bool.false_eq_true, reduceIte, decide_eq_true_eq, Bool.not_eq_true', decide_eq_false_iff_not, eqV_int, eqV_str, eqV_bl, decide_true, reduceCtorEq, not_true_eq_false, not_false_eq_true, Bool.not_eq_true, List.not_mem_nil, false_implies, implies_true, Int.reduceNeg, Int.reduceToNat, Int.reducePow, Int.reduceMul, Int.reduceAdd, draw_i, ix_t0, ix_t1, ix_t2, ix_t3, ix_m3, ix_m4, sn_ball_box, sn_cell_box, sn_cell_ball, sn_ball_cell, sn_box_ball, sn_box_cell, decide_false, wDrw, wLc, wiSeq, wipeE]
    refine heap_great cs [] (by simp; omega) (fun c hc => by cases hc) hp fun cs2 hc2 hp2 => ?_
    refine ⟨cs2, s, rfl, rfl, by omega, hp2, s0, s1, fun p q' _ _ _ => q _ q' p setM_same⟩
theorem ix_seqd {M : Mp} {d : D} {v : List Int} {i : Nat} {Q : KD} (h : seqD M d = some (v.map .int)) (hi : i < v.length) (q : Q (.int (v.getD i 0)) M) : ixD d (.int (i : Int)) M Q := by
  have e := atI_nat hi
  cases d <;> first | exact ⟨_, _, h, e, q⟩ | cases h
theorem ints_of {R : Int → Prop} : ∀ {ys : List D}, (∀ y ∈ ys, ∃ b : Int, y = .int b ∧ R b) → ∃ ns : List Int, ys = ns.map .int ∧ ∀ b ∈ ns, R b
  | [], _ => ⟨[], rfl, fun b h => by cases h⟩
  | y :: ys, h => by
    obtain ⟨b, rfl, hb⟩ := h y List.mem_cons_self
    obtain ⟨ns, rfl, hn⟩ := ints_of (fun z hz => h z (List.mem_cons_of_mem _ hz))
    refine ⟨b :: ns, rfl, fun c hc => ?_⟩
    rcases List.mem_cons.mp hc with rfl | hc
    · exact hb
    · exact hn c hc
theorem repr_bl {M : Mp} {b : Bool} {Q : KD} : fRepr [.bl b] M Q ↔ Q (.str (shown (.bl b))) M :=
  ⟨fun h => h.2.2, fun q => ⟨⟨1, by decide, True.intro⟩, by simp [res, cost], q⟩⟩
theorem del_set {M : Mp} {p : Addr} {c : Cell} (h : M p = none) : delM (setM M p c) p = M := by
  funext b
  unfold delM setM
  split
  · rename_i e
    rw [e, h]
  · rfl
theorem set_set {M : Mp} {p : Addr} {c d : Cell} : setM (setM M p c) p d = setM M p d := by
  funext b
  unfold setM
  split <;> rfl
end K02
namespace K02
open PySem L2 L3
theorem vk_sm {p : Nat} {B : Int} {v : List Int} (hp : p ≤ 8) (hB : B ≤ 30000000) (h : vk p B v) : sm v := ⟨by rw [h.1]; omega, fun a ha => by have := h.2 a ha; omega⟩
theorem wp_differencesK : ∀ ds M Q R, F_differencesK ds M Q R → W_differencesK { nx := fun _ M' => Q .non M', rt := Q, xr := lx R } (startE 4 ds) M := by
  rintro ds M Q R ⟨v, u, rfl, hv, hu, q⟩
  unfold W_differencesK
  simp (disch := first | assumption | decide) only [wSeq, wNext, wAsg, wgName, wIfS, wB, wOp, wVar, wC, wCall, wCallK, wCons, wNil, wRet, wRetN, wDrop, wTup, wLst, wIf, wAnd, wOr, wNot, wAndV, wOrV, wNotV, wNeg, wChain, fI, fI0, addD, fLt, fLe, fGt, fGe, fIsB, wCB, fAbs, f2I, fInt, fIsq, wPar, wPar3, permD, startE, List.map_cons, List.map_nil, List.cons_append, List.nil_append, List.append_nil, List.length_cons, List.length_nil, List.replicate, List.getElem?_cons_zero, List.getElem?_cons_succ, List.set_cons_zero, List.set_cons_succ, List.getD_cons_zero, List.getD_cons_succ, Nat.reduceAdd, Nat.reduceSub, Nat.zero_add, true_and, and_true, Bool.not_true, Bool.not_false, if_true, if_false, Bool.false_eq_true, reduceIte, decide_eq_true_eq, Bool.not_eq_true', decide_eq_false_iff_not, eqV_int, eqV_str, eqV_bl, decide_true, reduceCtorEq, not_true_eq_false, not_false_eq_true, Bool.not_eq_true, List.not_mem_nil, false_implies, implies_true, Int.reduceNeg, Int.reduceToNat, Int.reducePow, Int.reduceMul, Int.reduceAdd, draw_i, ix_t0, ix_t1, ix_t2, ix_t3, ix_m3, ix_m4, sn_ball_box, sn_cell_box, sn_cell_ball, sn_ball_cell, sn_box_ball, sn_box_cell, decide_false, wLc, wiZip, wipeE, vec, fTupleK]
  refine lc_pure fSub True.intro _ [] ?_ (fun d hd K hK => ?_) ?_
  · have := zip_len (xs := v.map D.int) (ys := u.map D.int)
    rw [List.length_map] at this
    have := hv.1
    simp only [List.length_nil]
    omega
  · obtain ⟨a, b, rfl⟩ := zip_mem hd
    simp (disch := first | assumption | decide) only [wSeq, wNext, wAsg, wgName, wIfS, wB, wOp, wVar, wC, wCall, wCallK, wCons, wNil, wRet, wRetN, wDrop, wTup, wLst, wIf, wAnd, wOr, wNot, wAndV, wOrV, wNotV, wNeg, wChain, fI, fI0, addD, fLt, fLe, fGt, fGe, fIsB, wCB, fAbs, f2I, fInt, fIsq, wPar, wPar3, permD, startE, List.map_cons, List.map_nil, List.cons_append, List.nil_append, List.append_nil, List.length_cons, List.length_nil, List.replicate, List.getElem?_cons_zero, List.getElem?_cons_succ, List.set_cons_zero, List.set_cons_succ, List.getD_cons_zero, List.getD_cons_succ, Nat.reduceAdd, Nat.reduceSub, Nat.zero_add, true_and, and_true, Bool.not_true, Bool.not_false, if_true, if_false, Bool.false_eq_true, reduceIte, decide_eq_true_eq, Bool.not_eq_true', decide_eq_false_iff_not, eqV_int, eqV_str, eqV_bl, decide_true, reduceCtorEq, not_true_eq_false, not_false_eq_true, Bool.not_eq_true, List.not_mem_nil, false_implies, implies_true, Int.reduceNeg, Int.reduceToNat, Int.reducePow, Int.reduceMul, Int.reduceAdd, draw_i, ix_t0, ix_t1, ix_t2, ix_t3, ix_m3, ix_m4, sn_ball_box, sn_cell_box, sn_cell_ball, sn_ball_cell, sn_box_ball, sn_box_cell, decide_false, wgTup, wgCons, wgNil]
    exact hK
  · rw [List.nil_append, zip_sub]
    exact q
def fAdd : D → D := fun d => match d with
  | .tup [.int a, .int b] => .int (a + b)
  | _ => .non
theorem zip_add (v u : List Int) : (zipD (v.map .int) (u.map .int)).map fAdd = (addI v u).map D.int := by
  unfold zipD addI
  induction v generalizing u with
  | nil => rfl
  | cons a v ih =>
    cases u with
    | nil => rfl
    | cons b u =>
      rw [List.map_cons, List.map_cons, List.zipWith_cons_cons, List.zipWith_cons_cons, List.map_cons, List.map_cons, ih]
      rfl
theorem wp_moved_vector : ∀ ds M Q R, F_moved_vector ds M Q R → W_moved_vector { nx := fun _ M' => Q .non M', rt := Q, xr := lx R } (startE 4 ds) M := by
  rintro ds M Q R ⟨v, u, rfl, hv, hu, q⟩
  unfold W_moved_vector
  simp (disch := first | assumption | decide) only [wSeq, wNext, wAsg, wgName, wIfS, wB, wOp, wVar, wC, wCall, wCallK, wCons, wNil, wRet, wRetN, wDrop, wTup, wLst, wIf, wAnd, wOr, wNot, wAndV, wOrV, wNotV, wNeg, wChain, fI, fI0, addD, fLt, fLe, fGt, fGe, fIsB, wCB, fAbs, f2I, fInt, fIsq, wPar, wPar3, permD, startE, List.map_cons, List.map_nil, List.cons_append, List.nil_append, List.append_nil, List.length_cons, List.length_nil, List.replicate, List.getElem?_cons_zero, List.getElem?_cons_succ, List.set_cons_zero, List.set_cons_succ, List.getD_cons_zero, List.getD_cons_succ, Nat.reduceAdd, Nat.reduceSub, Nat.zero_add, true_and, and_true, Bool.not_true, Bool.not_false, if_true, if_false, Bool.false_eq_true, reduceIte, decide_eq_true_eq, Bool.not_eq_true', decide_eq_false_iff_not, eqV_int, eqV_str, eqV_bl, decide_true, reduceCtorEq, not_true_eq_false, not_false_eq_true, Bool.not_eq_true, List.not_mem_nil, false_implies, implies_true, Int.reduceNeg, Int.reduceToNat, Int.reducePow, Int.reduceMul, Int.reduceAdd, draw_i, ix_t0, ix_t1, ix_t2, ix_t3, ix_m3, ix_m4, sn_ball_box, sn_cell_box, sn_cell_ball, sn_ball_cell, sn_box_ball, sn_box_cell, decide_false, wLc, wiZip, wipeE, vec, fTuple]
  refine lc_pure fAdd True.intro _ [] ?_ (fun d hd K hK => ?_) ?_
  · have := zip_len (xs := v.map D.int) (ys := u.map D.int)
    rw [List.length_map] at this
    have := hv.1
    simp only [List.length_nil]
    omega
  · obtain ⟨a, b, rfl⟩ := zip_mem hd
    simp (disch := first | assumption | decide) only [wSeq, wNext, wAsg, wgName, wIfS, wB, wOp, wVar, wC, wCall, wCallK, wCons, wNil, wRet, wRetN, wDrop, wTup, wLst, wIf, wAnd, wOr, wNot, wAndV, wOrV, wNotV, wNeg, wChain, fI, fI0, addD, fLt, fLe, fGt, fGe, fIsB, wCB, fAbs, f2I, fInt, fIsq, wPar, wPar3, permD, startE, List.map_cons, List.map_nil, List.cons_append, List.nil_append, List.append_nil, List.length_cons, List.length_nil, List.replicate, List.getElem?_cons_zero, List.getElem?_cons_succ, List.set_cons_zero, List.set_cons_succ, List.getD_cons_zero, List.getD_cons_succ, Nat.reduceAdd, Nat.reduceSub, Nat.zero_add, true_and, and_true, Bool.not_true, Bool.not_false, if_true, if_false, Bool.false_eq_true, reduceIte, decide_eq_true_eq, Bool.not_eq_true', decide_eq_false_iff_not, eqV_int, eqV_str, eqV_bl, decide_true, reduceCtorEq, not_true_eq_false, not_false_eq_true, Bool.not_eq_true, List.not_mem_nil, false_implies, implies_true, Int.reduceNeg, Int.reduceToNat, Int.reducePow, Int.reduceMul, Int.reduceAdd, draw_i, ix_t0, ix_t1, ix_t2, ix_t3, ix_m3, ix_m4, sn_ball_box, sn_cell_box, sn_cell_ball, sn_ball_cell, sn_box_ball, sn_box_cell, decide_false, wgTup, wgCons, wgNil]
    exact hK
  · rw [List.nil_append, zip_add]
    exact ⟨_, rfl, q⟩
theorem wp_at_places : ∀ ds M Q R, F_at_places ds M Q R → W_at_places { nx := fun _ M' => Q .non M', rt := Q, xr := lx R } (startE 3 ds) M := by
  rintro ds M Q R ⟨v, ps, rfl, hv, hl, hp, q⟩
  unfold W_at_places
  simp (disch := first | assumption | decide) only [wSeq, wNext, wAsg, wgName, wIfS, wB, wOp, wVar, wC, wCall, wCallK, wCons, wNil, wRet, wRetN, wDrop, wTup, wLst, wIf, wAnd, wOr, wNot, wAndV, wOrV, wNotV, wNeg, wChain, fI, fI0, addD, fLt, fLe, fGt, fGe, fIsB, wCB, fAbs, f2I, fInt, fIsq, wPar, wPar3, permD, startE, List.map_cons, List.map_nil, List.cons_append, List.nil_append, List.append_nil, List.length_cons, List.length_nil, List.replicate, List.getElem?_cons_zero, List.getElem?_cons_succ, List.set_cons_zero, List.set_cons_succ, List.getD_cons_zero, List.getD_cons_succ, Nat.reduceAdd, Nat.reduceSub, Nat.zero_add, true_and, and_true, Bool.not_true, Bool.not_false, if_true, if_false, Bool.false_eq_true, reduceIte, decide_eq_true_eq, Bool.not_eq_true', decide_eq_false_iff_not, eqV_int, eqV_str, eqV_bl, decide_true, reduceCtorEq, not_true_eq_false, not_false_eq_true, Bool.not_eq_true, List.not_mem_nil, false_implies, implies_true, Int.reduceNeg, Int.reduceToNat, Int.reducePow, Int.reduceMul, Int.reduceAdd, draw_i, ix_t0, ix_t1, ix_t2, ix_t3, ix_m3, ix_m4, sn_ball_box, sn_cell_box, sn_cell_ball, sn_ball_cell, sn_box_ball, sn_box_cell, decide_false, wLc, wiSeq, wipeE, vec, fTuple]
  refine lc_nums (fun i => v.getD i 0) ps (by omega) (fun i hi K hK => ?_) ?_
  · simp (disch := first | assumption | decide) only [wSeq, wNext, wAsg, wgName, wIfS, wB, wOp, wVar, wC, wCall, wCallK, wCons, wNil, wRet, wRetN, wDrop, wTup, wLst, wIf, wAnd, wOr, wNot, wAndV, wOrV, wNotV, wNeg, wChain, fI, fI0, addD, fLt, fLe, fGt, fGe, fIsB, wCB, fAbs, f2I, fInt, fIsq, wPar, wPar3, permD, startE, List.map_cons, List.map_nil, List.cons_append, List.nil_append, List.append_nil, List.length_cons, List.length_nil, List.replicate, List.getElem?_cons_zero, List.getElem?_cons_succ, List.set_cons_zero, List.set_cons_succ, List.getD_cons_zero, List.getD_cons_succ, Nat.reduceAdd, Nat.reduceSub, Nat.zero_add, true_and, and_true, Bool.not_true, Bool.not_false, if_true, if_false, Bool.false_eq_true, reduceIte, decide_eq_true_eq, Bool.not_eq_true', decide_eq_false_iff_not, eqV_int, eqV_str, eqV_bl, decide_true, reduceCtorEq, not_true_eq_false, not_false_eq_true, Bool.not_eq_true, List.not_mem_nil, false_implies, implies_true, Int.reduceNeg, Int.reduceToNat, Int.reducePow, Int.reduceMul, Int.reduceAdd, draw_i, ix_t0, ix_t1, ix_t2, ix_t3, ix_m3, ix_m4, sn_ball_box, sn_cell_box, sn_cell_ball, sn_ball_cell, sn_box_ball, sn_box_cell, decide_false]
    exact ix_seqd rfl (hp i hi) hK
  · exact ⟨_, rfl, q⟩
end K02
namespace K02
open PySem L2 L3
theorem eqV_tl {M : Mp} {neg : Bool} {a : Addr} {y : List D} {Q : KD} : eqV neg (.tok a) (.lst y) M Q ↔ eqD2 neg (.tok a) (.lst y) M Q := Iff.rfl
theorem eqV_lst {M : Mp} {neg : Bool} {x y : List D} {Q : KD} : eqV neg (.lst x) (.lst y) M Q ↔ eqD2 neg (.lst x) (.lst y) M Q := Iff.rfl
theorem eqV_tup {M : Mp} {neg : Bool} {x y : List D} {Q : KD} : eqV neg (.tup x) (.tup y) M Q ↔ eqD2 neg (.tup x) (.tup y) M Q := Iff.rfl
theorem wp__law_vectors : ∀ ds M Q R, F__law_vectors ds M Q R → W__law_vectors { nx := fun _ M' => Q .non M', rt := Q, xr := lx R } (startE 11 ds) M := by
  rintro ds M Q R ⟨a, a0, p, m, rfl, hm, hp, hm2, q⟩
  unfold W__law_vectors
  refine seq_gen fun K hK => ?_
  simp (disch := first | assumption | decide) only [wSeq, wNext, wAsg, wgName, wIfS, wB, wOp, wVar, wC, wCall, wCallK, wCons, wNil, wRet, wRetN, wDrop, wTup, wLst, wIf, wAnd, wOr, wNot, wAndV, wOrV, wNotV, wNeg, wChain, fI, fI0, addD, fLt, fLe, fGt, fGe, fIsB, wCB, fAbs, f2I, fInt, fIsq, wPar, wPar3, permD, startE, List.map_cons, List.map_nil, List.cons_append, List.nil_append, List.append_nil, List.length_cons, List.length_nil, List.replicate, List.getElem?_cons_zero, List.getElem?_cons_succ, List.set_cons_zero, List.set_cons_succ, List.getD_cons_zero, List.getD_cons_succ, Nat.reduceAdd, Nat.reduceSub, Nat.zero_add, true_and, and_true, Bool.not_true, Bool.not_false, if_true, if_false, Bool.false_eq_true, reduceIte, decide_eq_true_eq, Bool.not_eq_true', decide_eq_false_iff_not, eqV_int, eqV_str, eqV_bl, decide_true, reduceCtorEq, not_true_eq_false, not_false_eq_true, Bool.not_eq_true, List.not_mem_nil, false_implies, implies_true, Int.reduceNeg, Int.reduceToNat, Int.reducePow, Int.reduceMul, Int.reduceAdd, draw_i, ix_t0, ix_t1, ix_t2, ix_t3, ix_m3, ix_m4, sn_ball_box, sn_cell_box, sn_cell_ball, sn_ball_cell, sn_box_ball, sn_box_cell, decide_false, wLstM, wgTup, wgCons, wgNil]
  refine ⟨by decide, pick_q hm rfl (by decide) (by decide) fun x hx => ⟨by decide, fun f hf => ⟨by decide, ?_⟩⟩⟩
  obtain ⟨far, rfl, f0, f1⟩ : ∃ far : Int, x = .int far ∧ 3 ≤ far ∧ far ≤ 4900 := by
    simp only [List.mem_cons, List.not_mem_nil, or_false] at hx
    rcases hx with rfl | rfl | rfl | rfl | rfl
    · exact ⟨_, rfl, by decide, by decide⟩
    · exact ⟨_, rfl, by decide, by decide⟩
    · exact ⟨_, rfl, by decide, by decide⟩
    · exact ⟨_, rfl, by decide, by decide⟩
    · exact ⟨_, rfl, by decide, by decide⟩
  have naf : a ≠ f := fun z => by
    rw [z, hf] at hm
    cases hm
  have hmf : ∀ c, setM M f c a = some (.drw a0) := fun c => by
    rw [setM_ne naf]
    exact hm
  subst hK
  refine seq_gen fun K hK => ?_
  simp (disch := first | assumption | decide) only [wSeq, wNext, wAsg, wgName, wIfS, wB, wOp, wVar, wC, wCall, wCallK, wCons, wNil, wRet, wRetN, wDrop, wTup, wLst, wIf, wAnd, wOr, wNot, wAndV, wOrV, wNotV, wNeg, wChain, fI, fI0, addD, fLt, fLe, fGt, fGe, fIsB, wCB, fAbs, f2I, fInt, fIsq, wPar, wPar3, permD, startE, List.map_cons, List.map_nil, List.cons_append, List.nil_append, List.append_nil, List.length_cons, List.length_nil, List.replicate, List.getElem?_cons_zero, List.getElem?_cons_succ, List.set_cons_zero, List.set_cons_succ, List.getD_cons_zero, List.getD_cons_succ, Nat.reduceAdd, Nat.reduceSub, Nat.zero_add, true_and, and_true, Bool.not_true, Bool.not_false, if_true, if_false, Bool.false_eq_true, reduceIte, decide_eq_true_eq, Bool.not_eq_true', decide_eq_false_iff_not, eqV_int, eqV_str, eqV_bl, decide_true, reduceCtorEq, not_true_eq_false, not_false_eq_true, Bool.not_eq_true, List.not_mem_nil, false_implies, implies_true, Int.reduceNeg, Int.reduceToNat, Int.reducePow, Int.reduceMul, Int.reduceAdd, draw_i, ix_t0, ix_t1, ix_t2, ix_t3, ix_m3, ix_m4, sn_ball_box, sn_cell_box, sn_cell_ball, sn_ball_cell, sn_box_ball, sn_box_cell, decide_false, wLc, wiRange1, wipeE]
  refine ⟨by omega, by omega, ?_⟩
  refine lc_any (fun _ y => ∃ b : Int, y = .int b ∧ -4900 ≤ b ∧ b ≤ 4900) True.intro _ [] ?_ (fun d hd K2 hK2 => ?_) fun ys hy1 hy2 => ?_
  · rw [intsD_len]
    simp only [List.length_nil]
    omega
  · simp (disch := first | assumption | decide) only [wSeq, wNext, wAsg, wgName, wIfS, wB, wOp, wVar, wC, wCall, wCallK, wCons, wNil, wRet, wRetN, wDrop, wTup, wLst, wIf, wAnd, wOr, wNot, wAndV, wOrV, wNotV, wNeg, wChain, fI, fI0, addD, fLt, fLe, fGt, fGe, fIsB, wCB, fAbs, f2I, fInt, fIsq, wPar, wPar3, permD, startE, List.map_cons, List.map_nil, List.cons_append, List.nil_append, List.append_nil, List.length_cons, List.length_nil, List.replicate, List.getElem?_cons_zero, List.getElem?_cons_succ, List.set_cons_zero, List.set_cons_succ, List.getD_cons_zero, List.getD_cons_succ, Nat.reduceAdd, Nat.reduceSub, Nat.zero_add, true_and, and_true, Bool.not_true, Bool.not_false, if_true, if_false, Bool.false_eq_true, reduceIte, decide_eq_true_eq, Bool.not_eq_true', decide_eq_false_iff_not, eqV_int, eqV_str, eqV_bl, decide_true, reduceCtorEq, not_true_eq_false, not_false_eq_true, Bool.not_eq_true, List.not_mem_nil, false_implies, implies_true, Int.reduceNeg, Int.reduceToNat, Int.reducePow, Int.reduceMul, Int.reduceAdd, draw_i, ix_t0, ix_t1, ix_t2, ix_t3, ix_m3, ix_m4, sn_ball_box, sn_cell_box, sn_cell_ball, sn_ball_cell, sn_box_ball, sn_box_cell, decide_false]
    have hz := hmf (.lst [])
    refine ⟨cm_of (by decide) (by decide), (draw_i hz (by omega) (log_of (by omega) (by omega))).mpr fun j j0 j1 => ⟨by decide, pick_q hz rfl (by show 0 < 5; decide) (by show 5 ≤ 1000000; decide) fun x hx => ?_⟩⟩
    refine hK2 x ?_
    simp only [List.mem_cons, List.not_mem_nil, or_false] at hx
    rcases hx with rfl | rfl | rfl | rfl | rfl
    · exact ⟨_, rfl, by decide, by decide⟩
    · exact ⟨_, rfl, by decide, by decide⟩
    · exact ⟨_, rfl, by omega, by omega⟩
    · exact ⟨_, rfl, by omega, by omega⟩
    · exact ⟨_, rfl, by omega, by omega⟩
  · obtain ⟨mid, rfl, hmid⟩ := ints_of (R := fun b => -4900 ≤ b ∧ b ≤ 4900) (fun y hy => by
      obtain ⟨i, hi⟩ := List.mem_iff_getElem?.mp hy
      obtain ⟨_, _, h⟩ := hy2 i y hi
      exact h)
    rw [intsD_len, List.length_map, Int.toNat_natCast] at hy1
    rw [List.nil_append]
    clear hy2
    subst hK
    refine seq_gen fun K hK => ?_
    refine for_gen fun B hB => ?_
    simp (disch := first | assumption | decide) only [wSeq, wNext, wAsg, wgName, wIfS, wB, wOp, wVar, wC, wCall, wCallK, wCons, wNil, wRet, wRetN, wDrop, wTup, wLst, wIf, wAnd, wOr, wNot, wAndV, wOrV, wNotV, wNeg, wChain, fI, fI0, addD, fLt, fLe, fGt, fGe, fIsB, wCB, fAbs, f2I, fInt, fIsq, wPar, wPar3, permD, startE, List.map_cons, List.map_nil, List.cons_append, List.nil_append, List.append_nil, List.length_cons, List.length_nil, List.replicate, List.getElem?_cons_zero, List.getElem?_cons_succ, List.set_cons_zero, List.set_cons_succ, List.getD_cons_zero, List.getD_cons_succ, Nat.reduceAdd, Nat.reduceSub, Nat.zero_add, true_and, and_true, Bool.not_true, Bool.not_false, if_true, if_false, Bool.false_eq_true, reduceIte, decide_eq_true_eq, Bool.not_eq_true', decide_eq_false_iff_not, eqV_int, eqV_str, eqV_bl, decide_true, reduceCtorEq, not_true_eq_false, not_false_eq_true, Bool.not_eq_true, List.not_mem_nil, false_implies, implies_true, Int.reduceNeg, Int.reduceToNat, Int.reducePow, Int.reduceMul, Int.reduceAdd, draw_i, ix_t0, ix_t1, ix_t2, ix_t3, ix_m3, ix_m4, sn_ball_box, sn_cell_box, sn_cell_ball, sn_ball_cell, sn_box_ball, sn_box_cell, decide_false, wFor, wiRange1]
    refine ⟨by omega, by omega, ?_⟩
    rw [Int.toNat_natCast]
    refine loop_ix (fun i ρ' M' => ∃ vs : List (List Int), M' = setM M f (.lst (vs.map vec)) ∧ vs.length = i ∧ (∀ v ∈ vs, v.length = p ∧ ∀ b ∈ v, -4900 ≤ b ∧ b ≤ 4900) ∧ i ≤ m ∧
      ∃ v4 v7 v8 : Option D, ρ' = [some (.tok a), some (.int (p : Int)), some (.int (m : Int)), some (.lst (mid.map .int)), v4, some (.int far), some (.tok f), v7, v8, none, none]) ?_ ?_ ⟨[], rfl, rfl, (fun v hv => by cases hv), Nat.zero_le _, none, none, none, rfl⟩
    · rintro i d ρ' M' hi ⟨vs, rfl, hl, hvs, him, v4, v7, v8, rfl⟩
      obtain ⟨li, rfl⟩ := intsD_get hi
      refine ⟨True.intro, fun K' hK' => ?_⟩
      have hz := hmf (.lst (vs.map vec))
      obtain ⟨t, et⟩ : ∃ t : D, t = .int (0 + (i : Int)) := ⟨_, rfl⟩
      rw [← et]
      simp only [wgName, List.set_cons_succ, List.set_cons_zero]
      subst hB
      refine seq_gen fun K2 hK2 => ?_
      simp (disch := first | assumption | decide) only [wSeq, wNext, wAsg, wgName, wIfS, wB, wOp, wVar, wC, wCall, wCallK, wCons, wNil, wRet, wRetN, wDrop, wTup, wLst, wIf, wAnd, wOr, wNot, wAndV, wOrV, wNotV, wNeg, wChain, fI, fI0, addD, fLt, fLe, fGt, fGe, fIsB, wCB, fAbs, f2I, fInt, fIsq, wPar, wPar3, permD, startE, List.map_cons, List.map_nil, List.cons_append, List.nil_append, List.append_nil, List.length_cons, List.length_nil, List.replicate, List.getElem?_cons_zero, List.getElem?_cons_succ, List.set_cons_zero, List.set_cons_succ, List.getD_cons_zero, List.getD_cons_succ, Nat.reduceAdd, Nat.reduceSub, Nat.zero_add, true_and, and_true, Bool.not_true, Bool.not_false, if_true, if_false, Bool.false_eq_true, reduceIte, decide_eq_true_eq, Bool.not_eq_true', decide_eq_false_iff_not, eqV_int, eqV_str, eqV_bl, decide_true, reduceCtorEq, not_true_eq_false, not_false_eq_true, Bool.not_eq_true, List.not_mem_nil, false_implies, implies_true, Int.reduceNeg, Int.reduceToNat, Int.reducePow, Int.reduceMul, Int.reduceAdd, draw_i, ix_t0, ix_t1, ix_t2, ix_t3, ix_m3, ix_m4, sn_ball_box, sn_cell_box, sn_cell_ball, sn_ball_cell, sn_box_ball, sn_box_cell, decide_false]
      refine ⟨by decide, pick_q hz rfl (by show 0 < 3; decide) (by show 3 ≤ 1000000; decide) fun x hx => ?_⟩
      obtain ⟨near, rfl, n0, n1⟩ : ∃ near : Int, x = .int near ∧ 1 ≤ near ∧ near ≤ 4900 := by
        simp only [List.mem_cons, List.not_mem_nil, or_false] at hx
        rcases hx with rfl | rfl | rfl
        · exact ⟨_, rfl, by omega, by omega⟩
        · exact ⟨_, rfl, by decide, by decide⟩
        · exact ⟨_, rfl, by decide, by decide⟩
      subst hK2
      refine seq_gen fun K2 hK2 => ?_
      simp (disch := first | assumption | decide) only [wSeq, wNext, wAsg, wgName, wIfS, wB, wOp, wVar, wC, wCall, wCallK, wCons, wNil, wRet, wRetN, wDrop, wTup, wLst, wIf, wAnd, wOr, wNot, wAndV, wOrV, wNotV, wNeg, wChain, fI, fI0, addD, fLt, fLe, fGt, fGe, fIsB, wCB, fAbs, f2I, fInt, fIsq, wPar, wPar3, permD, startE, List.map_cons, List.map_nil, List.cons_append, List.nil_append, List.append_nil, List.length_cons, List.length_nil, List.replicate, List.getElem?_cons_zero, List.getElem?_cons_succ, List.set_cons_zero, List.set_cons_succ, List.getD_cons_zero, List.getD_cons_succ, Nat.reduceAdd, Nat.reduceSub, Nat.zero_add, true_and, and_true, Bool.not_true, Bool.not_false, if_true, if_false, Bool.false_eq_true, reduceIte, decide_eq_true_eq, Bool.not_eq_true', decide_eq_false_iff_not, eqV_int, eqV_str, eqV_bl, decide_true, reduceCtorEq, not_true_eq_false, not_false_eq_true, Bool.not_eq_true, List.not_mem_nil, false_implies, implies_true, Int.reduceNeg, Int.reduceToNat, Int.reducePow, Int.reduceMul, Int.reduceAdd, draw_i, ix_t0, ix_t1, ix_t2, ix_t3, ix_m3, ix_m4, sn_ball_box, sn_cell_box, sn_cell_ball, sn_ball_cell, sn_box_ball, sn_box_cell, decide_false, wLc, wiSeq, wipeE]
      refine lc_any (fun _ y => ∃ b : Int, y = .int b ∧ -4900 ≤ b ∧ b ≤ 4900) True.intro _ [] ?_ (fun d hd K3 hK3 => ?_) fun zs hz1 hz2 => ?_
      · rw [List.length_map]
        simp only [List.length_nil]
        omega
      · obtain ⟨c, hc, rfl⟩ := List.mem_map.mp hd
        have hcb := hmid c hc
        simp (disch := first | assumption | decide) only [wSeq, wNext, wAsg, wgName, wIfS, wB, wOp, wVar, wC, wCall, wCallK, wCons, wNil, wRet, wRetN, wDrop, wTup, wLst, wIf, wAnd, wOr, wNot, wAndV, wOrV, wNotV, wNeg, wChain, fI, fI0, addD, fLt, fLe, fGt, fGe, fIsB, wCB, fAbs, f2I, fInt, fIsq, wPar, wPar3, permD, startE, List.map_cons, List.map_nil, List.cons_append, List.nil_append, List.append_nil, List.length_cons, List.length_nil, List.replicate, List.getElem?_cons_zero, List.getElem?_cons_succ, List.set_cons_zero, List.set_cons_succ, List.getD_cons_zero, List.getD_cons_succ, Nat.reduceAdd, Nat.reduceSub, Nat.zero_add, true_and, and_true, Bool.not_true, Bool.not_false, if_true, if_false, Bool.false_eq_true, reduceIte, decide_eq_true_eq, Bool.not_eq_true', decide_eq_false_iff_not, eqV_int, eqV_str, eqV_bl, decide_true, reduceCtorEq, not_true_eq_false, not_false_eq_true, Bool.not_eq_true, List.not_mem_nil, false_implies, implies_true, Int.reduceNeg, Int.reduceToNat, Int.reducePow, Int.reduceMul, Int.reduceAdd, draw_i, ix_t0, ix_t1, ix_t2, ix_t3, ix_m3, ix_m4, sn_ball_box, sn_cell_box, sn_cell_ball, sn_ball_cell, sn_box_ball, sn_box_cell, decide_false]
        refine ⟨cm_of (by decide) (by decide), (draw_i hz (by omega) (log_of (by omega) (by omega))).mpr fun j j0 j1 => ?_⟩
        refine hK3 _ ⟨_, rfl, ?_, ?_⟩
        · split <;> split <;> omega
        · split <;> split <;> omega
      · obtain ⟨w, rfl, hw⟩ := ints_of (R := fun b => -4900 ≤ b ∧ b ≤ 4900) (fun y hy => by
          obtain ⟨i, hi⟩ := List.mem_iff_getElem?.mp hy
          obtain ⟨_, _, h⟩ := hz2 i y hi
          exact h)
        rw [List.length_map, List.length_map, hy1] at hz1
        rw [List.nil_append]
        clear hz2
        subst hK2
        -- what is appended
        have fin : ∀ v : List Int, v.length = p → (∀ b ∈ v, -4900 ≤ b ∧ b ≤ 4900) → K' [some (.tok a), some (.int (p : Int)), some (.int (m : Int)), some (.lst (mid.map .int)), some t, some (.int far), some (.tok f), some (.int near), some (.lst (w.map .int)), none, none] (setM M f (.lst ((vs ++ [v]).map vec))) := fun v h1 h2 =>
          hK' _ _ ⟨vs ++ [v], rfl, by rw [List.length_append, hl]; rfl, fun u hu => by
            rcases List.mem_append.mp hu with z | z
            · exact hvs u z
            · rw [List.mem_singleton.mp z]
              exact ⟨h1, h2⟩, li, _, _, _, rfl⟩
        have app : ∀ v : List Int, v.length = p → (∀ b ∈ v, -4900 ≤ b ∧ b ≤ 4900) → ∃ es, setM M f (.lst (vs.map vec)) f = some (.lst es) ∧ es.length < sizeLine ∧ K' [some (.tok a), some (.int (p : Int)), some (.int (m : Int)), some (.lst (mid.map .int)), some t, some (.int far), some (.tok f), some (.int near), some (.lst (w.map .int)), none, none] (setM (setM M f (.lst (vs.map vec))) f (.lst (es ++ [vec v]))) := fun v h1 h2 => by
          refine ⟨vs.map vec, setM_same, ?_, ?_⟩
          · rw [List.length_map]
            exact Nat.lt_of_le_of_lt (by omega : vs.length ≤ 12) (by decide)
          · have z := fin v h1 h2
            rw [List.map_append] at z
            rw [set_set]
            exact z
        simp (disch := first | assumption | decide) only [wSeq, wNext, wAsg, wgName, wIfS, wB, wOp, wVar, wC, wCall, wCallK, wCons, wNil, wRet, wRetN, wDrop, wTup, wLst, wIf, wAnd, wOr, wNot, wAndV, wOrV, wNotV, wNeg, wChain, fI, fI0, addD, fLt, fLe, fGt, fGe, fIsB, wCB, fAbs, f2I, fInt, fIsq, wPar, wPar3, permD, startE, List.map_cons, List.map_nil, List.cons_append, List.nil_append, List.append_nil, List.length_cons, List.length_nil, List.replicate, List.getElem?_cons_zero, List.getElem?_cons_succ, List.set_cons_zero, List.set_cons_succ, List.getD_cons_zero, List.getD_cons_succ, Nat.reduceAdd, Nat.reduceSub, Nat.zero_add, true_and, and_true, Bool.not_true, Bool.not_false, if_true, if_false, Bool.false_eq_true, reduceIte, decide_eq_true_eq, Bool.not_eq_true', decide_eq_false_iff_not, eqV_int, eqV_str, eqV_bl, decide_true, reduceCtorEq, not_true_eq_false, not_false_eq_true, Bool.not_eq_true, List.not_mem_nil, false_implies, implies_true, Int.reduceNeg, Int.reduceToNat, Int.reducePow, Int.reduceMul, Int.reduceAdd, draw_i, ix_t0, ix_t1, ix_t2, ix_t3, ix_m3, ix_m4, sn_ball_box, sn_cell_box, sn_cell_ball, sn_ball_cell, sn_box_ball, sn_box_cell, decide_false, wApp, fTuple]
        refine ⟨⟨_, setM_same⟩, by decide, ?_⟩
        have er : res (setM M f (.lst (vs.map vec))) (.tok f) = .lst (vs.map vec) := by
          show (match setM M f (.lst (vs.map vec)) f with | some (.lst ds) => D.lst ds | _ => .tok f) = _
          rw [setM_same]
        have f1 : fit 4 (.lst (vs.map vec)) := by
          simp [fit, vec]
        have f2 : fit 4 (.lst []) := by
          simp [fit]
        refine eqV_tl.mpr ?_
        unfold eqD2
        rw [er]
        refine ⟨⟨4, by decide, f1, f2⟩, ?_⟩
        have eb : eqD (.lst (vs.map vec)) (res (setM M f (.lst (vs.map vec))) (.lst [])) = decide (vs = []) := by
          cases vs with
          | nil => rfl
          | cons v vs => rfl
        rw [eb]
        have own : ∃ es, seqD (setM M f (.lst (vs.map vec))) (.lst (w.map .int)) = some es ∧ ∃ es_1, setM M f (.lst (vs.map vec)) f = some (.lst es_1) ∧ es_1.length < sizeLine ∧ K' [some (.tok a), some (.int (p : Int)), some (.int (m : Int)), some (.lst (mid.map .int)), some t, some (.int far), some (.tok f), some (.int near), some (.lst (w.map .int)), none, none] (setM (setM M f (.lst (vs.map vec))) f (.lst (es_1 ++ [.tup es]))) := ⟨_, rfl, app w hz1 hw⟩
        by_cases hv : vs = []
        · rw [decide_eq_true hv]
          exact own
        · rw [decide_eq_false hv]
          simp (disch := first | assumption | decide) only [wSeq, wNext, wAsg, wgName, wIfS, wB, wOp, wVar, wC, wCall, wCallK, wCons, wNil, wRet, wRetN, wDrop, wTup, wLst, wIf, wAnd, wOr, wNot, wAndV, wOrV, wNotV, wNeg, wChain, fI, fI0, addD, fLt, fLe, fGt, fGe, fIsB, wCB, fAbs, f2I, fInt, fIsq, wPar, wPar3, permD, startE, List.map_cons, List.map_nil, List.cons_append, List.nil_append, List.append_nil, List.length_cons, List.length_nil, List.replicate, List.getElem?_cons_zero, List.getElem?_cons_succ, List.set_cons_zero, List.set_cons_succ, List.getD_cons_zero, List.getD_cons_succ, Nat.reduceAdd, Nat.reduceSub, Nat.zero_add, true_and, and_true, Bool.not_true, Bool.not_false, if_true, if_false, Bool.false_eq_true, reduceIte, decide_eq_true_eq, Bool.not_eq_true', decide_eq_false_iff_not, eqV_int, eqV_str, eqV_bl, decide_true, reduceCtorEq, not_true_eq_false, not_false_eq_true, Bool.not_eq_true, List.not_mem_nil, false_implies, implies_true, Int.reduceNeg, Int.reduceToNat, Int.reducePow, Int.reduceMul, Int.reduceAdd, draw_i, ix_t0, ix_t1, ix_t2, ix_t3, ix_m3, ix_m4, sn_ball_box, sn_cell_box, sn_cell_ball, sn_ball_cell, sn_box_ball, sn_box_cell, decide_false]
          intro j j0 j1
          split
          · exact own
          · refine pick_q hz (es := vs.map vec) ?_ ?_ ?_ fun x hx => ?_
            · show (match setM M f (.lst (vs.map vec)) f with | some (.lst ds) => some ds | _ => none) = _
              rw [setM_same]
            · rw [List.length_map]
              exact List.length_pos_iff.mpr hv
            · rw [List.length_map]
              omega
            · obtain ⟨v, hvm, rfl⟩ := List.mem_map.mp hx
              exact app v (hvs v hvm).1 (hvs v hvm).2
    · rintro ρ' M' ⟨vs, rfl, hl, hvs, him, v4, v7, v8, rfl⟩
      rw [intsD_len] at hl
      refine ⟨True.intro, ?_⟩
      show K _ _
      subst hK
      simp (disch := first | assumption | decide) only [wSeq, wNext, wAsg, wgName, wIfS, wB, wOp, wVar, wC, wCall, wCallK, wCons, wNil, wRet, wRetN, wDrop, wTup, wLst, wIf, wAnd, wOr, wNot, wAndV, wOrV, wNotV, wNeg, wChain, fI, fI0, addD, fLt, fLe, fGt, fGe, fIsB, wCB, fAbs, f2I, fInt, fIsq, wPar, wPar3, permD, startE, List.map_cons, List.map_nil, List.cons_append, List.nil_append, List.append_nil, List.length_cons, List.length_nil, List.replicate, List.getElem?_cons_zero, List.getElem?_cons_succ, List.set_cons_zero, List.set_cons_succ, List.getD_cons_zero, List.getD_cons_succ, Nat.reduceAdd, Nat.reduceSub, Nat.zero_add, true_and, and_true, Bool.not_true, Bool.not_false, if_true, if_false, Bool.false_eq_true, reduceIte, decide_eq_true_eq, Bool.not_eq_true', decide_eq_false_iff_not, eqV_int, eqV_str, eqV_bl, decide_true, reduceCtorEq, not_true_eq_false, not_false_eq_true, Bool.not_eq_true, List.not_mem_nil, false_implies, implies_true, Int.reduceNeg, Int.reduceToNat, Int.reducePow, Int.reduceMul, Int.reduceAdd, draw_i, ix_t0, ix_t1, ix_t2, ix_t3, ix_m3, ix_m4, sn_ball_box, sn_cell_box, sn_cell_ball, sn_ball_cell, sn_box_ball, sn_box_cell, decide_false, wRetF, setM_same]
      rw [del_set hf]
      exact q vs hl hvs
end K02
namespace K02
open PySem L2 L3
/-! bounds of some vectors -/
theorem alikeN (ns : List Int) : PySem.W.AlikeAll ((ns.map D.int).map D.py) := by
  refine ⟨fun x hx y hy => ?_, fun x hx => ?_⟩
  · obtain ⟨d, hd, rfl⟩ := List.mem_map.mp hx
    obtain ⟨e, he, rfl⟩ := List.mem_map.mp hy
    obtain ⟨i, _, rfl⟩ := List.mem_map.mp hd
    obtain ⟨j, _, rfl⟩ := List.mem_map.mp he
    rfl
  · obtain ⟨d, hd, rfl⟩ := List.mem_map.mp hx
    obtain ⟨i, _, rfl⟩ := List.mem_map.mp hd
    exact fun z => nomatch z
theorem fitN (ns : List Int) : ∀ x ∈ ns.map D.int, fit 1 x := fun x hx => by
  obtain ⟨i, _, rfl⟩ := List.mem_map.mp hx
  exact True.intro
theorem best_minN {n : Int} {ns : List Int} {M : Mp} {K : KD} {d : D} (hd : seqD M d = some ((n :: ns).map .int)) (q : K (.int (ns.foldl min n)) M) : fBest PySem.W.minD [d] M K := by
  refine ⟨.int n, ns.map .int, 1, hd, by decide, fitN (n :: ns), alikeN (n :: ns), fun x hx e => ?_⟩
  have e1 : (ns.map D.int).map D.py = ns.map .int := by rw [List.map_map]; rfl
  rw [e1] at e
  have e2 : x.py = .int (ns.foldl min n) := e.trans (PySem.W.minD_ints n ns)
  obtain ⟨i, _, rfl⟩ := List.mem_map.mp (show x ∈ (n :: ns).map D.int from hx)
  rw [PyData.int.inj e2]
  exact q
theorem best_maxN {n : Int} {ns : List Int} {M : Mp} {K : KD} {d : D} (hd : seqD M d = some ((n :: ns).map .int)) (q : K (.int (ns.foldl max n)) M) : fBest PySem.W.maxD [d] M K := by
  refine ⟨.int n, ns.map .int, 1, hd, by decide, fitN (n :: ns), alikeN (n :: ns), fun x hx e => ?_⟩
  have e1 : (ns.map D.int).map D.py = ns.map .int := by rw [List.map_map]; rfl
  rw [e1] at e
  have e2 : x.py = .int (ns.foldl max n) := e.trans (PySem.W.maxD_ints n ns)
  obtain ⟨i, _, rfl⟩ := List.mem_map.mp (show x ∈ (n :: ns).map D.int from hx)
  rw [PyData.int.inj e2]
  exact q
theorem rowsN {p : Nat} {vs : List (List Int)} (h : lens p vs) : zrows (vs.map (·.map .int)) p = (List.range p).map fun i => D.tup ((vs.map fun u => u.getD i 0).map .int) := by
  unfold zrows
  refine List.map_congr_left fun i hi => ?_
  have hi := List.mem_range.mp hi
  rw [List.map_map, List.map_map]
  congr 1
  refine List.map_congr_left fun u hu => ?_
  show (u.map D.int).getD i .non = .int (u.getD i 0)
  have hl := h u hu
  rw [List.getD_eq_getElem?_getD, List.getElem?_map, List.getD_eq_getElem?_getD, List.getElem?_eq_getElem (by omega)]
  rfl
theorem wp_bounds_of : ∀ ds M Q R, F_bounds_of ds M Q R → W_bounds_of { nx := fun _ M' => Q .non M', rt := Q, xr := lx R } (startE 3 ds) M := by
  rintro ds M Q R ⟨d, v, vs, p, rfl, hd, hn, hp, hl, q⟩
  unfold W_bounds_of
  refine seq_gen fun K hK => ?_
  simp (disch := first | assumption | decide) only [wSeq, wNext, wAsg, wgName, wIfS, wB, wOp, wVar, wC, wCall, wCallK, wCons, wNil, wRet, wRetN, wDrop, wTup, wLst, wIf, wAnd, wOr, wNot, wAndV, wOrV, wNotV, wNeg, wChain, fI, fI0, addD, fLt, fLe, fGt, fGe, fIsB, wCB, fAbs, f2I, fInt, fIsq, wPar, wPar3, permD, startE, List.map_cons, List.map_nil, List.cons_append, List.nil_append, List.append_nil, List.length_cons, List.length_nil, List.replicate, List.getElem?_cons_zero, List.getElem?_cons_succ, List.set_cons_zero, List.set_cons_succ, List.getD_cons_zero, List.getD_cons_succ, Nat.reduceAdd, Nat.reduceSub, Nat.zero_add, true_and, and_true, Bool.not_true, Bool.not_false, if_true, if_false, Bool.false_eq_true, reduceIte, decide_eq_true_eq, Bool.not_eq_true', decide_eq_false_iff_not, eqV_int, eqV_str, eqV_bl, decide_true, reduceCtorEq, not_true_eq_false, not_false_eq_true, Bool.not_eq_true, List.not_mem_nil, false_implies, implies_true, Int.reduceNeg, Int.reduceToNat, Int.reducePow, Int.reduceMul, Int.reduceAdd, draw_i, ix_t0, ix_t1, ix_t2, ix_t3, ix_m3, ix_m4, sn_ball_box, sn_cell_box, sn_cell_ball, sn_ball_cell, sn_box_ball, sn_box_cell, decide_false, wZLs]
  refine ⟨_, hd, (v :: vs).map (·.map .int), p, by rw [List.map_map]; rfl, by simp, by rw [List.length_map, List.length_cons]; omega, fun xs hx => ?_, ?_⟩
  · obtain ⟨u, hu, rfl⟩ := List.mem_map.mp hx
    rw [List.length_map]
    exact hl u hu
  rw [rowsN hl]
  subst hK
  simp (disch := first | assumption | decide) only [wSeq, wNext, wAsg, wgName, wIfS, wB, wOp, wVar, wC, wCall, wCallK, wCons, wNil, wRet, wRetN, wDrop, wTup, wLst, wIf, wAnd, wOr, wNot, wAndV, wOrV, wNotV, wNeg, wChain, fI, fI0, addD, fLt, fLe, fGt, fGe, fIsB, wCB, fAbs, f2I, fInt, fIsq, wPar, wPar3, permD, startE, List.map_cons, List.map_nil, List.cons_append, List.nil_append, List.append_nil, List.length_cons, List.length_nil, List.replicate, List.getElem?_cons_zero, List.getElem?_cons_succ, List.set_cons_zero, List.set_cons_succ, List.getD_cons_zero, List.getD_cons_succ, Nat.reduceAdd, Nat.reduceSub, Nat.zero_add, true_and, and_true, Bool.not_true, Bool.not_false, if_true, if_false, Bool.false_eq_true, reduceIte, decide_eq_true_eq, Bool.not_eq_true', decide_eq_false_iff_not, eqV_int, eqV_str, eqV_bl, decide_true, reduceCtorEq, not_true_eq_false, not_false_eq_true, Bool.not_eq_true, List.not_mem_nil, false_implies, implies_true, Int.reduceNeg, Int.reduceToNat, Int.reducePow, Int.reduceMul, Int.reduceAdd, draw_i, ix_t0, ix_t1, ix_t2, ix_t3, ix_m3, ix_m4, sn_ball_box, sn_cell_box, sn_cell_ball, sn_ball_cell, sn_box_ball, sn_box_cell, decide_false, wLc, wiSeq, wipeE, fTuple]
  refine lc_map (fun i => D.tup (((v :: vs).map fun u => u.getD i 0).map .int)) (fun i => .int ((vs.map fun u => u.getD i 0).foldl min (v.getD i 0))) (show AnyM M from True.intro) (List.range p) [] (by rw [List.length_range]; simp only [List.length_nil]; omega) (fun i hi K hK => ?_) ?_
  · simp (disch := first | assumption | decide) only [wSeq, wNext, wAsg, wgName, wIfS, wB, wOp, wVar, wC, wCall, wCallK, wCons, wNil, wRet, wRetN, wDrop, wTup, wLst, wIf, wAnd, wOr, wNot, wAndV, wOrV, wNotV, wNeg, wChain, fI, fI0, addD, fLt, fLe, fGt, fGe, fIsB, wCB, fAbs, f2I, fInt, fIsq, wPar, wPar3, permD, startE, List.map_cons, List.map_nil, List.cons_append, List.nil_append, List.append_nil, List.length_cons, List.length_nil, List.replicate, List.getElem?_cons_zero, List.getElem?_cons_succ, List.set_cons_zero, List.set_cons_succ, List.getD_cons_zero, List.getD_cons_succ, Nat.reduceAdd, Nat.reduceSub, Nat.zero_add, true_and, and_true, Bool.not_true, Bool.not_false, if_true, if_false, Bool.false_eq_true, reduceIte, decide_eq_true_eq, Bool.not_eq_true', decide_eq_false_iff_not, eqV_int, eqV_str, eqV_bl, decide_true, reduceCtorEq, not_true_eq_false, not_false_eq_true, Bool.not_eq_true, List.not_mem_nil, false_implies, implies_true, Int.reduceNeg, Int.reduceToNat, Int.reducePow, Int.reduceMul, Int.reduceAdd, draw_i, ix_t0, ix_t1, ix_t2, ix_t3, ix_m3, ix_m4, sn_ball_box, sn_cell_box, sn_cell_ball, sn_ball_cell, sn_box_ball, sn_box_cell, decide_false]
    exact best_minN rfl hK
  rw [List.nil_append]
  refine ⟨_, rfl, ?_⟩
  refine lc_map (fun i => D.tup (((v :: vs).map fun u => u.getD i 0).map .int)) (fun i => .int ((vs.map fun u => u.getD i 0).foldl max (v.getD i 0))) (show AnyM M from True.intro) (List.range p) [] (by rw [List.length_range]; simp only [List.length_nil]; omega) (fun i hi K hK => ?_) ?_
  · simp (disch := first | assumption | decide) only [wSeq, wNext, wAsg, wgName, wIfS, wB, wOp, wVar, wC, wCall, wCallK, wCons, wNil, wRet, wRetN, wDrop, wTup, wLst, wIf, wAnd, wOr, wNot, wAndV, wOrV, wNotV, wNeg, wChain, fI, fI0, addD, fLt, fLe, fGt, fGe, fIsB, wCB, fAbs, f2I, fInt, fIsq, wPar, wPar3, permD, startE, List.map_cons, List.map_nil, List.cons_append, List.nil_append, List.append_nil, List.length_cons, List.length_nil, List.replicate, List.getElem?_cons_zero, List.getElem?_cons_succ, List.set_cons_zero, List.set_cons_succ, List.getD_cons_zero, List.getD_cons_succ, Nat.reduceAdd, Nat.reduceSub, Nat.zero_add, true_and, and_true, Bool.not_true, Bool.not_false, if_true, if_false, Bool.false_eq_true, reduceIte, decide_eq_true_eq, Bool.not_eq_true', decide_eq_false_iff_not, eqV_int, eqV_str, eqV_bl, decide_true, reduceCtorEq, not_true_eq_false, not_false_eq_true, Bool.not_eq_true, List.not_mem_nil, false_implies, implies_true, Int.reduceNeg, Int.reduceToNat, Int.reducePow, Int.reduceMul, Int.reduceAdd, draw_i, ix_t0, ix_t1, ix_t2, ix_t3, ix_m3, ix_m4, sn_ball_box, sn_cell_box, sn_cell_ball, sn_ball_cell, sn_box_ball, sn_box_cell, decide_false]
    exact best_maxN rfl hK
  rw [List.nil_append]
  refine ⟨_, rfl, by decide, ?_⟩
  unfold vec mnL mxL col at q
  rw [List.map_map, List.map_map] at q
  exact q
theorem bounds_i {M : Mp} {d : D} {v : List Int} {vs : List (List Int)} {p : Nat} {Q : KD} {R} (hd : seqD M d = some ((v :: vs).map vec)) (hn : vs.length ≤ 11) (hp : p ≤ 64) (hl : lens p (v :: vs)) (q : Q (.tup [vec (mnL p v vs), vec (mxL p v vs)]) M) : F_bounds_of [d] M Q R := ⟨d, v, vs, p, rfl, hd, hn, hp, hl, q⟩
theorem sumA {ns : List Int} {M : Mp} {K : KD} {d : D} (hd : seqD M d = some (ns.map .int)) (hl : ns.length ≤ 12) (hb : ∀ n ∈ ns, -5000 ≤ n ∧ n ≤ 5000) (q : K (.int ns.sum) M) : fSumA [d] M K := by
  have bnd : ∀ (ms : List Int), (∀ n ∈ ms, -5000 ≤ n ∧ n ≤ 5000) → -5000 * (ms.length : Int) ≤ ms.sum ∧ ms.sum ≤ 5000 * (ms.length : Int) := fun ms h => by
    induction ms with
    | nil => simp
    | cons n ms ih =>
      have h1 := h n List.mem_cons_self
      have h2 := ih fun m hm => h m (List.mem_cons_of_mem _ hm)
      rw [List.sum_cons, List.length_cons]
      omega
  refine ⟨ns, hd, fun j hj => ?_, q⟩
  have h1 : -5000 ≤ ns.getD j 0 ∧ ns.getD j 0 ≤ 5000 := by
    rw [List.getD_eq_getElem?_getD, List.getElem?_eq_getElem hj]
    exact hb _ (List.getElem_mem hj)
  have h2 := bnd (ns.take (j + 1)) fun n hn => hb n (List.mem_of_mem_take hn)
  have h3 : (ns.take (j + 1)).length ≤ 12 := by
    rw [List.length_take]
    omega
  refine ⟨⟨by omega, by omega⟩, ⟨by omega, by omega⟩⟩
theorem rowsV {p : Nat} {vs : List (List Int)} (h : lens p vs) : zrows (vs.map (·.map .int)) p = (List.range p).map fun i => D.tup ((col vs i).map .int) := rowsN h
theorem wp_middle_of : ∀ ds M Q R, F_middle_of ds M Q R → W_middle_of { nx := fun _ M' => Q .non M', rt := Q, xr := lx R } (startE 2 ds) M := by
  rintro ds M Q R ⟨vs, p, n, rfl, ⟨hp, h1, h12, hn, hv⟩, q⟩
  unfold W_middle_of
  simp (disch := first | assumption | decide) only [wSeq, wNext, wAsg, wgName, wIfS, wB, wOp, wVar, wC, wCall, wCallK, wCons, wNil, wRet, wRetN, wDrop, wTup, wLst, wIf, wAnd, wOr, wNot, wAndV, wOrV, wNotV, wNeg, wChain, fI, fI0, addD, fLt, fLe, fGt, fGe, fIsB, wCB, fAbs, f2I, fInt, fIsq, wPar, wPar3, permD, startE, List.map_cons, List.map_nil, List.cons_append, List.nil_append, List.append_nil, List.length_cons, List.length_nil, List.replicate, List.getElem?_cons_zero, List.getElem?_cons_succ, List.set_cons_zero, List.set_cons_succ, List.getD_cons_zero, List.getD_cons_succ, Nat.reduceAdd, Nat.reduceSub, Nat.zero_add, true_and, and_true, Bool.not_true, Bool.not_false, if_true, if_false, Bool.false_eq_true, reduceIte, decide_eq_true_eq, Bool.not_eq_true', decide_eq_false_iff_not, eqV_int, eqV_str, eqV_bl, decide_true, reduceCtorEq, not_true_eq_false, not_false_eq_true, Bool.not_eq_true, List.not_mem_nil, false_implies, implies_true, Int.reduceNeg, Int.reduceToNat, Int.reducePow, Int.reduceMul, Int.reduceAdd, draw_i, ix_t0, ix_t1, ix_t2, ix_t3, ix_m3, ix_m4, sn_ball_box, sn_cell_box, sn_cell_ball, sn_ball_cell, sn_box_ball, sn_box_cell, decide_false, wLc, wiZipS, wipeE, fTuple]
  refine ⟨vs.map (·.map .int), p, by rw [List.map_map]; rfl, fun e => ?_, by rw [List.length_map]; omega, fun xs hx => ?_, ?_⟩
  · rw [List.map_eq_nil_iff] at e
    subst e
    simp at hn
    omega
  · obtain ⟨u, hu, rfl⟩ := List.mem_map.mp hx
    rw [List.length_map]
    exact (hv u hu).1
  rw [rowsV fun u hu => (hv u hu).1]
  refine lc_map (fun i => D.tup ((col vs i).map .int)) (fun i => .int ((col vs i).sum / (vs.length : Int))) (show AnyM M from True.intro) (List.range p) [] (by rw [List.length_range]; simp only [List.length_nil]; omega) (fun i hi K hK => ?_) ?_
  · simp (disch := first | assumption | decide) only [wSeq, wNext, wAsg, wgName, wIfS, wB, wOp, wVar, wC, wCall, wCallK, wCons, wNil, wRet, wRetN, wDrop, wTup, wLst, wIf, wAnd, wOr, wNot, wAndV, wOrV, wNotV, wNeg, wChain, fI, fI0, addD, fLt, fLe, fGt, fGe, fIsB, wCB, fAbs, f2I, fInt, fIsq, wPar, wPar3, permD, startE, List.map_cons, List.map_nil, List.cons_append, List.nil_append, List.append_nil, List.length_cons, List.length_nil, List.replicate, List.getElem?_cons_zero, List.getElem?_cons_succ, List.set_cons_zero, List.set_cons_succ, List.getD_cons_zero, List.getD_cons_succ, Nat.reduceAdd, Nat.reduceSub, Nat.zero_add, true_and, and_true, Bool.not_true, Bool.not_false, if_true, if_false, Bool.false_eq_true, reduceIte, decide_eq_true_eq, Bool.not_eq_true', decide_eq_false_iff_not, eqV_int, eqV_str, eqV_bl, decide_true, reduceCtorEq, not_true_eq_false, not_false_eq_true, Bool.not_eq_true, List.not_mem_nil, false_implies, implies_true, Int.reduceNeg, Int.reduceToNat, Int.reducePow, Int.reduceMul, Int.reduceAdd, draw_i, ix_t0, ix_t1, ix_t2, ix_t3, ix_m3, ix_m4, sn_ball_box, sn_cell_box, sn_cell_ball, sn_ball_cell, sn_box_ball, sn_box_cell, decide_false]
    refine sumA rfl (by unfold col; rw [List.length_map]; omega) (fun m hm => ?_) ?_
    · obtain ⟨u, hu, rfl⟩ := List.mem_map.mp hm
      have hu2 := hv u hu
      have hi2 := List.mem_range.mp hi
      refine hu2.2 _ ?_
      rw [List.getD_eq_getElem?_getD, List.getElem?_eq_getElem (by rw [hu2.1]; exact hi2)]
      exact List.getElem_mem _
    · refine ⟨_, rfl, ?_⟩
      rw [List.length_map]
      exact ⟨wide_div (b := 5) (by omega) (by omega) (by decide) (by decide), hK⟩
  · rw [List.nil_append]
    refine ⟨_, rfl, ?_⟩
    unfold midL vec at q
    rw [List.map_map] at q
    exact q
end K02
namespace K02
open PySem L2 L3
/-! pairs sorted -/
def lePB (x y : Int × Nat) : Bool := decide (x.1 < y.1) || (decide (x.1 = y.1) && decide (x.2 ≤ y.2))
def pD (x : Int × Nat) : D := .tup [.int x.1, .int (x.2 : Int)]
def prs (ns : List Int) : List (Int × Nat) := (List.range ns.length).map fun i => (ns.getD i 0, i)
def ixs (ns : List Int) : List Nat := ((prs ns).mergeSort lePB).map (·.2)
theorem srt_pairs (ps : List (Int × Nat)) : srtD (ps.map pD) = (ps.mergeSort lePB).map pD := by
  unfold srtD
  refine (List.map_mergeSort fun x _ y _ => ?_).symm
  show lePB x y = PySem.W.dataLe false (fun b : Int × Nat => PyData.tuple [.int b.1, .int (b.2 : Int)]) x y
  rw [PySem.W.dataLe_ii (fun b : Int × Nat => b.1) (fun b => (b.2 : Int))]
  unfold lePB
  rw [Bool.eq_iff_iff]
  simp only [Bool.or_eq_true, Bool.and_eq_true, decide_eq_true_eq]
  omega
theorem ixs_ok (ns : List Int) : IxOf ns (ixs ns) := by
  have pm : ((prs ns).mergeSort lePB).Perm (prs ns) := List.mergeSort_perm _ _
  have pw : ((prs ns).mergeSort lePB).Pairwise fun x y => lePB x y = true := List.pairwise_mergeSort (fun a b c h1 h2 => by
    simp only [lePB, Bool.or_eq_true, Bool.and_eq_true, decide_eq_true_eq] at h1 h2 ⊢
    omega) (fun a b => by
    simp only [lePB, Bool.or_eq_true, Bool.and_eq_true, decide_eq_true_eq]
    omega) _
  have e2 : (prs ns).map (·.2) = List.range ns.length := by
    unfold prs
    rw [List.map_map]
    exact List.map_id _
  have p2 : (ixs ns).Perm (List.range ns.length) := by
    have := pm.map (·.2)
    rw [e2] at this
    exact this
  refine ⟨p2, ?_⟩
  have nd : (ixs ns).Nodup := p2.nodup_iff.mpr List.nodup_range
  have hf : ∀ x ∈ (prs ns).mergeSort lePB, x.1 = ns.getD x.2 0 := fun x hx => by
    have := pm.mem_iff.mp hx
    obtain ⟨i, _, rfl⟩ := List.mem_map.mp this
    rfl
  unfold ixs
  rw [List.pairwise_map]
  have nd2 : ((prs ns).mergeSort lePB).Pairwise fun x y => x.2 ≠ y.2 := List.pairwise_map.mp nd
  refine ((pw.and nd2).imp_of_mem fun {x y} hx hy h => ?_)
  have h1 := h.1
  simp only [lePB, Bool.or_eq_true, Bool.and_eq_true, decide_eq_true_eq] at h1
  rw [← hf x hx, ← hf y hy]
  unfold ltP
  have := h.2
  omega
/-- such a sequence is one alone -/
theorem ltP_asymm {x y : Int × Nat} (h1 : ltP x y) (h2 : ltP y x) : False := by
  unfold ltP at h1 h2
  omega
theorem ix_one {ns : List Int} {a b : List Nat} (ha : IxOf ns a) (hb : IxOf ns b) : a = b := by
  refine List.Perm.eq_of_pairwise (le := fun i j => ltP (ns.getD i 0, i) (ns.getD j 0, j)) (fun x y _ _ h1 h2 => (ltP_asymm h1 h2).elim) ha.2 hb.2 (ha.1.trans hb.1.symm)
end K02
namespace K02
open PySem L2 L3
theorem cut_to {ds : List D} {m : Nat} (h : m ≤ ds.length) : cutD ds none (some (m : Int)) = ds.take m := by
  unfold cutD
  rw [HT.sIx_nat, HT.sIx_none, Nat.min_eq_left h, Nat.sub_zero, List.drop_zero]
theorem cut_from {ds : List D} {m : Nat} (h : m ≤ ds.length) : cutD ds (some (m : Int)) none = ds.drop m := by
  unfold cutD
  rw [HT.sIx_nat, HT.sIx_none, Nat.min_eq_left h]
  exact List.take_of_length_le (by rw [List.length_drop]; exact Nat.le_refl _)
/-! the widest place, the halves -/
theorem bnd_i {M : Mp} {d : D} {v : List Int} {vs : List (List Int)} {p n : Nat} {B : Int} {Q : KD} {R} (hd : seqD M d = some ((v :: vs).map vec)) (hv : vecs p n B (v :: vs)) (q : Q (.tup [vec (mnL p v vs), vec (mxL p v vs)]) M) : F_bounds_of [d] M Q R :=
  ⟨d, v, vs, p, rfl, hd, by have h1 := hv.2.2.2.1; have h2 := hv.2.2.1; rw [List.length_cons] at h1; omega, by have := hv.1; omega, fun u hu => (hv.2.2.2.2 u hu).1, q⟩
theorem fold_mem (f : Int → Int → Int) (hf : ∀ a b, f a b = a ∨ f a b = b) : ∀ (ns : List Int) (n : Int), ns.foldl f n = n ∨ ns.foldl f n ∈ ns
  | [], n => .inl rfl
  | m :: ns, n => by
    rw [List.foldl_cons]
    rcases fold_mem f hf ns (f n m) with h | h
    · rcases hf n m with e | e
      · exact .inl (h.trans e)
      · exact .inr (by rw [h, e]; exact List.mem_cons_self)
    · exact .inr (List.mem_cons_of_mem _ h)
theorem min_or (a b : Int) : min a b = a ∨ min a b = b := by omega
theorem max_or (a b : Int) : max a b = a ∨ max a b = b := by omega
theorem col_vk {p : Nat} {B : Int} {vs : List (List Int)} {i : Nat} (h : ∀ u ∈ vs, vk p B u) (hi : i < p) : ∀ m ∈ col vs i, -B ≤ m ∧ m ≤ B := fun m hm => by
  obtain ⟨u, hu, rfl⟩ := List.mem_map.mp hm
  have hu2 := h u hu
  refine hu2.2 _ ?_
  rw [List.getD_eq_getElem?_getD, List.getElem?_eq_getElem (by rw [hu2.1]; exact hi)]
  exact List.getElem_mem _
theorem ends_vk {p : Nat} {B : Int} {v : List Int} {vs : List (List Int)} (h : ∀ u ∈ v :: vs, vk p B u) : vk p B (mnL p v vs) ∧ vk p B (mxL p v vs) := by
  have hc : ∀ (f : Int → Int → Int), (∀ a b, f a b = a ∨ f a b = b) → vk p B ((List.range p).map fun i => (col vs i).foldl f (v.getD i 0)) := fun f hf => by
    refine ⟨by rw [List.length_map, List.length_range], fun a ha => ?_⟩
    obtain ⟨i, hi, rfl⟩ := List.mem_map.mp ha
    have hi := List.mem_range.mp hi
    have cv := col_vk h hi
    rcases fold_mem f hf (col vs i) (v.getD i 0) with e | e
    · rw [e]
      exact cv _ List.mem_cons_self
    · exact cv _ (List.mem_cons_of_mem _ e)
  exact ⟨hc _ min_or, hc _ max_or⟩
theorem sub_vk {p : Nat} {B : Int} {v u : List Int} (hv : vk p B v) (hu : vk p B u) : (subI v u).length = p := by
  unfold subI
  rw [List.length_zipWith, hv.1, hu.1]
  omega
theorem mx_mem {ns : List Int} (h : ns ≠ []) : mxOf ns ∈ ns := by
  cases ns with
  | nil => exact absurd rfl h
  | cons n ns =>
    show ns.foldl max n ∈ n :: ns
    rcases fold_mem max max_or ns n with e | e
    · rw [e]
      exact List.mem_cons_self
    · exact List.mem_cons_of_mem _ e
theorem wide_lt {p n : Nat} {B : Int} {v : List Int} {vs : List (List Int)} (h : vecs p n B (v :: vs)) (hp : 1 ≤ p) : wideAt p v vs < p := by
  obtain ⟨e1, e2⟩ := ends_vk h.2.2.2.2
  have l := sub_vk e2 e1
  unfold wideAt
  have m := mx_mem (ns := subI (mxL p v vs) (mnL p v vs)) fun z => by rw [z] at l; simp at l; omega
  have := List.idxOf_lt_length_iff.mpr m
  omega
theorem wp_widest_place : ∀ ds M Q R, F_widest_place ds M Q R → W_widest_place { nx := fun _ M' => Q .non M', rt := Q, xr := lx R } (startE 4 ds) M := by
  rintro ds M Q R ⟨v, vs, p, n, rfl, hv, hp, q⟩
  unfold W_widest_place
  obtain ⟨e1, e2⟩ := ends_vk hv.2.2.2.2
  refine seq_gen fun K hK => ?_
  simp (disch := first | assumption | decide) only [wSeq, wNext, wAsg, wgName, wIfS, wB, wOp, wVar, wC, wCall, wCallK, wCons, wNil, wRet, wRetN, wDrop, wTup, wLst, wIf, wAnd, wOr, wNot, wAndV, wOrV, wNotV, wNeg, wChain, fI, fI0, addD, fLt, fLe, fGt, fGe, fIsB, wCB, fAbs, f2I, fInt, fIsq, wPar, wPar3, permD, startE, List.map_cons, List.map_nil, List.cons_append, List.nil_append, List.append_nil, List.length_cons, List.length_nil, List.replicate, List.getElem?_cons_zero, List.getElem?_cons_succ, List.set_cons_zero, List.set_cons_succ, List.getD_cons_zero, List.getD_cons_succ, Nat.reduceAdd, Nat.reduceSub, Nat.zero_add, true_and, and_true, Bool.not_true, Bool.not_false, if_true, if_false, Bool.false_eq_true, reduceIte, decide_eq_true_eq, Bool.not_eq_true', decide_eq_false_iff_not, eqV_int, eqV_str, eqV_bl, decide_true, reduceCtorEq, not_true_eq_false, not_false_eq_true, Bool.not_eq_true, List.not_mem_nil, false_implies, implies_true, Int.reduceNeg, Int.reduceToNat, Int.reducePow, Int.reduceMul, Int.reduceAdd, draw_i, ix_t0, ix_t1, ix_t2, ix_t3, ix_m3, ix_m4, sn_ball_box, sn_cell_box, sn_cell_ball, sn_ball_cell, sn_box_ball, sn_box_cell, decide_false]
  refine bnd_i rfl hv ?_
  simp (disch := first | assumption | decide) only [wSeq, wNext, wAsg, wgName, wIfS, wB, wOp, wVar, wC, wCall, wCallK, wCons, wNil, wRet, wRetN, wDrop, wTup, wLst, wIf, wAnd, wOr, wNot, wAndV, wOrV, wNotV, wNeg, wChain, fI, fI0, addD, fLt, fLe, fGt, fGe, fIsB, wCB, fAbs, f2I, fInt, fIsq, wPar, wPar3, permD, startE, List.map_cons, List.map_nil, List.cons_append, List.nil_append, List.append_nil, List.length_cons, List.length_nil, List.replicate, List.getElem?_cons_zero, List.getElem?_cons_succ, List.set_cons_zero, List.set_cons_succ, List.getD_cons_zero, List.getD_cons_succ, Nat.reduceAdd, Nat.reduceSub, Nat.zero_add, true_and, and_true, Bool.not_true, Bool.not_false, if_true, if_false, Bool.false_eq_true, reduceIte, decide_eq_true_eq, Bool.not_eq_true', decide_eq_false_iff_not, eqV_int, eqV_str, eqV_bl, decide_true, reduceCtorEq, not_true_eq_false, not_false_eq_true, Bool.not_eq_true, List.not_mem_nil, false_implies, implies_true, Int.reduceNeg, Int.reduceToNat, Int.reducePow, Int.reduceMul, Int.reduceAdd, draw_i, ix_t0, ix_t1, ix_t2, ix_t3, ix_m3, ix_m4, sn_ball_box, sn_cell_box, sn_cell_ball, sn_ball_cell, sn_box_ball, sn_box_cell, decide_false, wgTup, wgCons, wgNil]
  subst hK
  refine seq_gen fun K hK => ?_
  simp (disch := first | assumption | decide) only [wSeq, wNext, wAsg, wgName, wIfS, wB, wOp, wVar, wC, wCall, wCallK, wCons, wNil, wRet, wRetN, wDrop, wTup, wLst, wIf, wAnd, wOr, wNot, wAndV, wOrV, wNotV, wNeg, wChain, fI, fI0, addD, fLt, fLe, fGt, fGe, fIsB, wCB, fAbs, f2I, fInt, fIsq, wPar, wPar3, permD, startE, List.map_cons, List.map_nil, List.cons_append, List.nil_append, List.append_nil, List.length_cons, List.length_nil, List.replicate, List.getElem?_cons_zero, List.getElem?_cons_succ, List.set_cons_zero, List.set_cons_succ, List.getD_cons_zero, List.getD_cons_succ, Nat.reduceAdd, Nat.reduceSub, Nat.zero_add, true_and, and_true, Bool.not_true, Bool.not_false, if_true, if_false, Bool.false_eq_true, reduceIte, decide_eq_true_eq, Bool.not_eq_true', decide_eq_false_iff_not, eqV_int, eqV_str, eqV_bl, decide_true, reduceCtorEq, not_true_eq_false, not_false_eq_true, Bool.not_eq_true, List.not_mem_nil, false_implies, implies_true, Int.reduceNeg, Int.reduceToNat, Int.reducePow, Int.reduceMul, Int.reduceAdd, draw_i, ix_t0, ix_t1, ix_t2, ix_t3, ix_m3, ix_m4, sn_ball_box, sn_cell_box, sn_cell_ball, sn_ball_cell, sn_box_ball, sn_box_cell, decide_false]
  refine ⟨_, _, rfl, vk_sm hv.1 (by decide) e2, vk_sm hv.1 (by decide) e1, ?_⟩
  subst hK
  have l := sub_vk e2 e1
  unfold wideAt at q
  generalize subI (mxL p v vs) (mnL p v vs) = ws at *
  cases ws with
  | nil => simp at l; omega
  | cons w ws =>
    simp (disch := first | assumption | decide) only [wSeq, wNext, wAsg, wgName, wIfS, wB, wOp, wVar, wC, wCall, wCallK, wCons, wNil, wRet, wRetN, wDrop, wTup, wLst, wIf, wAnd, wOr, wNot, wAndV, wOrV, wNotV, wNeg, wChain, fI, fI0, addD, fLt, fLe, fGt, fGe, fIsB, wCB, fAbs, f2I, fInt, fIsq, wPar, wPar3, permD, startE, List.map_cons, List.map_nil, List.cons_append, List.nil_append, List.append_nil, List.length_cons, List.length_nil, List.replicate, List.getElem?_cons_zero, List.getElem?_cons_succ, List.set_cons_zero, List.set_cons_succ, List.getD_cons_zero, List.getD_cons_succ, Nat.reduceAdd, Nat.reduceSub, Nat.zero_add, true_and, and_true, Bool.not_true, Bool.not_false, if_true, if_false, Bool.false_eq_true, reduceIte, decide_eq_true_eq, Bool.not_eq_true', decide_eq_false_iff_not, eqV_int, eqV_str, eqV_bl, decide_true, reduceCtorEq, not_true_eq_false, not_false_eq_true, Bool.not_eq_true, List.not_mem_nil, false_implies, implies_true, Int.reduceNeg, Int.reduceToNat, Int.reducePow, Int.reduceMul, Int.reduceAdd, draw_i, ix_t0, ix_t1, ix_t2, ix_t3, ix_m3, ix_m4, sn_ball_box, sn_cell_box, sn_cell_ball, sn_ball_cell, sn_box_ball, sn_box_cell, decide_false, wIdx]
    refine ⟨w :: ws, rfl, ?_⟩
    refine best_maxN rfl ?_
    exact ⟨_, rfl, mx_mem (ns := w :: ws) (by simp), q⟩
theorem wp_halves_of : ∀ ds M Q R, F_halves_of ds M Q R → W_halves_of { nx := fun _ M' => Q .non M', rt := Q, xr := lx R } (startE 8 ds) M := by
  rintro ds M Q R ⟨v, vs, p, n, rfl, hv, hp, q⟩
  unfold W_halves_of
  have hw := wide_lt hv hp
  refine seq_gen fun K hK => ?_
  simp (disch := first | assumption | decide) only [wSeq, wNext, wAsg, wgName, wIfS, wB, wOp, wVar, wC, wCall, wCallK, wCons, wNil, wRet, wRetN, wDrop, wTup, wLst, wIf, wAnd, wOr, wNot, wAndV, wOrV, wNotV, wNeg, wChain, fI, fI0, addD, fLt, fLe, fGt, fGe, fIsB, wCB, fAbs, f2I, fInt, fIsq, wPar, wPar3, permD, startE, List.map_cons, List.map_nil, List.cons_append, List.nil_append, List.append_nil, List.length_cons, List.length_nil, List.replicate, List.getElem?_cons_zero, List.getElem?_cons_succ, List.set_cons_zero, List.set_cons_succ, List.getD_cons_zero, List.getD_cons_succ, Nat.reduceAdd, Nat.reduceSub, Nat.zero_add, true_and, and_true, Bool.not_true, Bool.not_false, if_true, if_false, Bool.false_eq_true, reduceIte, decide_eq_true_eq, Bool.not_eq_true', decide_eq_false_iff_not, eqV_int, eqV_str, eqV_bl, decide_true, reduceCtorEq, not_true_eq_false, not_false_eq_true, Bool.not_eq_true, List.not_mem_nil, false_implies, implies_true, Int.reduceNeg, Int.reduceToNat, Int.reducePow, Int.reduceMul, Int.reduceAdd, draw_i, ix_t0, ix_t1, ix_t2, ix_t3, ix_m3, ix_m4, sn_ball_box, sn_cell_box, sn_cell_ball, sn_ball_cell, sn_box_ball, sn_box_cell, decide_false]
  refine ⟨v, vs, p, n, rfl, hv, hp, ?_⟩
  subst hK
  refine seq_gen fun K hK => ?_
  simp (disch := first | assumption | decide) only [wSeq, wNext, wAsg, wgName, wIfS, wB, wOp, wVar, wC, wCall, wCallK, wCons, wNil, wRet, wRetN, wDrop, wTup, wLst, wIf, wAnd, wOr, wNot, wAndV, wOrV, wNotV, wNeg, wChain, fI, fI0, addD, fLt, fLe, fGt, fGe, fIsB, wCB, fAbs, f2I, fInt, fIsq, wPar, wPar3, permD, startE, List.map_cons, List.map_nil, List.cons_append, List.nil_append, List.append_nil, List.length_cons, List.length_nil, List.replicate, List.getElem?_cons_zero, List.getElem?_cons_succ, List.set_cons_zero, List.set_cons_succ, List.getD_cons_zero, List.getD_cons_succ, Nat.reduceAdd, Nat.reduceSub, Nat.zero_add, true_and, and_true, Bool.not_true, Bool.not_false, if_true, if_false, Bool.false_eq_true, reduceIte, decide_eq_true_eq, Bool.not_eq_true', decide_eq_false_iff_not, eqV_int, eqV_str, eqV_bl, decide_true, reduceCtorEq, not_true_eq_false, not_false_eq_true, Bool.not_eq_true, List.not_mem_nil, false_implies, implies_true, Int.reduceNeg, Int.reduceToNat, Int.reducePow, Int.reduceMul, Int.reduceAdd, draw_i, ix_t0, ix_t1, ix_t2, ix_t3, ix_m3, ix_m4, sn_ball_box, sn_cell_box, sn_cell_ball, sn_ball_cell, sn_box_ball, sn_box_cell, decide_false, wLc, wiEnum, wipeE]
  show wLcL _ wYes _ AnyM _ ((List.range ((v :: vs).map vec).length).map fun (i : Nat) => D.tup [.int (i : Int), ((v :: vs).map vec).getD i .non]) [] M _
  have hl : ((v :: vs).map vec).length = n := by rw [List.length_map]; exact hv.2.2.2.1
  have h12 := hv.2.2.1
  refine lc_map (fun (i : Nat) => D.tup [.int (i : Int), ((v :: vs).map vec).getD i .non]) (fun i => pD ((col (v :: vs) (wideAt p v vs)).getD i 0, i)) (show AnyM M from True.intro) (List.range ((v :: vs).map vec).length) [] (by rw [List.length_range]; simp only [List.length_nil]; omega) (fun i hi K2 hK2 => ?_) ?_
  · have hi := List.mem_range.mp hi
    rw [List.length_map] at hi
    have ev : ((v :: vs).map vec).getD i .non = vec ((v :: vs).getD i []) := by
      rw [List.getD_eq_getElem?_getD, List.getElem?_map, List.getD_eq_getElem?_getD, List.getElem?_eq_getElem hi]
      rfl
    have ec : (col (v :: vs) (wideAt p v vs)).getD i 0 = ((v :: vs).getD i []).getD (wideAt p v vs) 0 := by
      unfold col
      rw [List.getD_eq_getElem?_getD, List.getElem?_map, List.getD_eq_getElem?_getD (l := v :: vs), List.getElem?_eq_getElem hi]
      rfl
    rw [ev]
    simp (disch := first | assumption | decide) only [wSeq, wNext, wAsg, wgName, wIfS, wB, wOp, wVar, wC, wCall, wCallK, wCons, wNil, wRet, wRetN, wDrop, wTup, wLst, wIf, wAnd, wOr, wNot, wAndV, wOrV, wNotV, wNeg, wChain, fI, fI0, addD, fLt, fLe, fGt, fGe, fIsB, wCB, fAbs, f2I, fInt, fIsq, wPar, wPar3, permD, startE, List.map_cons, List.map_nil, List.cons_append, List.nil_append, List.append_nil, List.length_cons, List.length_nil, List.replicate, List.getElem?_cons_zero, List.getElem?_cons_succ, List.set_cons_zero, List.set_cons_succ, List.getD_cons_zero, List.getD_cons_succ, Nat.reduceAdd, Nat.reduceSub, Nat.zero_add, true_and, and_true, Bool.not_true, Bool.not_false, if_true, if_false, Bool.false_eq_true, reduceIte, decide_eq_true_eq, Bool.not_eq_true', decide_eq_false_iff_not, eqV_int, eqV_str, eqV_bl, decide_true, reduceCtorEq, not_true_eq_false, not_false_eq_true, Bool.not_eq_true, List.not_mem_nil, false_implies, implies_true, Int.reduceNeg, Int.reduceToNat, Int.reducePow, Int.reduceMul, Int.reduceAdd, draw_i, ix_t0, ix_t1, ix_t2, ix_t3, ix_m3, ix_m4, sn_ball_box, sn_cell_box, sn_cell_ball, sn_ball_cell, sn_box_ball, sn_box_cell, decide_false, wgTup, wgCons, wgNil]
    refine ix_seqd rfl ?_ ?_
    · rw [List.getD_eq_getElem?_getD, List.getElem?_eq_getElem hi]
      show _ < (v :: vs)[i].length
      rw [(hv.2.2.2.2 _ (List.getElem_mem hi)).1]
      exact hw
    · rw [← ec]
      exact ⟨by decide, hK2⟩
  rw [List.nil_append, hl]
  have ec : (List.range n).map (fun i => pD ((col (v :: vs) (wideAt p v vs)).getD i 0, i)) = (prs (col (v :: vs) (wideAt p v vs))).map pD := by
    unfold prs
    rw [List.map_map]
    have : (col (v :: vs) (wideAt p v vs)).length = n := by unfold col; rw [List.length_map]; exact hv.2.2.2.1
    rw [this]
    rfl
  rw [ec]
  have ok := ixs_ok (col (v :: vs) (wideAt p v vs))
  have q := q _ ok
  have cl : (col (v :: vs) (wideAt p v vs)).length = n := by unfold col; rw [List.length_map]; exact hv.2.2.2.1
  have ixl : (ixs (col (v :: vs) (wideAt p v vs))).length = n := by rw [ok.1.length_eq, List.length_range, cl]
  refine ⟨_, 1, ⟨0, .inr rfl⟩, rfl, by decide, fun e he => ?_, ?_, ?_, ?_⟩
  · obtain ⟨x, _, rfl⟩ := List.mem_map.mp he
    simp [pD, fit]
  · rw [List.map_map]
    exact PySem.W.AllAlike.of fun b b' => rfl
  · rw [List.map_map]
    exact PySem.W.Sortable.tuples fun b => ⟨_, _, rfl⟩
  rw [srt_pairs]
  generalize hps : (prs (col (v :: vs) (wideAt p v vs))).mergeSort lePB = ps at *
  have eix : ixs (col (v :: vs) (wideAt p v vs)) = ps.map (·.2) := by unfold ixs; rw [hps]
  rw [eix] at q ixl
  rw [List.length_map] at ixl
  subst hK
  refine seq_gen fun K hK => ?_
  simp (disch := first | assumption | decide) only [wSeq, wNext, wAsg, wgName, wIfS, wB, wOp, wVar, wC, wCall, wCallK, wCons, wNil, wRet, wRetN, wDrop, wTup, wLst, wIf, wAnd, wOr, wNot, wAndV, wOrV, wNotV, wNeg, wChain, fI, fI0, addD, fLt, fLe, fGt, fGe, fIsB, wCB, fAbs, f2I, fInt, fIsq, wPar, wPar3, permD, startE, List.map_cons, List.map_nil, List.cons_append, List.nil_append, List.append_nil, List.length_cons, List.length_nil, List.replicate, List.getElem?_cons_zero, List.getElem?_cons_succ, List.set_cons_zero, List.set_cons_succ, List.getD_cons_zero, List.getD_cons_succ, Nat.reduceAdd, Nat.reduceSub, Nat.zero_add, true_and, and_true, Bool.not_true, Bool.not_false, if_true, if_false, Bool.false_eq_true, reduceIte, decide_eq_true_eq, Bool.not_eq_true', decide_eq_false_iff_not, eqV_int, eqV_str, eqV_bl, decide_true, reduceCtorEq, not_true_eq_false, not_false_eq_true, Bool.not_eq_true, List.not_mem_nil, false_implies, implies_true, Int.reduceNeg, Int.reduceToNat, Int.reducePow, Int.reduceMul, Int.reduceAdd, draw_i, ix_t0, ix_t1, ix_t2, ix_t3, ix_m3, ix_m4, sn_ball_box, sn_cell_box, sn_cell_ball, sn_ball_cell, sn_box_ball, sn_box_cell, decide_false, wLc, wiSeq, wipeE, fTuple]
  refine lc_map pD (fun x => .int (x.2 : Int)) (show AnyM M from True.intro) ps [] (by simp only [List.length_nil]; omega) (fun x hx K2 hK2 => ?_) ?_
  · unfold pD
    simp (disch := first | assumption | decide) only [wSeq, wNext, wAsg, wgName, wIfS, wB, wOp, wVar, wC, wCall, wCallK, wCons, wNil, wRet, wRetN, wDrop, wTup, wLst, wIf, wAnd, wOr, wNot, wAndV, wOrV, wNotV, wNeg, wChain, fI, fI0, addD, fLt, fLe, fGt, fGe, fIsB, wCB, fAbs, f2I, fInt, fIsq, wPar, wPar3, permD, startE, List.map_cons, List.map_nil, List.cons_append, List.nil_append, List.append_nil, List.length_cons, List.length_nil, List.replicate, List.getElem?_cons_zero, List.getElem?_cons_succ, List.set_cons_zero, List.set_cons_succ, List.getD_cons_zero, List.getD_cons_succ, Nat.reduceAdd, Nat.reduceSub, Nat.zero_add, true_and, and_true, Bool.not_true, Bool.not_false, if_true, if_false, Bool.false_eq_true, reduceIte, decide_eq_true_eq, Bool.not_eq_true', decide_eq_false_iff_not, eqV_int, eqV_str, eqV_bl, decide_true, reduceCtorEq, not_true_eq_false, not_false_eq_true, Bool.not_eq_true, List.not_mem_nil, false_implies, implies_true, Int.reduceNeg, Int.reduceToNat, Int.reducePow, Int.reduceMul, Int.reduceAdd, draw_i, ix_t0, ix_t1, ix_t2, ix_t3, ix_m3, ix_m4, sn_ball_box, sn_cell_box, sn_cell_ball, sn_ball_cell, sn_box_ball, sn_box_cell, decide_false]
    exact hK2
  rw [List.nil_append]
  refine ⟨_, rfl, ?_⟩
  have en : ps.map (fun x => D.int (x.2 : Int)) = nums (ps.map (·.2)) := by
    unfold nums
    rw [List.map_map]
    rfl
  rw [en]
  generalize hix : ps.map (·.2) = ix at *
  have il : ix.length = n := by rw [← hix, List.length_map]; exact ixl
  subst hK
  refine seq_gen fun K hK => ?_
  simp (disch := first | assumption | decide) only [wSeq, wNext, wAsg, wgName, wIfS, wB, wOp, wVar, wC, wCall, wCallK, wCons, wNil, wRet, wRetN, wDrop, wTup, wLst, wIf, wAnd, wOr, wNot, wAndV, wOrV, wNotV, wNeg, wChain, fI, fI0, addD, fLt, fLe, fGt, fGe, fIsB, wCB, fAbs, f2I, fInt, fIsq, wPar, wPar3, permD, startE, List.map_cons, List.map_nil, List.cons_append, List.nil_append, List.append_nil, List.length_cons, List.length_nil, List.replicate, List.getElem?_cons_zero, List.getElem?_cons_succ, List.set_cons_zero, List.set_cons_succ, List.getD_cons_zero, List.getD_cons_succ, Nat.reduceAdd, Nat.reduceSub, Nat.zero_add, true_and, and_true, Bool.not_true, Bool.not_false, if_true, if_false, Bool.false_eq_true, reduceIte, decide_eq_true_eq, Bool.not_eq_true', decide_eq_false_iff_not, eqV_int, eqV_str, eqV_bl, decide_true, reduceCtorEq, not_true_eq_false, not_false_eq_true, Bool.not_eq_true, List.not_mem_nil, false_implies, implies_true, Int.reduceNeg, Int.reduceToNat, Int.reducePow, Int.reduceMul, Int.reduceAdd, draw_i, ix_t0, ix_t1, ix_t2, ix_t3, ix_m3, ix_m4, sn_ball_box, sn_cell_box, sn_cell_ball, sn_ball_cell, sn_box_ball, sn_box_cell, decide_false]
  have nl : (nums ix).length = n := by unfold nums; rw [List.length_map]; exact il
  refine ⟨nums ix, rfl, ?_⟩
  rw [nl]
  show CDivW ((n : Int) + 1) 2 ∧ K _ M
  refine ⟨wide_div (b := 5) (by decide) (by decide) (by decide) (by decide), ?_⟩
  have em : ((n : Int) + 1) / 2 = (((n + 1) / 2 : Nat) : Int) := by omega
  rw [em]
  subst hK
  simp (disch := first | assumption | decide) only [wSeq, wNext, wAsg, wgName, wIfS, wB, wOp, wVar, wC, wCall, wCallK, wCons, wNil, wRet, wRetN, wDrop, wTup, wLst, wIf, wAnd, wOr, wNot, wAndV, wOrV, wNotV, wNeg, wChain, fI, fI0, addD, fLt, fLe, fGt, fGe, fIsB, wCB, fAbs, f2I, fInt, fIsq, wPar, wPar3, permD, startE, List.map_cons, List.map_nil, List.cons_append, List.nil_append, List.append_nil, List.length_cons, List.length_nil, List.replicate, List.getElem?_cons_zero, List.getElem?_cons_succ, List.set_cons_zero, List.set_cons_succ, List.getD_cons_zero, List.getD_cons_succ, Nat.reduceAdd, Nat.reduceSub, Nat.zero_add, true_and, and_true, Bool.not_true, Bool.not_false, if_true, if_false, Bool.false_eq_true, reduceIte, decide_eq_true_eq, Bool.not_eq_true', decide_eq_false_iff_not, eqV_int, eqV_str, eqV_bl, decide_true, reduceCtorEq, not_true_eq_false, not_false_eq_true, Bool.not_eq_true, List.not_mem_nil, false_implies, implies_true, Int.reduceNeg, Int.reduceToNat, Int.reducePow, Int.reduceMul, Int.reduceAdd, draw_i, ix_t0, ix_t1, ix_t2, ix_t3, ix_m3, ix_m4, sn_ball_box, sn_cell_box, sn_cell_ball, sn_ball_cell, sn_box_ball, sn_box_cell, decide_false, wSl, wNoP, wPart, slD]
  rw [cut_to (by omega), cut_from (by omega)]
  refine ⟨by decide, ?_⟩
  unfold hvD at q
  unfold nums at q ⊢
  rw [← List.map_take, ← List.map_drop]
  exact q
end K02
namespace K02
open PySem L2 L3
/-! the law's own bounds, floors -/
theorem flo {t : Int} {n : Nat} (h1 : 1 ≤ n) (h2 : n ≤ 12) : -(-t / (n : Int)) - (if ¬-t / (n : Int) * (n : Int) = -t then 1 else 0) = t / (n : Int) := by
  have hn : n = 1 ∨ n = 2 ∨ n = 3 ∨ n = 4 ∨ n = 5 ∨ n = 6 ∨ n = 7 ∨ n = 8 ∨ n = 9 ∨ n = 10 ∨ n = 11 ∨ n = 12 := by omega
  rcases hn with rfl | rfl | rfl | rfl | rfl | rfl | rfl | rfl | rfl | rfl | rfl | rfl <;> (split <;> omega)
theorem flo_b {t : Int} {n : Nat} (h1 : 1 ≤ n) (h2 : n ≤ 12) (h3 : -1000000 ≤ t) (h4 : t ≤ 1000000) : -2 ^ 60 ≤ -t / (n : Int) ∧ -t / (n : Int) ≤ 2 ^ 60 := by
  have hn : n = 1 ∨ n = 2 ∨ n = 3 ∨ n = 4 ∨ n = 5 ∨ n = 6 ∨ n = 7 ∨ n = 8 ∨ n = 9 ∨ n = 10 ∨ n = 11 ∨ n = 12 := by omega
  rcases hn with rfl | rfl | rfl | rfl | rfl | rfl | rfl | rfl | rfl | rfl | rfl | rfl <;> (constructor <;> omega)
theorem wp__law_floor : ∀ ds M Q R, F__law_floor ds M Q R → W__law_floor { nx := fun _ M' => Q .non M', rt := Q, xr := lx R } (startE 3 ds) M := by
  rintro ds M Q R ⟨t, n, rfl, n1, n12, t0, t1, q⟩
  unfold W__law_floor
  refine seq_gen fun K hK => ?_
  simp (disch := first | assumption | decide) only [wSeq, wNext, wAsg, wgName, wIfS, wB, wOp, wVar, wC, wCall, wCallK, wCons, wNil, wRet, wRetN, wDrop, wTup, wLst, wIf, wAnd, wOr, wNot, wAndV, wOrV, wNotV, wNeg, wChain, fI, fI0, addD, fLt, fLe, fGt, fGe, fIsB, wCB, fAbs, f2I, fInt, fIsq, wPar, wPar3, permD, startE, List.map_cons, List.map_nil, List.cons_append, List.nil_append, List.append_nil, List.length_cons, List.length_nil, List.replicate, List.getElem?_cons_zero, List.getElem?_cons_succ, List.set_cons_zero, List.set_cons_succ, List.getD_cons_zero, List.getD_cons_succ, Nat.reduceAdd, Nat.reduceSub, Nat.zero_add, true_and, and_true, Bool.not_true, Bool.not_false, if_true, if_false, Bool.false_eq_true, reduceIte, decide_eq_true_eq, Bool.not_eq_true', decide_eq_false_iff_not, eqV_int, eqV_str, eqV_bl, decide_true, reduceCtorEq, not_true_eq_false, not_false_eq_true, Bool.not_eq_true, List.not_mem_nil, false_implies, implies_true, Int.reduceNeg, Int.reduceToNat, Int.reducePow, Int.reduceMul, Int.reduceAdd, draw_i, ix_t0, ix_t1, ix_t2, ix_t3, ix_m3, ix_m4, sn_ball_box, sn_cell_box, sn_cell_ball, sn_ball_cell, sn_box_ball, sn_box_cell, decide_false]
  refine ⟨wide_div (b := 5) (by omega) (by omega) (by decide) (by decide), ?_⟩
  subst hK
  simp (disch := first | assumption | decide) only [wSeq, wNext, wAsg, wgName, wIfS, wB, wOp, wVar, wC, wCall, wCallK, wCons, wNil, wRet, wRetN, wDrop, wTup, wLst, wIf, wAnd, wOr, wNot, wAndV, wOrV, wNotV, wNeg, wChain, fI, fI0, addD, fLt, fLe, fGt, fGe, fIsB, wCB, fAbs, f2I, fInt, fIsq, wPar, wPar3, permD, startE, List.map_cons, List.map_nil, List.cons_append, List.nil_append, List.append_nil, List.length_cons, List.length_nil, List.replicate, List.getElem?_cons_zero, List.getElem?_cons_succ, List.set_cons_zero, List.set_cons_succ, List.getD_cons_zero, List.getD_cons_succ, Nat.reduceAdd, Nat.reduceSub, Nat.zero_add, true_and, and_true, Bool.not_true, Bool.not_false, if_true, if_false, Bool.false_eq_true, reduceIte, decide_eq_true_eq, Bool.not_eq_true', decide_eq_false_iff_not, eqV_int, eqV_str, eqV_bl, decide_true, reduceCtorEq, not_true_eq_false, not_false_eq_true, Bool.not_eq_true, List.not_mem_nil, false_implies, implies_true, Int.reduceNeg, Int.reduceToNat, Int.reducePow, Int.reduceMul, Int.reduceAdd, draw_i, ix_t0, ix_t1, ix_t2, ix_t3, ix_m3, ix_m4, sn_ball_box, sn_cell_box, sn_cell_ball, sn_ball_cell, sn_box_ball, sn_box_cell, decide_false]
  split
  · rw [if_neg (by omega)]
    exact q
  · rw [if_pos (by omega : t < 0)]
    have b := flo_b n1 n12 t0 t1
    refine ⟨cm_of b.1 b.2, ?_⟩
    rw [flo n1 n12]
    exact q
def srtI (ns : List Int) : List Int := ns.mergeSort fun a b => decide (a ≤ b)
theorem srtI_ok (ns : List Int) : (srtI ns).Perm ns ∧ (srtI ns).Pairwise (· ≤ ·) := by
  refine ⟨List.mergeSort_perm _ _, ?_⟩
  have := List.pairwise_mergeSort (le := fun a b : Int => decide (a ≤ b)) (fun a b c h1 h2 => by
    simp only [decide_eq_true_eq] at h1 h2 ⊢
    omega) (fun a b => by
    simp only [Bool.or_eq_true, decide_eq_true_eq]
    omega) ns
  exact this.imp fun h => of_decide_eq_true h
theorem srtI_is {ms ns : List Int} (h1 : ms.Perm ns) (h2 : ms.Pairwise (· ≤ ·)) : ms = srtI ns :=
  List.Perm.eq_of_pairwise (le := (· ≤ ·)) (fun a b _ _ h h' => Int.le_antisymm h h') h2 (srtI_ok ns).2 (h1.trans (srtI_ok ns).1.symm)
theorem least_one {ns : List Int} {a b : Int} (ha : a ∈ ns) (hb : b ∈ ns) (ka : ∀ y ∈ ns, a ≤ y) (kb : ∀ y ∈ ns, b ≤ y) : a = b := Int.le_antisymm (ka b hb) (kb a ha)
theorem most_one {ns : List Int} {a b : Int} (ha : a ∈ ns) (hb : b ∈ ns) (ka : ∀ y ∈ ns, y ≤ a) (kb : ∀ y ∈ ns, y ≤ b) : a = b := Int.le_antisymm (kb a ha) (ka b hb)
theorem fmin_le : ∀ (ns : List Int) (n : Int), ns.foldl min n ≤ n ∧ ∀ y ∈ ns, ns.foldl min n ≤ y
  | [], n => ⟨Int.le_refl _, fun y h => by cases h⟩
  | m :: ns, n => by
    obtain ⟨h1, h2⟩ := fmin_le ns (min n m)
    rw [List.foldl_cons]
    refine ⟨by omega, fun y hy => ?_⟩
    rcases List.mem_cons.mp hy with rfl | hy
    · omega
    · exact h2 y hy
theorem fmax_ge : ∀ (ns : List Int) (n : Int), n ≤ ns.foldl max n ∧ ∀ y ∈ ns, y ≤ ns.foldl max n
  | [], n => ⟨Int.le_refl _, fun y h => by cases h⟩
  | m :: ns, n => by
    obtain ⟨h1, h2⟩ := fmax_ge ns (max n m)
    rw [List.foldl_cons]
    refine ⟨by omega, fun y hy => ?_⟩
    rcases List.mem_cons.mp hy with rfl | hy
    · omega
    · exact h2 y hy
theorem fmin_mem (ns : List Int) (n : Int) : ns.foldl min n ∈ n :: ns := by
  rcases fold_mem min min_or ns n with e | e
  · rw [e]
    exact List.mem_cons_self
  · exact List.mem_cons_of_mem _ e
theorem fmax_mem (ns : List Int) (n : Int) : ns.foldl max n ∈ n :: ns := by
  rcases fold_mem max max_or ns n with e | e
  · rw [e]
    exact List.mem_cons_self
  · exact List.mem_cons_of_mem _ e
theorem getD_mem {ns : List Int} {i : Nat} (h : i < ns.length) : ns.getD i 0 ∈ ns := by
  rw [List.getD_eq_getElem?_getD, List.getElem?_eq_getElem h]
  exact List.getElem_mem h
theorem srt_head (n : Int) (ns : List Int) : (srtI (n :: ns)).getD 0 0 = ns.foldl min n := by
  obtain ⟨pm, pw⟩ := srtI_ok (n :: ns)
  have hl : (srtI (n :: ns)).length = ns.length + 1 := pm.length_eq
  cases hs : srtI (n :: ns) with
  | nil => rw [hs] at hl; simp at hl
  | cons a as =>
    rw [hs] at pm pw
    show a = _
    refine least_one (ns := n :: ns) (pm.mem_iff.mp List.mem_cons_self) (fmin_mem ns n) (fun y hy => ?_) fun y hy => ?_
    · rcases List.mem_cons.mp (pm.mem_iff.mpr hy) with rfl | h
      · exact Int.le_refl _
      · exact (List.pairwise_cons.mp pw).1 y h
    · rcases List.mem_cons.mp hy with rfl | h
      · exact (fmin_le ns y).1
      · exact (fmin_le ns n).2 y h
theorem srt_last (n : Int) (ns : List Int) : (srtI (n :: ns)).getD ns.length 0 = ns.foldl max n := by
  obtain ⟨pm, pw⟩ := srtI_ok (n :: ns)
  have hl : (srtI (n :: ns)).length = ns.length + 1 := pm.length_eq
  refine most_one (ns := n :: ns) (pm.mem_iff.mp (getD_mem (by omega))) (fmax_mem ns n) (fun y hy => ?_) fun y hy => ?_
  · obtain ⟨i, hi, e⟩ := List.mem_iff_getElem.mp (pm.mem_iff.mpr hy)
    rw [List.getD_eq_getElem?_getD, List.getElem?_eq_getElem (by omega : ns.length < (srtI (n :: ns)).length)]
    show y ≤ (srtI (n :: ns))[ns.length]
    by_cases h : i = ns.length
    · subst h
      rw [e]
      exact Int.le_refl _
    · rw [← e]
      exact List.pairwise_iff_getElem.mp pw i ns.length hi (by omega) (by omega)
  · rcases List.mem_cons.mp hy with rfl | h
    · exact (fmax_ge ns y).1
    · exact (fmax_ge ns n).2 y h
theorem ix_last {M : Mp} {d : D} {v : List Int} {m : Nat} {Q : KD} (h : seqD M d = some (v.map .int)) (hv : v.length = m + 1) (q : Q (.int (v.getD m 0)) M) : ixD d (.int (-1)) M Q := by
  have e : atI (v.map D.int) (-1) = some (.int (v.getD m 0)) := by
    unfold atI ixN
    rw [List.getD_eq_getElem?_getD, List.getElem?_eq_getElem (by omega : m < v.length)]
    simp only [List.length_map, hv]
    rw [if_neg (by decide), if_pos (by omega)]
    show (v.map D.int)[(-1 + ((m + 1 : Nat) : Int)).toNat]? = _
    rw [show (-1 + ((m + 1 : Nat) : Int)).toNat = m from by omega, List.getElem?_map, List.getElem?_eq_getElem (by omega : m < v.length)]
    rfl
  cases d <;> first | exact ⟨_, _, h, e, q⟩ | cases h
theorem nums_range (p : Nat) : intsD 0 p = nums (List.range p) := by
  unfold intsD nums
  refine List.map_congr_left fun i _ => ?_
  rw [Int.zero_add]
theorem col_lc {M : Mp} {Q : KD} {i j k : Nat} {ρ : En} {vs : List (List Int)} (hj : ρ[j]? = some (some (.int (i : Int)))) (hjk : k ≠ j) (hk : k < ρ.length) (hl : vs.length ≤ 1000) (hi : ∀ u ∈ vs, i < u.length) (q : Q (.lst ((col vs i).map .int)) M) :
    wLcL (wgName k) wYes (wOp ixD (wVar k) (wVar j)) AnyM ρ (vs.map vec) [] M Q := by
  refine lc_map vec (fun u => .int (u.getD i 0)) (show AnyM M from True.intro) vs [] (by simp only [List.length_nil]; omega) (fun u hu K hK => ?_) ?_
  · show wOp ixD (wVar k) (wVar j) (ρ.set k (some (vec u))) M K
    unfold wOp wVar
    rw [List.getElem?_set_self hk, List.getElem?_set_ne hjk, hj]
    exact ix_seqd rfl (hi u hu) hK
  · rw [List.nil_append]
    unfold col at q
    rw [List.map_map] at q
    exact q
theorem wp__law_bounds_due : ∀ ds M Q R, F__law_bounds_due ds M Q R → W__law_bounds_due { nx := fun _ M' => Q .non M', rt := Q, xr := lx R } (startE 5 ds) M := by
  rintro ds M Q R ⟨v, vs, p, n, rfl, hv, q⟩
  obtain ⟨hp, n1, n12, hn, hvk⟩ := hv
  unfold W__law_bounds_due
  refine seq_gen fun K hK => ?_
  simp (disch := first | assumption | decide) only [wSeq, wNext, wAsg, wgName, wIfS, wB, wOp, wVar, wC, wCall, wCallK, wCons, wNil, wRet, wRetN, wDrop, wTup, wLst, wIf, wAnd, wOr, wNot, wAndV, wOrV, wNotV, wNeg, wChain, fI, fI0, addD, fLt, fLe, fGt, fGe, fIsB, wCB, fAbs, f2I, fInt, fIsq, wPar, wPar3, permD, startE, List.map_cons, List.map_nil, List.cons_append, List.nil_append, List.append_nil, List.length_cons, List.length_nil, List.replicate, List.getElem?_cons_zero, List.getElem?_cons_succ, List.set_cons_zero, List.set_cons_succ, List.getD_cons_zero, List.getD_cons_succ, Nat.reduceAdd, Nat.reduceSub, Nat.zero_add, true_and, and_true, Bool.not_true, Bool.not_false, if_true, if_false, Bool.false_eq_true, reduceIte, decide_eq_true_eq, Bool.not_eq_true', decide_eq_false_iff_not, eqV_int, eqV_str, eqV_bl, decide_true, reduceCtorEq, not_true_eq_false, not_false_eq_true, Bool.not_eq_true, List.not_mem_nil, false_implies, implies_true, Int.reduceNeg, Int.reduceToNat, Int.reducePow, Int.reduceMul, Int.reduceAdd, draw_i, ix_t0, ix_t1, ix_t2, ix_t3, ix_m3, ix_m4, sn_ball_box, sn_cell_box, sn_cell_ball, sn_ball_cell, sn_box_ball, sn_box_cell, decide_false, wLc, wiRange1, wiSeq, wipeE, fTuple]
  refine ⟨v.map .int, rfl, ?_⟩
  rw [List.length_map, (hvk v List.mem_cons_self).1]
  show (p : Int) < _ ∧ -4611686018427387904 ≤ (p : Int) ∧ wLcL _ wYes _ AnyM _ (intsD 0 (p : Int).toNat) [] M _
  refine ⟨by omega, by omega, ?_⟩
  rw [Int.toNat_natCast, nums_range]
  refine lc_map (fun i : Nat => D.int (i : Int)) (fun i => .lst ((srtI (col (v :: vs) i)).map .int)) (show AnyM M from True.intro) (List.range p) [] (by rw [List.length_range]; simp only [List.length_nil]; omega) (fun i hi K2 hK2 => ?_) ?_
  · have hi := List.mem_range.mp hi
    simp (disch := first | assumption | decide) only [wSeq, wNext, wAsg, wgName, wIfS, wB, wOp, wVar, wC, wCall, wCallK, wCons, wNil, wRet, wRetN, wDrop, wTup, wLst, wIf, wAnd, wOr, wNot, wAndV, wOrV, wNotV, wNeg, wChain, fI, fI0, addD, fLt, fLe, fGt, fGe, fIsB, wCB, fAbs, f2I, fInt, fIsq, wPar, wPar3, permD, startE, List.map_cons, List.map_nil, List.cons_append, List.nil_append, List.append_nil, List.length_cons, List.length_nil, List.replicate, List.getElem?_cons_zero, List.getElem?_cons_succ, List.set_cons_zero, List.set_cons_succ, List.getD_cons_zero, List.getD_cons_succ, Nat.reduceAdd, Nat.reduceSub, Nat.zero_add, true_and, and_true, Bool.not_true, Bool.not_false, if_true, if_false, Bool.false_eq_true, reduceIte, decide_eq_true_eq, Bool.not_eq_true', decide_eq_false_iff_not, eqV_int, eqV_str, eqV_bl, decide_true, reduceCtorEq, not_true_eq_false, not_false_eq_true, Bool.not_eq_true, List.not_mem_nil, false_implies, implies_true, Int.reduceNeg, Int.reduceToNat, Int.reducePow, Int.reduceMul, Int.reduceAdd, draw_i, ix_t0, ix_t1, ix_t2, ix_t3, ix_m3, ix_m4, sn_ball_box, sn_cell_box, sn_cell_ball, sn_ball_cell, sn_box_ball, sn_box_cell, decide_false, wLc, wiSeq, wipeE]
    refine col_lc (i := i) (vs := v :: vs) rfl (by decide) (by show 3 < 5; decide) (by omega) (fun u hu => by rw [(hvk u hu).1]; exact hi) ?_
    have cl : (col (v :: vs) i).length ≤ 12 := by unfold col; rw [List.length_map]; omega
    refine ⟨_, ⟨0, .inr rfl⟩, rfl, by omega, fun ms h1 h2 => ?_⟩
    rw [srtI_is h1 h2]
    exact hK2
  rw [List.nil_append]
  subst hK
  simp (disch := first | assumption | decide) only [wSeq, wNext, wAsg, wgName, wIfS, wB, wOp, wVar, wC, wCall, wCallK, wCons, wNil, wRet, wRetN, wDrop, wTup, wLst, wIf, wAnd, wOr, wNot, wAndV, wOrV, wNotV, wNeg, wChain, fI, fI0, addD, fLt, fLe, fGt, fGe, fIsB, wCB, fAbs, f2I, fInt, fIsq, wPar, wPar3, permD, startE, List.map_cons, List.map_nil, List.cons_append, List.nil_append, List.append_nil, List.length_cons, List.length_nil, List.replicate, List.getElem?_cons_zero, List.getElem?_cons_succ, List.set_cons_zero, List.set_cons_succ, List.getD_cons_zero, List.getD_cons_succ, Nat.reduceAdd, Nat.reduceSub, Nat.zero_add, true_and, and_true, Bool.not_true, Bool.not_false, if_true, if_false, Bool.false_eq_true, reduceIte, decide_eq_true_eq, Bool.not_eq_true', decide_eq_false_iff_not, eqV_int, eqV_str, eqV_bl, decide_true, reduceCtorEq, not_true_eq_false, not_false_eq_true, Bool.not_eq_true, List.not_mem_nil, false_implies, implies_true, Int.reduceNeg, Int.reduceToNat, Int.reducePow, Int.reduceMul, Int.reduceAdd, draw_i, ix_t0, ix_t1, ix_t2, ix_t3, ix_m3, ix_m4, sn_ball_box, sn_cell_box, sn_cell_ball, sn_ball_cell, sn_box_ball, sn_box_cell, decide_false, wLc, wiSeq, wipeE, fTuple]
  have cc : ∀ i, col (v :: vs) i = v.getD i 0 :: col vs i := fun i => rfl
  have sl : ∀ i, (srtI (col (v :: vs) i)).length = (col vs i).length + 1 := fun i => (srtI_ok _).1.length_eq
  refine lc_map (fun i => .lst ((srtI (col (v :: vs) i)).map .int)) (fun i => .int ((col vs i).foldl min (v.getD i 0))) (show AnyM M from True.intro) (List.range p) [] (by rw [List.length_range]; simp only [List.length_nil]; omega) (fun i hi K2 hK2 => ?_) ?_
  · simp (disch := first | assumption | decide) only [wSeq, wNext, wAsg, wgName, wIfS, wB, wOp, wVar, wC, wCall, wCallK, wCons, wNil, wRet, wRetN, wDrop, wTup, wLst, wIf, wAnd, wOr, wNot, wAndV, wOrV, wNotV, wNeg, wChain, fI, fI0, addD, fLt, fLe, fGt, fGe, fIsB, wCB, fAbs, f2I, fInt, fIsq, wPar, wPar3, permD, startE, List.map_cons, List.map_nil, List.cons_append, List.nil_append, List.append_nil, List.length_cons, List.length_nil, List.replicate, List.getElem?_cons_zero, List.getElem?_cons_succ, List.set_cons_zero, List.set_cons_succ, List.getD_cons_zero, List.getD_cons_succ, Nat.reduceAdd, Nat.reduceSub, Nat.zero_add, true_and, and_true, Bool.not_true, Bool.not_false, if_true, if_false, Bool.false_eq_true, reduceIte, decide_eq_true_eq, Bool.not_eq_true', decide_eq_false_iff_not, eqV_int, eqV_str, eqV_bl, decide_true, reduceCtorEq, not_true_eq_false, not_false_eq_true, Bool.not_eq_true, List.not_mem_nil, false_implies, implies_true, Int.reduceNeg, Int.reduceToNat, Int.reducePow, Int.reduceMul, Int.reduceAdd, draw_i, ix_t0, ix_t1, ix_t2, ix_t3, ix_m3, ix_m4, sn_ball_box, sn_cell_box, sn_cell_ball, sn_ball_cell, sn_box_ball, sn_box_cell, decide_false]
    refine ix_seqd (i := 0) (v := srtI (col (v :: vs) i)) rfl (by rw [sl]; omega) ?_
    rw [cc, srt_head]
    exact hK2
  rw [List.nil_append]
  refine ⟨_, rfl, ?_⟩
  refine lc_map (fun i => .lst ((srtI (col (v :: vs) i)).map .int)) (fun i => .int ((col vs i).foldl max (v.getD i 0))) (show AnyM M from True.intro) (List.range p) [] (by rw [List.length_range]; simp only [List.length_nil]; omega) (fun i hi K2 hK2 => ?_) ?_
  · simp (disch := first | assumption | decide) only [wSeq, wNext, wAsg, wgName, wIfS, wB, wOp, wVar, wC, wCall, wCallK, wCons, wNil, wRet, wRetN, wDrop, wTup, wLst, wIf, wAnd, wOr, wNot, wAndV, wOrV, wNotV, wNeg, wChain, fI, fI0, addD, fLt, fLe, fGt, fGe, fIsB, wCB, fAbs, f2I, fInt, fIsq, wPar, wPar3, permD, startE, List.map_cons, List.map_nil, List.cons_append, List.nil_append, List.append_nil, List.length_cons, List.length_nil, List.replicate, List.getElem?_cons_zero, List.getElem?_cons_succ, List.set_cons_zero, List.set_cons_succ, List.getD_cons_zero, List.getD_cons_succ, Nat.reduceAdd, Nat.reduceSub, Nat.zero_add, true_and, and_true, Bool.not_true, Bool.not_false, if_true, if_false, Bool.false_eq_true, reduceIte, decide_eq_true_eq, Bool.not_eq_true', decide_eq_false_iff_not, eqV_int, eqV_str, eqV_bl, decide_true, reduceCtorEq, not_true_eq_false, not_false_eq_true, Bool.not_eq_true, List.not_mem_nil, false_implies, implies_true, Int.reduceNeg, Int.reduceToNat, Int.reducePow, Int.reduceMul, Int.reduceAdd, draw_i, ix_t0, ix_t1, ix_t2, ix_t3, ix_m3, ix_m4, sn_ball_box, sn_cell_box, sn_cell_ball, sn_ball_cell, sn_box_ball, sn_box_cell, decide_false]
    refine ix_last (m := (col vs i).length) (v := srtI (col (v :: vs) i)) rfl (sl i) ?_
    rw [cc, srt_last]
    exact hK2
  rw [List.nil_append]
  refine ⟨_, rfl, by decide, ?_⟩
  unfold vec mnL mxL at q
  rw [List.map_map, List.map_map] at q
  exact q
end K02
namespace K02
open PySem L2 L3
/-! the selection, by itself -/
def ltI (ns : List Int) (i j : Nat) : Prop := ltP (ns.getD i 0, i) (ns.getD j 0, j)
structure Sel (ns : List Int) (L O : List Nat) : Prop where
  pm : (O ++ L).Perm (List.range ns.length)
  up : L.Pairwise (· < ·)
  od : O.Pairwise (ltI ns)
  lt : ∀ x ∈ O, ∀ y ∈ L, ltI ns x y
theorem ltI_trans {ns : List Int} {a b c : Nat} (h1 : ltI ns a b) (h2 : ltI ns b c) : ltI ns a c := by
  unfold ltI ltP at *
  simp only at *
  omega
theorem Sel.step {ns : List Int} {L O : List Nat} {b : Nat} (S : Sel ns L O) (hb : b ∈ L) (h : ∀ y ∈ L, y = b ∨ ltI ns b y) : Sel ns (L.erase b) (O ++ [b]) := by
  have nd : L.Nodup := S.up.imp fun h => Nat.ne_of_lt h
  refine ⟨?_, S.up.sublist List.erase_sublist, ?_, fun x hx y hy => ?_⟩
  · rw [List.append_assoc]
    exact ((List.perm_cons_erase hb).symm.append_left O).trans S.pm
  · refine List.pairwise_append.mpr ⟨S.od, List.pairwise_singleton _ _, fun x hx y hy => ?_⟩
    rw [List.mem_singleton.mp hy]
    exact S.lt x hx b hb
  · have hy2 := (nd.mem_erase_iff).mp hy
    rcases List.mem_append.mp hx with hx | hx
    · exact S.lt x hx y hy2.2
    · rw [List.mem_singleton.mp hx]
      exact (h y hy2.2).resolve_left hy2.1
/-- the walk that finds the least: j are behind -/
structure Low (ns : List Int) (L : List Nat) (j b : Nat) : Prop where
  mem : b ∈ L
  bef : ∀ y ∈ L.take j, y = b ∨ ltI ns b y
  aft : ∀ y ∈ L.drop j, y = b ∨ b < y
theorem Low.start {ns : List Int} {b : Nat} {L : List Nat} (h : (b :: L).Pairwise (· < ·)) : Low ns (b :: L) 0 b :=
  ⟨List.mem_cons_self, fun y hy => (by cases hy), fun y hy => by
    rcases List.mem_cons.mp hy with e | hy
    · exact .inl e
    · exact .inr ((List.pairwise_cons.mp h).1 y hy)⟩
theorem Low.next {ns : List Int} {L : List Nat} {j b a : Nat} (h : L.Pairwise (· < ·)) (W : Low ns L j b) (ha : L[j]? = some a) : Low ns L (j + 1) (if ns.getD a 0 < ns.getD b 0 then a else b) := by
  have hj := (List.getElem?_eq_some_iff.mp ha).1
  have ea := (List.getElem?_eq_some_iff.mp ha).2
  have et : L.take (j + 1) = L.take j ++ [a] := by rw [List.take_add_one, ha]; rfl
  have ed : L.drop j = a :: L.drop (j + 1) := by rw [List.drop_eq_getElem_cons hj, ea]
  have am : a ∈ L := List.mem_of_getElem? ha
  have aft := W.aft
  rw [ed] at aft
  have pd : (a :: L.drop (j + 1)).Pairwise (· < ·) := by rw [← ed]; exact h.sublist (List.drop_sublist _ _)
  split
  · rename_i hlt
    have lab : ltI ns a b := .inl hlt
    refine ⟨am, fun y hy => ?_, fun y hy => .inr ((List.pairwise_cons.mp pd).1 y hy)⟩
    rw [et] at hy
    rcases List.mem_append.mp hy with hy | hy
    · rcases W.bef y hy with rfl | e
      · exact .inr lab
      · exact .inr (ltI_trans lab e)
    · exact .inl (List.mem_singleton.mp hy)
  · rename_i hlt
    refine ⟨W.mem, fun y hy => ?_, fun y hy => aft y (List.mem_cons_of_mem _ hy)⟩
    rw [et] at hy
    rcases List.mem_append.mp hy with hy | hy
    · exact W.bef y hy
    · rw [List.mem_singleton.mp hy]
      rcases aft a List.mem_cons_self with e | e
      · exact .inl e
      · right
        unfold ltI ltP
        simp only
        omega
theorem Sel.fin {ns : List Int} {O : List Nat} (S : Sel ns [] O) : IxOf ns O := ⟨by have := S.pm; rwa [List.append_nil] at this, S.od⟩
theorem erase_ints (b : Nat) : ∀ L : List Nat, (L.map fun (i : Nat) => (i : Int)).erase (b : Int) = (L.erase b).map fun (i : Nat) => (i : Int)
  | [] => rfl
  | a :: L => by
    by_cases e : a = b
    · subst e
      rw [List.map_cons, List.erase_cons_head, List.erase_cons_head]
    · rw [List.map_cons, List.erase_cons_tail (by simpa using fun h => e (by omega)), List.erase_cons_tail (by simpa using e), List.map_cons, erase_ints b L]
theorem nums_ints (L : List Nat) : nums L = (L.map fun (i : Nat) => (i : Int)).map D.int := by
  unfold nums
  rw [List.map_map]
  rfl
theorem val_i {M : Mp} {v : List Int} {vs : List (List Int)} {p n pl i : Nat} {Q : KD} (hv : vecs p n 5000 (v :: vs)) (hpl : pl < p) (hi : i < n) (q : Q (.int ((col (v :: vs) pl).getD i 0)) M) : ixD (.tup (vec v :: vs.map vec)) (.int (i : Int)) M fun d M1 => ixD d (.int (pl : Int)) M1 Q := by
  have hi' : i < (v :: vs).length := by rw [hv.2.2.2.1]; exact hi
  have e : atI ((v :: vs).map vec) (i : Int) = some (vec ((v :: vs).getD i [])) := by
    unfold atI ixN
    rw [if_pos (by omega), if_pos (by rw [List.length_map]; omega)]
    show ((v :: vs).map vec)[(i : Int).toNat]? = _
    rw [Int.toNat_natCast, List.getElem?_map, List.getD_eq_getElem?_getD, List.getElem?_eq_getElem hi']
    rfl
  refine ⟨_, _, rfl, e, ix_seqd rfl ?_ ?_⟩
  · rw [List.getD_eq_getElem?_getD, List.getElem?_eq_getElem hi']
    show pl < (v :: vs)[i].length
    rw [(hv.2.2.2.2 _ (List.getElem_mem hi')).1]
    exact hpl
  · unfold col at q
    rw [List.getD_eq_getElem?_getD, List.getElem?_map, List.getElem?_eq_getElem hi'] at q
    rw [List.getD_eq_getElem?_getD (l := v :: vs), List.getElem?_eq_getElem hi']
    exact q
end K02
namespace K02
open PySem L2 L3
/-! the law's own halves: the least is taken, again and again -/
theorem sub_range {p : Nat} {v u : List Int} (hv : v.length = p) (hu : u.length = p) : (List.range p).map (fun i => v.getD i 0 - u.getD i 0) = subI v u := by
  unfold subI
  refine List.ext_getElem (by rw [List.length_map, List.length_range, List.length_zipWith]; omega) fun i h1 h2 => ?_
  rw [List.length_map, List.length_range] at h1
  rw [List.getElem_map, List.getElem_range, List.getElem_zipWith, List.getD_eq_getElem?_getD, List.getD_eq_getElem?_getD, List.getElem?_eq_getElem (by omega), List.getElem?_eq_getElem (by omega)]
  rfl
theorem mxOf_is {ns : List Int} {m : Int} (h1 : m ∈ ns) (h2 : ∀ y ∈ ns, y ≤ m) : m = mxOf ns := by
  cases ns with
  | nil => cases h1
  | cons n ns =>
    refine most_one h1 (fmax_mem ns n) h2 fun y hy => ?_
    rcases List.mem_cons.mp hy with rfl | h
    · exact (fmax_ge ns y).1
    · exact (fmax_ge ns n).2 y h
/-- the first place of the greatest -/
theorem first_is {ws : List Int} {x : Int} {m : Int} (hx : x ∈ ws) (h1 : m ∈ ((List.range ws.length).filter fun i => decide (ws.getD i 0 = x)).map fun (i : Nat) => (i : Int)) (h2 : ∀ y ∈ ((List.range ws.length).filter fun i => decide (ws.getD i 0 = x)).map fun (i : Nat) => (i : Int), m ≤ y) : m = (ws.idxOf x : Nat) := by
  obtain ⟨i, hi, rfl⟩ := List.mem_map.mp h1
  obtain ⟨hi, e⟩ := List.mem_filter.mp hi
  have hi := List.mem_range.mp hi
  have e := of_decide_eq_true e
  have hl := List.idxOf_lt_length_iff.mpr hx
  have le := h2 (ws.idxOf x : Nat) (List.mem_map.mpr ⟨ws.idxOf x, List.mem_filter.mpr ⟨List.mem_range.mpr hl, decide_eq_true (by
    rw [List.getD_eq_getElem?_getD, List.getElem?_eq_getElem hl]
    exact List.getElem_idxOf hl)⟩, rfl⟩)
  by_cases lt : i < ws.idxOf x
  · have := PySem.SeqAt.lt_idxOf_ne lt hi
    rw [List.getD_eq_getElem?_getD, List.getElem?_eq_getElem hi] at e
    exact absurd e this
  · omega
theorem wp_i {M : Mp} {v : List Int} {vs : List (List Int)} {p n : Nat} {Q : KD} {R} (hv : vecs p n 5000 (v :: vs)) (hp : 1 ≤ p) (q : Q (.int (wideAt p v vs : Nat)) M) : F_widest_place [.tup (vec v :: vs.map vec)] M Q R := ⟨v, vs, p, n, rfl, hv, hp, q⟩
theorem wp__law_halves_right : ∀ ds M Q R, F__law_halves_right ds M Q R → W__law_halves_right { nx := fun _ M' => Q .non M', rt := Q, xr := lx R } (startE 12 ds) M := by
  rintro ds M Q R ⟨v, vs, p, n, ix, rfl, hv, hp, hix, q⟩
  have hv' := hv
  obtain ⟨hp8, n1, n12, hn, hvk⟩ := hv
  obtain ⟨e1, e2⟩ := ends_vk hvk
  have hw := wide_lt hv' hp
  unfold W__law_halves_right
  refine seq_gen fun K hK => ?_
  simp (disch := first | assumption | decide) only [wSeq, wNext, wAsg, wgName, wIfS, wB, wOp, wVar, wC, wCall, wCallK, wCons, wNil, wRet, wRetN, wDrop, wTup, wLst, wIf, wAnd, wOr, wNot, wAndV, wOrV, wNotV, wNeg, wChain, fI, fI0, addD, fLt, fLe, fGt, fGe, fIsB, wCB, fAbs, f2I, fInt, fIsq, wPar, wPar3, permD, startE, List.map_cons, List.map_nil, List.cons_append, List.nil_append, List.append_nil, List.length_cons, List.length_nil, List.replicate, List.getElem?_cons_zero, List.getElem?_cons_succ, List.set_cons_zero, List.set_cons_succ, List.getD_cons_zero, List.getD_cons_succ, Nat.reduceAdd, Nat.reduceSub, Nat.zero_add, true_and, and_true, Bool.not_true, Bool.not_false, if_true, if_false, Bool.false_eq_true, reduceIte, decide_eq_true_eq, Bool.not_eq_true', decide_eq_false_iff_not, eqV_int, eqV_str, eqV_bl, decide_true, reduceCtorEq, not_true_eq_false, not_false_eq_true, Bool.not_eq_true, List.not_mem_nil, false_implies, implies_true, Int.reduceNeg, Int.reduceToNat, Int.reducePow, Int.reduceMul, Int.reduceAdd, draw_i, ix_t0, ix_t1, ix_t2, ix_t3, ix_m3, ix_m4, sn_ball_box, sn_cell_box, sn_cell_ball, sn_ball_cell, sn_box_ball, sn_box_cell, decide_false]
  refine ⟨v, vs, p, n, rfl, hv', ?_⟩
  simp (disch := first | assumption | decide) only [wSeq, wNext, wAsg, wgName, wIfS, wB, wOp, wVar, wC, wCall, wCallK, wCons, wNil, wRet, wRetN, wDrop, wTup, wLst, wIf, wAnd, wOr, wNot, wAndV, wOrV, wNotV, wNeg, wChain, fI, fI0, addD, fLt, fLe, fGt, fGe, fIsB, wCB, fAbs, f2I, fInt, fIsq, wPar, wPar3, permD, startE, List.map_cons, List.map_nil, List.cons_append, List.nil_append, List.append_nil, List.length_cons, List.length_nil, List.replicate, List.getElem?_cons_zero, List.getElem?_cons_succ, List.set_cons_zero, List.set_cons_succ, List.getD_cons_zero, List.getD_cons_succ, Nat.reduceAdd, Nat.reduceSub, Nat.zero_add, true_and, and_true, Bool.not_true, Bool.not_false, if_true, if_false, Bool.false_eq_true, reduceIte, decide_eq_true_eq, Bool.not_eq_true', decide_eq_false_iff_not, eqV_int, eqV_str, eqV_bl, decide_true, reduceCtorEq, not_true_eq_false, not_false_eq_true, Bool.not_eq_true, List.not_mem_nil, false_implies, implies_true, Int.reduceNeg, Int.reduceToNat, Int.reducePow, Int.reduceMul, Int.reduceAdd, draw_i, ix_t0, ix_t1, ix_t2, ix_t3, ix_m3, ix_m4, sn_ball_box, sn_cell_box, sn_cell_ball, sn_ball_cell, sn_box_ball, sn_box_cell, decide_false, wgTup, wgCons, wgNil]
  subst hK
  refine seq_gen fun K hK => ?_
  simp (disch := first | assumption | decide) only [wSeq, wNext, wAsg, wgName, wIfS, wB, wOp, wVar, wC, wCall, wCallK, wCons, wNil, wRet, wRetN, wDrop, wTup, wLst, wIf, wAnd, wOr, wNot, wAndV, wOrV, wNotV, wNeg, wChain, fI, fI0, addD, fLt, fLe, fGt, fGe, fIsB, wCB, fAbs, f2I, fInt, fIsq, wPar, wPar3, permD, startE, List.map_cons, List.map_nil, List.cons_append, List.nil_append, List.append_nil, List.length_cons, List.length_nil, List.replicate, List.getElem?_cons_zero, List.getElem?_cons_succ, List.set_cons_zero, List.set_cons_succ, List.getD_cons_zero, List.getD_cons_succ, Nat.reduceAdd, Nat.reduceSub, Nat.zero_add, true_and, and_true, Bool.not_true, Bool.not_false, if_true, if_false, Bool.false_eq_true, reduceIte, decide_eq_true_eq, Bool.not_eq_true', decide_eq_false_iff_not, eqV_int, eqV_str, eqV_bl, decide_true, reduceCtorEq, not_true_eq_false, not_false_eq_true, Bool.not_eq_true, List.not_mem_nil, false_implies, implies_true, Int.reduceNeg, Int.reduceToNat, Int.reducePow, Int.reduceMul, Int.reduceAdd, draw_i, ix_t0, ix_t1, ix_t2, ix_t3, ix_m3, ix_m4, sn_ball_box, sn_cell_box, sn_cell_ball, sn_ball_cell, sn_box_ball, sn_box_cell, decide_false, wLc, wiRange1, wiSeq, wipeE, fTuple]
  refine ⟨(mnL p v vs).map .int, rfl, ?_⟩
  rw [List.length_map, e1.1]
  show (p : Int) < _ ∧ -4611686018427387904 ≤ (p : Int) ∧ wLcL _ wYes _ AnyM _ (intsD 0 (p : Int).toNat) [] M _
  refine ⟨by omega, by omega, ?_⟩
  rw [Int.toNat_natCast, nums_range]
  refine lc_nums (fun i => (mxL p v vs).getD i 0 - (mnL p v vs).getD i 0) (List.range p) (by rw [List.length_range]; omega) (fun i hi K2 hK2 => ?_) ?_
  · have hi := List.mem_range.mp hi
    simp (disch := first | assumption | decide) only [wSeq, wNext, wAsg, wgName, wIfS, wB, wOp, wVar, wC, wCall, wCallK, wCons, wNil, wRet, wRetN, wDrop, wTup, wLst, wIf, wAnd, wOr, wNot, wAndV, wOrV, wNotV, wNeg, wChain, fI, fI0, addD, fLt, fLe, fGt, fGe, fIsB, wCB, fAbs, f2I, fInt, fIsq, wPar, wPar3, permD, startE, List.map_cons, List.map_nil, List.cons_append, List.nil_append, List.append_nil, List.length_cons, List.length_nil, List.replicate, List.getElem?_cons_zero, List.getElem?_cons_succ, List.set_cons_zero, List.set_cons_succ, List.getD_cons_zero, List.getD_cons_succ, Nat.reduceAdd, Nat.reduceSub, Nat.zero_add, true_and, and_true, Bool.not_true, Bool.not_false, if_true, if_false, Bool.false_eq_true, reduceIte, decide_eq_true_eq, Bool.not_eq_true', decide_eq_false_iff_not, eqV_int, eqV_str, eqV_bl, decide_true, reduceCtorEq, not_true_eq_false, not_false_eq_true, Bool.not_eq_true, List.not_mem_nil, false_implies, implies_true, Int.reduceNeg, Int.reduceToNat, Int.reducePow, Int.reduceMul, Int.reduceAdd, draw_i, ix_t0, ix_t1, ix_t2, ix_t3, ix_m3, ix_m4, sn_ball_box, sn_cell_box, sn_cell_ball, sn_ball_cell, sn_box_ball, sn_box_cell, decide_false]
    refine ix_seqd rfl (by rw [e2.1]; exact hi) ?_
    refine ix_seqd rfl (by rw [e1.1]; exact hi) ?_
    exact hK2
  rw [sub_range e2.1 e1.1]
  have wl := sub_vk e2 e1
  have wide : ∀ Q' : Nat → Prop, Q' (wideAt p v vs) → Q' ((subI (mxL p v vs) (mnL p v vs)).idxOf (mxOf (subI (mxL p v vs) (mnL p v vs)))) := fun Q' h => h
  generalize hws : subI (mxL p v vs) (mnL p v vs) = ws at *
  have hm := mx_mem (ns := ws) fun z => by rw [z] at wl; simp at wl; omega
  subst hK
  refine seq_gen fun K hK => ?_
  simp (disch := first | assumption | decide) only [wSeq, wNext, wAsg, wgName, wIfS, wB, wOp, wVar, wC, wCall, wCallK, wCons, wNil, wRet, wRetN, wDrop, wTup, wLst, wIf, wAnd, wOr, wNot, wAndV, wOrV, wNotV, wNeg, wChain, fI, fI0, addD, fLt, fLe, fGt, fGe, fIsB, wCB, fAbs, f2I, fInt, fIsq, wPar, wPar3, permD, startE, List.map_cons, List.map_nil, List.cons_append, List.nil_append, List.append_nil, List.length_cons, List.length_nil, List.replicate, List.getElem?_cons_zero, List.getElem?_cons_succ, List.set_cons_zero, List.set_cons_succ, List.getD_cons_zero, List.getD_cons_succ, Nat.reduceAdd, Nat.reduceSub, Nat.zero_add, true_and, and_true, Bool.not_true, Bool.not_false, if_true, if_false, Bool.false_eq_true, reduceIte, decide_eq_true_eq, Bool.not_eq_true', decide_eq_false_iff_not, eqV_int, eqV_str, eqV_bl, decide_true, reduceCtorEq, not_true_eq_false, not_false_eq_true, Bool.not_eq_true, List.not_mem_nil, false_implies, implies_true, Int.reduceNeg, Int.reduceToNat, Int.reducePow, Int.reduceMul, Int.reduceAdd, draw_i, ix_t0, ix_t1, ix_t2, ix_t3, ix_m3, ix_m4, sn_ball_box, sn_cell_box, sn_cell_ball, sn_ball_cell, sn_box_ball, sn_box_cell, decide_false, wLc, wiRange1, wiSeq, wipeE, fTuple]
  refine ⟨ws.map .int, rfl, ?_⟩
  rw [List.length_map, wl]
  show (p : Int) < _ ∧ -4611686018427387904 ≤ (p : Int) ∧ wLcL _ _ _ AnyM _ (intsD 0 (p : Int).toNat) [] M _
  refine ⟨by omega, by omega, ?_⟩
  rw [Int.toNat_natCast, nums_range]
  refine lc_filt (fun (i : Nat) => D.int (i : Int)) (fun i => .int (i : Int)) (fun i => decide (ws.getD i 0 = mxOf ws)) (show AnyM M from True.intro) (List.range p) [] (by rw [List.length_range]; simp only [List.length_nil]; omega) (fun i hi A B hA hB => ?_) ?_
  · have hi := List.mem_range.mp hi
    simp (disch := first | assumption | decide) only [wSeq, wNext, wAsg, wgName, wIfS, wB, wOp, wVar, wC, wCall, wCallK, wCons, wNil, wRet, wRetN, wDrop, wTup, wLst, wIf, wAnd, wOr, wNot, wAndV, wOrV, wNotV, wNeg, wChain, fI, fI0, addD, fLt, fLe, fGt, fGe, fIsB, wCB, fAbs, f2I, fInt, fIsq, wPar, wPar3, permD, startE, List.map_cons, List.map_nil, List.cons_append, List.nil_append, List.append_nil, List.length_cons, List.length_nil, List.replicate, List.getElem?_cons_zero, List.getElem?_cons_succ, List.set_cons_zero, List.set_cons_succ, List.getD_cons_zero, List.getD_cons_succ, Nat.reduceAdd, Nat.reduceSub, Nat.zero_add, true_and, and_true, Bool.not_true, Bool.not_false, if_true, if_false, Bool.false_eq_true, reduceIte, decide_eq_true_eq, Bool.not_eq_true', decide_eq_false_iff_not, eqV_int, eqV_str, eqV_bl, decide_true, reduceCtorEq, not_true_eq_false, not_false_eq_true, Bool.not_eq_true, List.not_mem_nil, false_implies, implies_true, Int.reduceNeg, Int.reduceToNat, Int.reducePow, Int.reduceMul, Int.reduceAdd, draw_i, ix_t0, ix_t1, ix_t2, ix_t3, ix_m3, ix_m4, sn_ball_box, sn_cell_box, sn_cell_ball, sn_ball_cell, sn_box_ball, sn_box_cell, decide_false]
    refine ix_seqd rfl (by rw [wl]; exact hi) ?_
    refine ⟨ws, ⟨0, .inr rfl⟩, rfl, by omega, fun m h1 h2 => ?_⟩
    rw [mxOf_is h1 h2]
    by_cases h : ws.getD i 0 = mxOf ws
    · have := hA (decide_eq_true h)
      rw [h]
      simp (disch := first | assumption | decide) only [wSeq, wNext, wAsg, wgName, wIfS, wB, wOp, wVar, wC, wCall, wCallK, wCons, wNil, wRet, wRetN, wDrop, wTup, wLst, wIf, wAnd, wOr, wNot, wAndV, wOrV, wNotV, wNeg, wChain, fI, fI0, addD, fLt, fLe, fGt, fGe, fIsB, wCB, fAbs, f2I, fInt, fIsq, wPar, wPar3, permD, startE, List.map_cons, List.map_nil, List.cons_append, List.nil_append, List.append_nil, List.length_cons, List.length_nil, List.replicate, List.getElem?_cons_zero, List.getElem?_cons_succ, List.set_cons_zero, List.set_cons_succ, List.getD_cons_zero, List.getD_cons_succ, Nat.reduceAdd, Nat.reduceSub, Nat.zero_add, true_and, and_true, Bool.not_true, Bool.not_false, if_true, if_false, Bool.false_eq_true, reduceIte, decide_eq_true_eq, Bool.not_eq_true', decide_eq_false_iff_not, eqV_int, eqV_str, eqV_bl, decide_true, reduceCtorEq, not_true_eq_false, not_false_eq_true, Bool.not_eq_true, List.not_mem_nil, false_implies, implies_true, Int.reduceNeg, Int.reduceToNat, Int.reducePow, Int.reduceMul, Int.reduceAdd, draw_i, ix_t0, ix_t1, ix_t2, ix_t3, ix_m3, ix_m4, sn_ball_box, sn_cell_box, sn_cell_ball, sn_ball_cell, sn_box_ball, sn_box_cell, decide_false]
      exact this
    · have := hB (decide_eq_false h)
      refine eqV_int.mpr ?_
      rw [if_neg Bool.false_ne_true, decide_eq_false h]
      exact this
  rw [List.nil_append]
  have ef : ((List.range p).filter fun i => decide (ws.getD i 0 = mxOf ws)).map (fun (i : Nat) => D.int (i : Int)) = (((List.range ws.length).filter fun i => decide (ws.getD i 0 = mxOf ws)).map fun (i : Nat) => (i : Int)).map D.int := by
    rw [wl, List.map_map]
    rfl
  rw [ef]
  refine ⟨_, ⟨0, .inr rfl⟩, rfl, ?_, fun m h1 h2 => ?_⟩
  · rw [List.length_map]
    refine List.length_pos_iff.mpr fun z => ?_
    have hl := List.idxOf_lt_length_iff.mpr hm
    have : ws.idxOf (mxOf ws) ∈ (List.range ws.length).filter fun i => decide (ws.getD i 0 = mxOf ws) := List.mem_filter.mpr ⟨List.mem_range.mpr hl, decide_eq_true (by
      rw [List.getD_eq_getElem?_getD, List.getElem?_eq_getElem hl]
      exact List.getElem_idxOf hl)⟩
    rw [z] at this
    cases this
  have em : m = (wideAt p v vs : Nat) := by
    have := first_is hm h1 h2
    rw [this]
    unfold wideAt
    rw [hws]
  subst em
  clear h1 h2 ef
  generalize hpl : wideAt p v vs = pl at *
  subst hK
  refine seq_gen fun K hK => ?_
  simp (disch := first | assumption | decide) only [wSeq, wNext, wAsg, wgName, wIfS, wB, wOp, wVar, wC, wCall, wCallK, wCons, wNil, wRet, wRetN, wDrop, wTup, wLst, wIf, wAnd, wOr, wNot, wAndV, wOrV, wNotV, wNeg, wChain, fI, fI0, addD, fLt, fLe, fGt, fGe, fIsB, wCB, fAbs, f2I, fInt, fIsq, wPar, wPar3, permD, startE, List.map_cons, List.map_nil, List.cons_append, List.nil_append, List.append_nil, List.length_cons, List.length_nil, List.replicate, List.getElem?_cons_zero, List.getElem?_cons_succ, List.set_cons_zero, List.set_cons_succ, List.getD_cons_zero, List.getD_cons_succ, Nat.reduceAdd, Nat.reduceSub, Nat.zero_add, true_and, and_true, Bool.not_true, Bool.not_false, if_true, if_false, Bool.false_eq_true, reduceIte, decide_eq_true_eq, Bool.not_eq_true', decide_eq_false_iff_not, eqV_int, eqV_str, eqV_bl, decide_true, reduceCtorEq, not_true_eq_false, not_false_eq_true, Bool.not_eq_true, List.not_mem_nil, false_implies, implies_true, Int.reduceNeg, Int.reduceToNat, Int.reducePow, Int.reduceMul, Int.reduceAdd, draw_i, ix_t0, ix_t1, ix_t2, ix_t3, ix_m3, ix_m4, sn_ball_box, sn_cell_box, sn_cell_ball, sn_ball_cell, sn_box_ball, sn_box_cell, decide_false]
  refine wp_i hv' hp ?_
  rw [hpl]
  simp (disch := first | assumption | decide) only [wSeq, wNext, wAsg, wgName, wIfS, wB, wOp, wVar, wC, wCall, wCallK, wCons, wNil, wRet, wRetN, wDrop, wTup, wLst, wIf, wAnd, wOr, wNot, wAndV, wOrV, wNotV, wNeg, wChain, fI, fI0, addD, fLt, fLe, fGt, fGe, fIsB, wCB, fAbs, f2I, fInt, fIsq, wPar, wPar3, permD, startE, List.map_cons, List.map_nil, List.cons_append, List.nil_append, List.append_nil, List.length_cons, List.length_nil, List.replicate, List.getElem?_cons_zero, List.getElem?_cons_succ, List.set_cons_zero, List.set_cons_succ, List.getD_cons_zero, List.getD_cons_succ, Nat.reduceAdd, Nat.reduceSub, Nat.zero_add, true_and, and_true, Bool.not_true, Bool.not_false, if_true, if_false, Bool.false_eq_true, reduceIte, decide_eq_true_eq, Bool.not_eq_true', decide_eq_false_iff_not, eqV_int, eqV_str, eqV_bl, decide_true, reduceCtorEq, not_true_eq_false, not_false_eq_true, Bool.not_eq_true, List.not_mem_nil, false_implies, implies_true, Int.reduceNeg, Int.reduceToNat, Int.reducePow, Int.reduceMul, Int.reduceAdd, draw_i, ix_t0, ix_t1, ix_t2, ix_t3, ix_m3, ix_m4, sn_ball_box, sn_cell_box, sn_cell_ball, sn_ball_cell, sn_box_ball, sn_box_cell, decide_false]
  refine wp_i hv' hp ?_
  rw [hpl]
  simp (disch := first | assumption | decide) only [wSeq, wNext, wAsg, wgName, wIfS, wB, wOp, wVar, wC, wCall, wCallK, wCons, wNil, wRet, wRetN, wDrop, wTup, wLst, wIf, wAnd, wOr, wNot, wAndV, wOrV, wNotV, wNeg, wChain, fI, fI0, addD, fLt, fLe, fGt, fGe, fIsB, wCB, fAbs, f2I, fInt, fIsq, wPar, wPar3, permD, startE, List.map_cons, List.map_nil, List.cons_append, List.nil_append, List.append_nil, List.length_cons, List.length_nil, List.replicate, List.getElem?_cons_zero, List.getElem?_cons_succ, List.set_cons_zero, List.set_cons_succ, List.getD_cons_zero, List.getD_cons_succ, Nat.reduceAdd, Nat.reduceSub, Nat.zero_add, true_and, and_true, Bool.not_true, Bool.not_false, if_true, if_false, Bool.false_eq_true, reduceIte, decide_eq_true_eq, Bool.not_eq_true', decide_eq_false_iff_not, eqV_int, eqV_str, eqV_bl, decide_true, reduceCtorEq, not_true_eq_false, not_false_eq_true, Bool.not_eq_true, List.not_mem_nil, false_implies, implies_true, Int.reduceNeg, Int.reduceToNat, Int.reducePow, Int.reduceMul, Int.reduceAdd, draw_i, ix_t0, ix_t1, ix_t2, ix_t3, ix_m3, ix_m4, sn_ball_box, sn_cell_box, sn_cell_ball, sn_ball_cell, sn_box_ball, sn_box_cell, decide_false]
  refine wp_i hv' hp ?_
  refine ⟨"int", false, rfl, rfl, ?_⟩
  simp (disch := first | assumption | decide) only [wSeq, wNext, wAsg, wgName, wIfS, wB, wOp, wVar, wC, wCall, wCallK, wCons, wNil, wRet, wRetN, wDrop, wTup, wLst, wIf, wAnd, wOr, wNot, wAndV, wOrV, wNotV, wNeg, wChain, fI, fI0, addD, fLt, fLe, fGt, fGe, fIsB, wCB, fAbs, f2I, fInt, fIsq, wPar, wPar3, permD, startE, List.map_cons, List.map_nil, List.cons_append, List.nil_append, List.append_nil, List.length_cons, List.length_nil, List.replicate, List.getElem?_cons_zero, List.getElem?_cons_succ, List.set_cons_zero, List.set_cons_succ, List.getD_cons_zero, List.getD_cons_succ, Nat.reduceAdd, Nat.reduceSub, Nat.zero_add, true_and, and_true, Bool.not_true, Bool.not_false, if_true, if_false, Bool.false_eq_true, reduceIte, decide_eq_true_eq, Bool.not_eq_true', decide_eq_false_iff_not, eqV_int, eqV_str, eqV_bl, decide_true, reduceCtorEq, not_true_eq_false, not_false_eq_true, Bool.not_eq_true, List.not_mem_nil, false_implies, implies_true, Int.reduceNeg, Int.reduceToNat, Int.reducePow, Int.reduceMul, Int.reduceAdd, draw_i, ix_t0, ix_t1, ix_t2, ix_t3, ix_m3, ix_m4, sn_ball_box, sn_cell_box, sn_cell_ball, sn_ball_cell, sn_box_ball, sn_box_cell, decide_false]
  subst hK
  refine seq_gen fun K hK => ?_
  simp (disch := first | assumption | decide) only [wSeq, wNext, wAsg, wgName, wIfS, wB, wOp, wVar, wC, wCall, wCallK, wCons, wNil, wRet, wRetN, wDrop, wTup, wLst, wIf, wAnd, wOr, wNot, wAndV, wOrV, wNotV, wNeg, wChain, fI, fI0, addD, fLt, fLe, fGt, fGe, fIsB, wCB, fAbs, f2I, fInt, fIsq, wPar, wPar3, permD, startE, List.map_cons, List.map_nil, List.cons_append, List.nil_append, List.append_nil, List.length_cons, List.length_nil, List.replicate, List.getElem?_cons_zero, List.getElem?_cons_succ, List.set_cons_zero, List.set_cons_succ, List.getD_cons_zero, List.getD_cons_succ, Nat.reduceAdd, Nat.reduceSub, Nat.zero_add, true_and, and_true, Bool.not_true, Bool.not_false, if_true, if_false, Bool.false_eq_true, reduceIte, decide_eq_true_eq, Bool.not_eq_true', decide_eq_false_iff_not, eqV_int, eqV_str, eqV_bl, decide_true, reduceCtorEq, not_true_eq_false, not_false_eq_true, Bool.not_eq_true, List.not_mem_nil, false_implies, implies_true, Int.reduceNeg, Int.reduceToNat, Int.reducePow, Int.reduceMul, Int.reduceAdd, draw_i, ix_t0, ix_t1, ix_t2, ix_t3, ix_m3, ix_m4, sn_ball_box, sn_cell_box, sn_cell_ball, sn_ball_cell, sn_box_ball, sn_box_cell, decide_false, wListRg, wLstM]
  refine ⟨_, rfl, ?_⟩
  have hn' : (vec v :: vs.map vec).length = n := by rw [List.length_cons, List.length_map]; rw [List.length_cons] at hn; exact hn
  rw [hn']
  refine ⟨⟨by omega, by omega⟩, fun l hl => ⟨by decide, fun o ho => ?_⟩⟩
  rw [Int.toNat_natCast, nums_range]
  have hlo : o ≠ l := fun z => by rw [z, setM_same] at ho; cases ho
  have hcl : (col (v :: vs) pl).length = n := by unfold col; rw [List.length_map]; exact hn
  subst hK
  refine seq_gen fun K hK => ?_
  refine for_gen fun B hB => ?_
  simp (disch := first | assumption | decide) only [wSeq, wNext, wAsg, wgName, wIfS, wB, wOp, wVar, wC, wCall, wCallK, wCons, wNil, wRet, wRetN, wDrop, wTup, wLst, wIf, wAnd, wOr, wNot, wAndV, wOrV, wNotV, wNeg, wChain, fI, fI0, addD, fLt, fLe, fGt, fGe, fIsB, wCB, fAbs, f2I, fInt, fIsq, wPar, wPar3, permD, startE, List.map_cons, List.map_nil, List.cons_append, List.nil_append, List.append_nil, List.length_cons, List.length_nil, List.replicate, List.getElem?_cons_zero, List.getElem?_cons_succ, List.set_cons_zero, List.set_cons_succ, List.getD_cons_zero, List.getD_cons_succ, Nat.reduceAdd, Nat.reduceSub, Nat.zero_add, true_and, and_true, Bool.not_true, Bool.not_false, if_true, if_false, Bool.false_eq_true, reduceIte, decide_eq_true_eq, Bool.not_eq_true', decide_eq_false_iff_not, eqV_int, eqV_str, eqV_bl, decide_true, reduceCtorEq, not_true_eq_false, not_false_eq_true, Bool.not_eq_true, List.not_mem_nil, false_implies, implies_true, Int.reduceNeg, Int.reduceToNat, Int.reducePow, Int.reduceMul, Int.reduceAdd, draw_i, ix_t0, ix_t1, ix_t2, ix_t3, ix_m3, ix_m4, sn_ball_box, sn_cell_box, sn_cell_ball, sn_ball_cell, sn_box_ball, sn_box_cell, decide_false, wFor, wiRange1]
  refine ⟨_, rfl, ?_⟩
  rw [hn']
  show (n : Int) < _ ∧ -4611686018427387904 ≤ (n : Int) ∧ wLoop _ _ AnyM _ (intsD 0 (n : Int).toNat) _ _
  refine ⟨by omega, by omega, ?_⟩
  rw [Int.toNat_natCast]
  generalize hlo' : vec (mnL p v vs) = vlo
  generalize hhi' : vec (mxL p v vs) = vhi
  have sd : ∀ (L : List Nat) (c : Cell), seqD (setM (setM M l (.lst (nums L))) o c) (.tok l) = some (nums L) := fun L c => by
    show (match setM (setM M l (.lst (nums L))) o c l with | some (.lst ds) => some ds | _ => none) = _
    rw [setM_ne (Ne.symm hlo), setM_same]
  refine loop_ix (fun i ρ' M' => ∃ (L O : List Nat), M' = setM (setM M l (.lst (nums L))) o (.lst (nums O)) ∧ Sel (col (v :: vs) pl) L O ∧ O.length = i ∧
    ∃ v4 v10 v11 : Option D, ρ' = [some (.tup (vec v :: vs.map vec)), some (hvD ix ((n + 1) / 2)), some (.lst (ws.map .int)), some (.int (pl : Int)), v4, none, some vlo, some vhi, some (.tok l), some (.tok o), v10, v11]) ?_ ?_ ⟨List.range n, [], rfl, ⟨by rw [hcl]; exact List.Perm.refl _, List.pairwise_lt_range, List.Pairwise.nil, fun x hx => (by cases hx)⟩, rfl, none, none, none, rfl⟩
  · rintro i d ρ' M' hi ⟨L, O, rfl, S, hO, v4, v10, v11, rfl⟩
    obtain ⟨li, rfl⟩ := intsD_get hi
    refine ⟨True.intro, fun K' hK' => ?_⟩
    obtain ⟨t, et⟩ : ∃ t : D, t = .int (0 + (i : Int)) := ⟨_, rfl⟩
    rw [← et]
    simp only [wgName, List.set_cons_succ, List.set_cons_zero]
    have hLn : ∀ y ∈ L, y < n := fun y hy => by
      have := S.pm.mem_iff.mp (List.mem_append_right O hy)
      rw [hcl] at this
      exact List.mem_range.mp this
    have hLl : O.length + L.length = n := by
      have := S.pm.length_eq
      rwa [List.length_append, List.length_range, hcl] at this
    obtain ⟨b0, L', eL⟩ : ∃ b0 L', L = b0 :: L' := by
      cases L with
      | nil => simp at hLl; omega
      | cons b0 L' => exact ⟨b0, L', rfl⟩
    subst hB
    refine seq_gen fun K2 hK2 => ?_
    simp (disch := first | assumption | decide) only [wSeq, wNext, wAsg, wgName, wIfS, wB, wOp, wVar, wC, wCall, wCallK, wCons, wNil, wRet, wRetN, wDrop, wTup, wLst, wIf, wAnd, wOr, wNot, wAndV, wOrV, wNotV, wNeg, wChain, fI, fI0, addD, fLt, fLe, fGt, fGe, fIsB, wCB, fAbs, f2I, fInt, fIsq, wPar, wPar3, permD, startE, List.map_cons, List.map_nil, List.cons_append, List.nil_append, List.append_nil, List.length_cons, List.length_nil, List.replicate, List.getElem?_cons_zero, List.getElem?_cons_succ, List.set_cons_zero, List.set_cons_succ, List.getD_cons_zero, List.getD_cons_succ, Nat.reduceAdd, Nat.reduceSub, Nat.zero_add, true_and, and_true, Bool.not_true, Bool.not_false, if_true, if_false, Bool.false_eq_true, reduceIte, decide_eq_true_eq, Bool.not_eq_true', decide_eq_false_iff_not, eqV_int, eqV_str, eqV_bl, decide_true, reduceCtorEq, not_true_eq_false, not_false_eq_true, Bool.not_eq_true, List.not_mem_nil, false_implies, implies_true, Int.reduceNeg, Int.reduceToNat, Int.reducePow, Int.reduceMul, Int.reduceAdd, draw_i, ix_t0, ix_t1, ix_t2, ix_t3, ix_m3, ix_m4, sn_ball_box, sn_cell_box, sn_cell_ball, sn_ball_cell, sn_box_ball, sn_box_cell, decide_false]
    have ix0 : ∀ Q' : KD, Q' (.int (b0 : Int)) (setM (setM M l (.lst (nums L))) o (.lst (nums O))) → ixD (.tok l) (.int 0) (setM (setM M l (.lst (nums L))) o (.lst (nums O))) Q' := fun Q' h => by
      refine ix_seqd (i := 0) (v := L.map fun (i : Nat) => (i : Int)) (by rw [sd, nums_ints]) (by rw [List.length_map, eL]; exact Nat.succ_pos _) ?_
      have e : (L.map fun (i : Nat) => (i : Int)).getD 0 0 = (b0 : Int) := by rw [eL]; rfl
      rw [e]
      exact h
    refine ix0 _ ?_
    subst hK2
    refine seq_gen fun K2 hK2 => ?_
    refine for_gen fun B hB => ?_
    simp (disch := first | assumption | decide) only [wSeq, wNext, wAsg, wgName, wIfS, wB, wOp, wVar, wC, wCall, wCallK, wCons, wNil, wRet, wRetN, wDrop, wTup, wLst, wIf, wAnd, wOr, wNot, wAndV, wOrV, wNotV, wNeg, wChain, fI, fI0, addD, fLt, fLe, fGt, fGe, fIsB, wCB, fAbs, f2I, fInt, fIsq, wPar, wPar3, permD, startE, List.map_cons, List.map_nil, List.cons_append, List.nil_append, List.append_nil, List.length_cons, List.length_nil, List.replicate, List.getElem?_cons_zero, List.getElem?_cons_succ, List.set_cons_zero, List.set_cons_succ, List.getD_cons_zero, List.getD_cons_succ, Nat.reduceAdd, Nat.reduceSub, Nat.zero_add, true_and, and_true, Bool.not_true, Bool.not_false, if_true, if_false, Bool.false_eq_true, reduceIte, decide_eq_true_eq, Bool.not_eq_true', decide_eq_false_iff_not, eqV_int, eqV_str, eqV_bl, decide_true, reduceCtorEq, not_true_eq_false, not_false_eq_true, Bool.not_eq_true, List.not_mem_nil, false_implies, implies_true, Int.reduceNeg, Int.reduceToNat, Int.reducePow, Int.reduceMul, Int.reduceAdd, draw_i, ix_t0, ix_t1, ix_t2, ix_t3, ix_m3, ix_m4, sn_ball_box, sn_cell_box, sn_cell_ball, sn_ball_cell, sn_box_ball, sn_box_cell, decide_false, wFor, wiSeq]
    refine ⟨nums L, by rw [setM_ne (Ne.symm hlo), setM_same], ?_⟩
    unfold nums
    refine loop_map (fun (i : Nat) => D.int (i : Int)) L (fun j ρ' M' => M' = setM (setM M l (.lst (nums L))) o (.lst (nums O)) ∧ ∃ (b : Nat) (v11 : Option D), Low (col (v :: vs) pl) L j b ∧
      ρ' = [some (.tup (vec v :: vs.map vec)), some (hvD ix ((n + 1) / 2)), some (.lst (ws.map .int)), some (.int (pl : Int)), some t, none, some vlo, some vhi, some (.tok l), some (.tok o), some (.int (b : Int)), v11]) (fun j a ρ' M' ha hj hP => ?_) (fun ρ' M' hP => ?_) ⟨rfl, b0, v11, by rw [eL] at S ⊢; exact Low.start S.up, rfl⟩
    · obtain ⟨rfl, b, v11, W, rfl⟩ := hP
      refine ⟨by rw [setM_ne (Ne.symm hlo), setM_same]; rfl, fun K3 hK3 => ?_⟩
      have W2 := W.next S.up ha
      have han := hLn a (List.mem_of_getElem? ha)
      have hbn := hLn b W.mem
      subst hB
      simp (disch := first | assumption | decide) only [wSeq, wNext, wAsg, wgName, wIfS, wB, wOp, wVar, wC, wCall, wCallK, wCons, wNil, wRet, wRetN, wDrop, wTup, wLst, wIf, wAnd, wOr, wNot, wAndV, wOrV, wNotV, wNeg, wChain, fI, fI0, addD, fLt, fLe, fGt, fGe, fIsB, wCB, fAbs, f2I, fInt, fIsq, wPar, wPar3, permD, startE, List.map_cons, List.map_nil, List.cons_append, List.nil_append, List.append_nil, List.length_cons, List.length_nil, List.replicate, List.getElem?_cons_zero, List.getElem?_cons_succ, List.set_cons_zero, List.set_cons_succ, List.getD_cons_zero, List.getD_cons_succ, Nat.reduceAdd, Nat.reduceSub, Nat.zero_add, true_and, and_true, Bool.not_true, Bool.not_false, if_true, if_false, Bool.false_eq_true, reduceIte, decide_eq_true_eq, Bool.not_eq_true', decide_eq_false_iff_not, eqV_int, eqV_str, eqV_bl, decide_true, reduceCtorEq, not_true_eq_false, not_false_eq_true, Bool.not_eq_true, List.not_mem_nil, false_implies, implies_true, Int.reduceNeg, Int.reduceToNat, Int.reducePow, Int.reduceMul, Int.reduceAdd, draw_i, ix_t0, ix_t1, ix_t2, ix_t3, ix_m3, ix_m4, sn_ball_box, sn_cell_box, sn_cell_ball, sn_ball_cell, sn_box_ball, sn_box_cell, decide_false]
      refine val_i hv' hw han ?_
      refine val_i hv' hw hbn ?_
      simp (disch := first | assumption | decide) only [wSeq, wNext, wAsg, wgName, wIfS, wB, wOp, wVar, wC, wCall, wCallK, wCons, wNil, wRet, wRetN, wDrop, wTup, wLst, wIf, wAnd, wOr, wNot, wAndV, wOrV, wNotV, wNeg, wChain, fI, fI0, addD, fLt, fLe, fGt, fGe, fIsB, wCB, fAbs, f2I, fInt, fIsq, wPar, wPar3, permD, startE, List.map_cons, List.map_nil, List.cons_append, List.nil_append, List.append_nil, List.length_cons, List.length_nil, List.replicate, List.getElem?_cons_zero, List.getElem?_cons_succ, List.set_cons_zero, List.set_cons_succ, List.getD_cons_zero, List.getD_cons_succ, Nat.reduceAdd, Nat.reduceSub, Nat.zero_add, true_and, and_true, Bool.not_true, Bool.not_false, if_true, if_false, Bool.false_eq_true, reduceIte, decide_eq_true_eq, Bool.not_eq_true', decide_eq_false_iff_not, eqV_int, eqV_str, eqV_bl, decide_true, reduceCtorEq, not_true_eq_false, not_false_eq_true, Bool.not_eq_true, List.not_mem_nil, false_implies, implies_true, Int.reduceNeg, Int.reduceToNat, Int.reducePow, Int.reduceMul, Int.reduceAdd, draw_i, ix_t0, ix_t1, ix_t2, ix_t3, ix_m3, ix_m4, sn_ball_box, sn_cell_box, sn_cell_ball, sn_ball_cell, sn_box_ball, sn_box_cell, decide_false]
      split
      · rename_i h
        rw [if_pos h] at W2
        exact hK3 _ _ ⟨rfl, a, _, W2, rfl⟩
      · rename_i h
        rw [if_neg h] at W2
        exact hK3 _ _ ⟨rfl, b, _, W2, rfl⟩
    · obtain ⟨rfl, b, v11, W, rfl⟩ := hP
      refine ⟨by rw [setM_ne (Ne.symm hlo), setM_same]; rfl, ?_⟩
      show K2 _ _
      subst hK2
      refine seq_gen fun K2 hK2 => ?_
      simp (disch := first | assumption | decide) only [wSeq, wNext, wAsg, wgName, wIfS, wB, wOp, wVar, wC, wCall, wCallK, wCons, wNil, wRet, wRetN, wDrop, wTup, wLst, wIf, wAnd, wOr, wNot, wAndV, wOrV, wNotV, wNeg, wChain, fI, fI0, addD, fLt, fLe, fGt, fGe, fIsB, wCB, fAbs, f2I, fInt, fIsq, wPar, wPar3, permD, startE, List.map_cons, List.map_nil, List.cons_append, List.nil_append, List.append_nil, List.length_cons, List.length_nil, List.replicate, List.getElem?_cons_zero, List.getElem?_cons_succ, List.set_cons_zero, List.set_cons_succ, List.getD_cons_zero, List.getD_cons_succ, Nat.reduceAdd, Nat.reduceSub, Nat.zero_add, true_and, and_true, Bool.not_true, Bool.not_false, if_true, if_false, Bool.false_eq_true, reduceIte, decide_eq_true_eq, Bool.not_eq_true', decide_eq_false_iff_not, eqV_int, eqV_str, eqV_bl, decide_true, reduceCtorEq, not_true_eq_false, not_false_eq_true, Bool.not_eq_true, List.not_mem_nil, false_implies, implies_true, Int.reduceNeg, Int.reduceToNat, Int.reducePow, Int.reduceMul, Int.reduceAdd, draw_i, ix_t0, ix_t1, ix_t2, ix_t3, ix_m3, ix_m4, sn_ball_box, sn_cell_box, sn_cell_ball, sn_ball_cell, sn_box_ball, sn_box_cell, decide_false, wRem]
      have hml : ∀ c, setM (setM M l (.lst (nums L))) o c l = some (.lst (nums L)) := fun c => by rw [setM_ne (Ne.symm hlo), setM_same]
      have bef := W.bef
      rw [List.take_length] at bef
      refine ⟨⟨_, hml _⟩, L.map fun (i : Nat) => (i : Int), (b : Int), rfl, by rw [hml, nums_ints], List.mem_map.mpr ⟨b, W.mem, rfl⟩, ?_⟩
      rw [erase_ints, ← nums_ints]
      have ec : setM (setM (setM M l (.lst (nums L))) o (.lst (nums O))) l (.lst (nums (L.erase b))) = setM (setM M l (.lst (nums (L.erase b)))) o (.lst (nums O)) := by
        funext x
        unfold setM
        by_cases h1 : x = l
        · rw [if_pos h1, if_neg (by rw [h1]; exact Ne.symm hlo), if_pos h1]
        · rw [if_neg h1, if_neg h1, if_neg h1]
      rw [ec]
      subst hK2
      simp (disch := first | assumption | decide) only [wSeq, wNext, wAsg, wgName, wIfS, wB, wOp, wVar, wC, wCall, wCallK, wCons, wNil, wRet, wRetN, wDrop, wTup, wLst, wIf, wAnd, wOr, wNot, wAndV, wOrV, wNotV, wNeg, wChain, fI, fI0, addD, fLt, fLe, fGt, fGe, fIsB, wCB, fAbs, f2I, fInt, fIsq, wPar, wPar3, permD, startE, List.map_cons, List.map_nil, List.cons_append, List.nil_append, List.append_nil, List.length_cons, List.length_nil, List.replicate, List.getElem?_cons_zero, List.getElem?_cons_succ, List.set_cons_zero, List.set_cons_succ, List.getD_cons_zero, List.getD_cons_succ, Nat.reduceAdd, Nat.reduceSub, Nat.zero_add, true_and, and_true, Bool.not_true, Bool.not_false, if_true, if_false, Bool.false_eq_true, reduceIte, decide_eq_true_eq, Bool.not_eq_true', decide_eq_false_iff_not, eqV_int, eqV_str, eqV_bl, decide_true, reduceCtorEq, not_true_eq_false, not_false_eq_true, Bool.not_eq_true, List.not_mem_nil, false_implies, implies_true, Int.reduceNeg, Int.reduceToNat, Int.reducePow, Int.reduceMul, Int.reduceAdd, draw_i, ix_t0, ix_t1, ix_t2, ix_t3, ix_m3, ix_m4, sn_ball_box, sn_cell_box, sn_cell_ball, sn_ball_cell, sn_box_ball, sn_box_cell, decide_false, wApp]
      refine ⟨⟨_, setM_same⟩, nums O, setM_same, ?_, ?_⟩
      · unfold nums
        rw [List.length_map]
        exact Nat.lt_of_le_of_lt (by omega : O.length ≤ 12) (by decide)
      rw [set_set]
      have ea : nums O ++ [D.int (b : Int)] = nums (O ++ [b]) := by
        unfold nums
        rw [List.map_append]
        rfl
      rw [ea]
      exact hK' _ _ ⟨L.erase b, O ++ [b], rfl, S.step W.mem bef, by rw [List.length_append, hO]; rfl, _, _, _, rfl⟩
  · rintro ρ' M' ⟨L, O, rfl, S, hO, v4, v10, v11, rfl⟩
    rw [intsD_len] at hO
    refine ⟨True.intro, ?_⟩
    show K _ _
    have hLl : O.length + L.length = n := by
      have := S.pm.length_eq
      rwa [List.length_append, List.length_range, hcl] at this
    have eL : L = [] := List.eq_nil_of_length_eq_zero (by omega)
    subst eL
    have eO : O = ix := ix_one S.fin hix
    subst eO
    subst hK
    refine seq_gen fun K hK => ?_
    simp (disch := first | assumption | decide) only [wSeq, wNext, wAsg, wgName, wIfS, wB, wOp, wVar, wC, wCall, wCallK, wCons, wNil, wRet, wRetN, wDrop, wTup, wLst, wIf, wAnd, wOr, wNot, wAndV, wOrV, wNotV, wNeg, wChain, fI, fI0, addD, fLt, fLe, fGt, fGe, fIsB, wCB, fAbs, f2I, fInt, fIsq, wPar, wPar3, permD, startE, List.map_cons, List.map_nil, List.cons_append, List.nil_append, List.append_nil, List.length_cons, List.length_nil, List.replicate, List.getElem?_cons_zero, List.getElem?_cons_succ, List.set_cons_zero, List.set_cons_succ, List.getD_cons_zero, List.getD_cons_succ, Nat.reduceAdd, Nat.reduceSub, Nat.zero_add, true_and, and_true, Bool.not_true, Bool.not_false, if_true, if_false, Bool.false_eq_true, reduceIte, decide_eq_true_eq, Bool.not_eq_true', decide_eq_false_iff_not, eqV_int, eqV_str, eqV_bl, decide_true, reduceCtorEq, not_true_eq_false, not_false_eq_true, Bool.not_eq_true, List.not_mem_nil, false_implies, implies_true, Int.reduceNeg, Int.reduceToNat, Int.reducePow, Int.reduceMul, Int.reduceAdd, draw_i, ix_t0, ix_t1, ix_t2, ix_t3, ix_m3, ix_m4, sn_ball_box, sn_cell_box, sn_cell_ball, sn_ball_cell, sn_box_ball, sn_box_cell, decide_false]
    refine ⟨_, rfl, _, rfl, ?_⟩
    rw [hn']
    show CDivW (n : Int) 2 ∧ K _ _
    refine ⟨wide_div (b := 5) (by decide) (by decide) (by decide) (by decide), ?_⟩
    have em : (n : Int) - (n : Int) / 2 = (((n + 1) / 2 : Nat) : Int) := by omega
    rw [em]
    have hOn : O.length = n := hO
    have nl : (nums O).length = n := by unfold nums; rw [List.length_map]; exact hOn
    have sh : shw 2 (hvD O ((n + 1) / 2)) := by
      have one : ∀ x ∈ nums O, shw 0 x := fun x hx => by
        obtain ⟨i, hi, rfl⟩ := List.mem_map.mp hx
        have h1 := S.pm.mem_iff.mp (List.mem_append_left [] hi)
        rw [hcl] at h1
        have h2 := List.mem_range.mp h1
        show ((i : Int)).natAbs < 2 ^ 200
        rw [Int.natAbs_natCast]
        exact Nat.lt_of_lt_of_le (by omega : i < 2 ^ 4) (by decide)
      intro d hd
      simp only [List.mem_cons, List.not_mem_nil, or_false] at hd
      have tk : nums (O.take ((n + 1) / 2)) = (nums O).take ((n + 1) / 2) := by unfold nums; rw [List.map_take]
      have dk : nums (O.drop ((n + 1) / 2)) = (nums O).drop ((n + 1) / 2) := by unfold nums; rw [List.map_drop]
      rcases hd with rfl | rfl
      · intro x hx
        rw [tk] at hx
        exact one x (List.mem_of_mem_take hx)
      · intro x hx
        rw [dk] at hx
        exact one x (List.mem_of_mem_drop hx)
    have co : cost (hvD O ((n + 1) / 2)) ≤ 16000000 := by
      have cn : ∀ L : List Nat, costL (nums L) = 212 * L.length := fun L => by
        induction L with
        | nil => rfl
        | cons a L ih =>
          show 210 + 2 + costL (nums L) = _
          rw [ih, List.length_cons]
          omega
      show costL [D.tup (nums (O.take ((n + 1) / 2))), D.tup (nums (O.drop ((n + 1) / 2)))] + 4 ≤ _
      show (costL (nums (O.take ((n + 1) / 2))) + 4) + 2 + ((costL (nums (O.drop ((n + 1) / 2))) + 4) + 2 + 0) + 4 ≤ _
      rw [cn, cn, List.length_take, List.length_drop]
      omega
    subst hK
    simp (disch := first | assumption | decide) only [wSeq, wNext, wAsg, wgName, wIfS, wB, wOp, wVar, wC, wCall, wCallK, wCons, wNil, wRet, wRetN, wDrop, wTup, wLst, wIf, wAnd, wOr, wNot, wAndV, wOrV, wNotV, wNeg, wChain, fI, fI0, addD, fLt, fLe, fGt, fGe, fIsB, wCB, fAbs, f2I, fInt, fIsq, wPar, wPar3, permD, startE, List.map_cons, List.map_nil, List.cons_append, List.nil_append, List.append_nil, List.length_cons, List.length_nil, List.replicate, List.getElem?_cons_zero, List.getElem?_cons_succ, List.set_cons_zero, List.set_cons_succ, List.getD_cons_zero, List.getD_cons_succ, Nat.reduceAdd, Nat.reduceSub, Nat.zero_add, true_and, and_true, Bool.not_true, Bool.not_false, if_true, if_false, Bool.false_eq_true, reduceIte, decide_eq_true_eq, Bool.not_eq_true', decide_eq_false_iff_not, eqV_int, eqV_str, eqV_bl, decide_true, reduceCtorEq, not_true_eq_false, not_false_eq_true, Bool.not_eq_true, List.not_mem_nil, false_implies, implies_true, Int.reduceNeg, Int.reduceToNat, Int.reducePow, Int.reduceMul, Int.reduceAdd, draw_i, ix_t0, ix_t1, ix_t2, ix_t3, ix_m3, ix_m4, sn_ball_box, sn_cell_box, sn_cell_ball, sn_ball_cell, sn_box_ball, sn_box_cell, decide_false, wSl, wNoP, wPart, slD, fTuple]
    refine repr_of (n := 2) (by decide) sh co ?_
    refine ⟨nums O, ⟨o, .inl rfl⟩, by show (match setM (setM M l (.lst (nums []))) o (.lst (nums O)) o with | some (.lst ds) => some ds | _ => none) = _; rw [setM_same], ?_⟩
    refine ⟨_, rfl, nums O, ⟨o, .inl rfl⟩, by show (match setM (setM M l (.lst (nums []))) o (.lst (nums O)) o with | some (.lst ds) => some ds | _ => none) = _; rw [setM_same], _, rfl, by decide, ?_⟩
    rw [cut_to (by omega), cut_from (by omega)]
    have eh : D.tup [D.tup ((nums O).take ((n + 1) / 2)), D.tup ((nums O).drop ((n + 1) / 2))] = hvD O ((n + 1) / 2) := by
      unfold hvD nums
      rw [List.map_take, List.map_drop]
    rw [eh]
    refine repr_of (n := 2) (by decide) sh co ?_
    refine eqV_str.mpr ?_
    rw [if_neg Bool.false_ne_true, decide_eq_true rfl]
    refine q _ fun b c hb => ?_
    have h1 : b ≠ l := fun z => by rw [z, hl] at hb; cases hb
    have h2 : b ≠ o := fun z => by
      rw [z, (setM_ne hlo).symm.trans ho] at hb
      cases hb
    rw [setM_ne h2, setM_ne h1]
    exact hb
end K02
namespace K02
open PySem L2 L3
/-! all vectors moved by one step -/
theorem add_len {p : Nat} {v u : List Int} (hv : v.length = p) (hu : u.length = p) : (addI v u).length = p := by
  unfold addI
  rw [List.length_zipWith, hv, hu]
  omega
theorem add_get {p i : Nat} {v u : List Int} (hv : v.length = p) (hu : u.length = p) (hi : i < p) : (addI v u).getD i 0 = v.getD i 0 + u.getD i 0 := by
  unfold addI
  rw [List.getD_eq_getElem?_getD, List.getD_eq_getElem?_getD, List.getD_eq_getElem?_getD, List.getElem?_zipWith, List.getElem?_eq_getElem (by omega : i < v.length), List.getElem?_eq_getElem (by omega : i < u.length)]
  rfl
theorem add_range {p : Nat} {v u : List Int} (hv : v.length = p) (hu : u.length = p) : (List.range p).map (fun i => v.getD i 0 + u.getD i 0) = addI v u := by
  unfold addI
  refine List.ext_getElem (by rw [List.length_map, List.length_range, List.length_zipWith]; omega) fun i h1 h2 => ?_
  rw [List.length_map, List.length_range] at h1
  rw [List.getElem_map, List.getElem_range, List.getElem_zipWith, List.getD_eq_getElem?_getD, List.getD_eq_getElem?_getD, List.getElem?_eq_getElem (by omega), List.getElem?_eq_getElem (by omega)]
  rfl
def mvd (vs : List (List Int)) (s : List Int) : List (List Int) := vs.map fun v => addI v s
theorem col_mvd {p i : Nat} {vs : List (List Int)} {s : List Int} (hv : ∀ v ∈ vs, v.length = p) (hs : s.length = p) (hi : i < p) : col (mvd vs s) i = (col vs i).map (· + s.getD i 0) := by
  unfold col mvd
  rw [List.map_map, List.map_map]
  refine List.map_congr_left fun v h => ?_
  exact add_get (hv v h) hs hi
theorem foldmin_add (k : Int) : ∀ (ns : List Int) (n : Int), (ns.map (· + k)).foldl min (n + k) = ns.foldl min n + k
  | [], n => rfl
  | m :: ns, n => by
    rw [List.map_cons, List.foldl_cons, List.foldl_cons, ← foldmin_add k ns]
    congr 1
    omega
theorem foldmax_add (k : Int) : ∀ (ns : List Int) (n : Int), (ns.map (· + k)).foldl max (n + k) = ns.foldl max n + k
  | [], n => rfl
  | m :: ns, n => by
    rw [List.map_cons, List.foldl_cons, List.foldl_cons, ← foldmax_add k ns]
    congr 1
    omega
theorem sum_add (k : Int) : ∀ (ns : List Int), (ns.map (· + k)).sum = ns.sum + k * (ns.length : Int)
  | [] => by simp
  | m :: ns => by
    rw [List.map_cons, List.sum_cons, List.sum_cons, sum_add k ns, List.length_cons]
    have : k * ((ns.length + 1 : Nat) : Int) = k * (ns.length : Int) + k := by
      rw [Int.natCast_succ, Int.mul_add, Int.mul_one]
    omega
theorem range_get {p i : Nat} {f : Nat → Int} (hi : i < p) : ((List.range p).map f).getD i 0 = f i := by
  rw [List.getD_eq_getElem?_getD, List.getElem?_map, List.getElem?_range hi]
  rfl
theorem mn_mvd {p : Nat} {v : List Int} {vs : List (List Int)} {s : List Int} (hv : ∀ u ∈ v :: vs, u.length = p) (hs : s.length = p) : mnL p (addI v s) (mvd vs s) = addI (mnL p v vs) s := by
  rw [← add_range (v := mnL p v vs) (by unfold mnL; rw [List.length_map, List.length_range]) hs]
  conv => lhs; unfold mnL
  refine List.map_congr_left fun i hi => ?_
  have hi := List.mem_range.mp hi
  rw [col_mvd (fun u hu => hv u (List.mem_cons_of_mem _ hu)) hs hi, add_get (hv v List.mem_cons_self) hs hi, foldmin_add]
  unfold mnL
  rw [range_get hi]
theorem mx_mvd {p : Nat} {v : List Int} {vs : List (List Int)} {s : List Int} (hv : ∀ u ∈ v :: vs, u.length = p) (hs : s.length = p) : mxL p (addI v s) (mvd vs s) = addI (mxL p v vs) s := by
  rw [← add_range (v := mxL p v vs) (by unfold mxL; rw [List.length_map, List.length_range]) hs]
  conv => lhs; unfold mxL
  refine List.map_congr_left fun i hi => ?_
  have hi := List.mem_range.mp hi
  rw [col_mvd (fun u hu => hv u (List.mem_cons_of_mem _ hu)) hs hi, add_get (hv v List.mem_cons_self) hs hi, foldmax_add]
  unfold mxL
  rw [range_get hi]
theorem mid_mvd {p : Nat} {vs : List (List Int)} {s : List Int} (hn : vs ≠ []) (hv : ∀ u ∈ vs, u.length = p) (hs : s.length = p) : midL p (mvd vs s) = addI (midL p vs) s := by
  rw [← add_range (v := midL p vs) (by unfold midL; rw [List.length_map, List.length_range]) hs]
  conv => lhs; unfold midL
  refine List.map_congr_left fun i hi => ?_
  have hi := List.mem_range.mp hi
  have cl : (col vs i).length = vs.length := by unfold col; rw [List.length_map]
  have ml : (mvd vs s).length = vs.length := by unfold mvd; rw [List.length_map]
  have pos : (0 : Int) < (vs.length : Int) := by
    have := List.length_pos_iff.mpr hn
    omega
  rw [col_mvd hv hs hi, sum_add, cl, ml, Int.add_mul_ediv_right _ _ (by omega)]
  unfold midL
  rw [range_get hi]
theorem sub_add {p : Nat} {v u s : List Int} (hv : v.length = p) (hu : u.length = p) (hs : s.length = p) : subI (addI v s) (addI u s) = subI v u := by
  rw [← sub_range (add_len hv hs) (add_len hu hs), ← sub_range hv hu]
  refine List.map_congr_left fun i hi => ?_
  have hi := List.mem_range.mp hi
  rw [add_get hv hs hi, add_get hu hs hi]
  omega
theorem wide_mvd {p : Nat} {v : List Int} {vs : List (List Int)} {s : List Int} (hv : ∀ u ∈ v :: vs, u.length = p) (hs : s.length = p) : wideAt p (addI v s) (mvd vs s) = wideAt p v vs := by
  unfold wideAt
  rw [mn_mvd hv hs, mx_mvd hv hs, sub_add (p := p) (by unfold mxL; rw [List.length_map, List.length_range]) (by unfold mnL; rw [List.length_map, List.length_range]) hs]
theorem ix_add {ns : List Int} {k : Int} {ix : List Nat} (h : IxOf (ns.map (· + k)) ix) : IxOf ns ix := by
  obtain ⟨h1, h2⟩ := h
  rw [List.length_map] at h1
  refine ⟨h1, h2.imp_of_mem fun {i j} hi hj h => ?_⟩
  have li := List.mem_range.mp (h1.mem_iff.mp hi)
  have lj := List.mem_range.mp (h1.mem_iff.mp hj)
  have e : ∀ m, m < ns.length → (ns.map (· + k)).getD m 0 = ns.getD m 0 + k := fun m hm => by
    rw [List.getD_eq_getElem?_getD, List.getElem?_map, List.getD_eq_getElem?_getD, List.getElem?_eq_getElem hm]
    rfl
  rw [e i li, e j lj] at h
  unfold ltP at h ⊢
  simp only at h ⊢
  omega
/-- the middle lies between the ends -/
theorem sum_ge {a : Int} : ∀ {ns : List Int}, (∀ y ∈ ns, a ≤ y) → a * (ns.length : Int) ≤ ns.sum
  | [], _ => by simp
  | n :: ns, h => by
    have h1 := h n List.mem_cons_self
    have h2 := sum_ge (ns := ns) fun y hy => h y (List.mem_cons_of_mem _ hy)
    rw [List.sum_cons, List.length_cons]
    have : a * ((ns.length + 1 : Nat) : Int) = a * (ns.length : Int) + a := by
      rw [Int.natCast_succ, Int.mul_add, Int.mul_one]
    omega
theorem sum_le' {a : Int} : ∀ {ns : List Int}, (∀ y ∈ ns, y ≤ a) → ns.sum ≤ a * (ns.length : Int)
  | [], _ => by simp
  | n :: ns, h => by
    have h1 := h n List.mem_cons_self
    have h2 := sum_le' (ns := ns) fun y hy => h y (List.mem_cons_of_mem _ hy)
    rw [List.sum_cons, List.length_cons]
    have : a * ((ns.length + 1 : Nat) : Int) = a * (ns.length : Int) + a := by
      rw [Int.natCast_succ, Int.mul_add, Int.mul_one]
    omega
theorem mean_in {ns : List Int} {a b : Int} (hn : ns ≠ []) (h1 : ∀ y ∈ ns, a ≤ y) (h2 : ∀ y ∈ ns, y ≤ b) : a ≤ ns.sum / (ns.length : Int) ∧ ns.sum / (ns.length : Int) ≤ b := by
  have pos : (0 : Int) < (ns.length : Int) := by
    have := List.length_pos_iff.mpr hn
    omega
  refine ⟨(Int.le_ediv_iff_mul_le pos).mpr (sum_ge h1), ?_⟩
  have := Int.ediv_le_ediv pos (sum_le' h2)
  rwa [Int.mul_ediv_cancel _ (by omega)] at this
end K02
namespace K02
open PySem L2 L3
/-! texts of vectors -/
theorem ints_cost : ∀ v : List Int, costL (v.map D.int) = 212 * v.length
  | [] => rfl
  | a :: v => by
    show 210 + 2 + costL (v.map D.int) = _
    rw [ints_cost v, List.length_cons]
    omega
theorem vec_shw {n p : Nat} {B : Int} {v : List Int} (h : vk p B v) (hB : B ≤ 1000000) : shw (n + 1) (vec v) := fun d hd => by
  obtain ⟨a, ha, rfl⟩ := List.mem_map.mp hd
  have := h.2 a ha
  have e : ∀ m, shw m (.int a) ↔ a.natAbs < 2 ^ 200 := fun m => by cases m <;> exact Iff.rfl
  rw [e]
  exact Nat.lt_of_lt_of_le (by omega : a.natAbs < 2 ^ 30) (by decide)
theorem vecs_shw {p : Nat} {B : Int} {vs : List (List Int)} (h : ∀ v ∈ vs, vk p B v) (hB : B ≤ 1000000) : shw 2 (.tup (vs.map vec)) := fun d hd => by
  obtain ⟨v, hv, rfl⟩ := List.mem_map.mp hd
  exact vec_shw (h v hv) hB
theorem vec_cost {p : Nat} {B : Int} {v : List Int} (h : vk p B v) (hp : p ≤ 8) : cost (vec v) ≤ 1700 := by
  show costL (v.map D.int) + 4 ≤ _
  rw [ints_cost, h.1]
  omega
theorem vecs_cost {p : Nat} {B : Int} (hp : p ≤ 8) : ∀ {vs : List (List Int)}, (∀ v ∈ vs, vk p B v) → costL (vs.map vec) ≤ 1702 * vs.length
  | [], _ => Nat.le_refl _
  | v :: vs, h => by
    have h1 := vec_cost (h v List.mem_cons_self) hp
    have h2 := vecs_cost hp (vs := vs) fun u hu => h u (List.mem_cons_of_mem _ hu)
    show cost (vec v) + 2 + costL (vs.map vec) ≤ _
    rw [List.length_cons]
    omega
theorem rp {M : Mp} {p : Nat} {B : Int} {vs : List (List Int)} {Q : KD} (hp : p ≤ 8) (hB : B ≤ 1000000) (h : ∀ v ∈ vs, vk p B v) (hl : vs.length ≤ 1000) (q : Q (.str (shown (.tup (vs.map vec)))) M) : fRepr [.tup (vs.map vec)] M Q := by
  refine repr_of (n := 2) (by decide) (vecs_shw h hB) ?_ q
  show costL (vs.map vec) + 4 ≤ _
  have := vecs_cost hp h
  omega
theorem rp1 {M : Mp} {p : Nat} {B : Int} {v : List Int} {Q : KD} (hp : p ≤ 8) (hB : B ≤ 1000000) (h : vk p B v) (q : Q (.str (shown (vec v))) M) : fRepr [vec v] M Q := by
  refine repr_of (n := 2) (by decide) (vec_shw h hB) ?_ q
  have := vec_cost h hp
  exact Nat.le_trans this (by decide)
theorem ne_same {M : Mp} {x : Str} {Q : KD} (q : Q (.bl false) M) : eqV true (.str x) (.str x) M Q := by
  refine eqV_str.mpr ?_
  rw [if_pos rfl, decide_eq_true rfl]
  exact q
theorem eq_same {M : Mp} {x : Str} {Q : KD} (q : Q (.bl true) M) : eqV false (.str x) (.str x) M Q := by
  refine eqV_str.mpr ?_
  rw [if_neg Bool.false_ne_true, decide_eq_true rfl]
  exact q
theorem nev {M : Mp} {p : Nat} {B : Int} {v : List Int} {Q : KD} (hB : B ≤ 1000000) (h : vk p B v) (q : Q (.bl false) M) : eqV true (vec v) (vec v) M Q := eqV_self (n := 1) (by decide) (shw_fit _ _ (vec_shw (n := 0) h hB)) q
theorem nevs {M : Mp} {p : Nat} {B : Int} {vs : List (List Int)} {Q : KD} (hB : B ≤ 1000000) (h : ∀ v ∈ vs, vk p B v) (q : Q (.bl false) M) : eqV true (.tup (vs.map vec)) (.tup (vs.map vec)) M Q := eqV_self (n := 2) (by decide) (shw_fit _ _ (vecs_shw h hB)) q
theorem nums_fit (L : List Nat) : fit 1 (.tup (nums L)) := fun d hd => by
  obtain ⟨i, _, rfl⟩ := List.mem_map.mp hd
  exact True.intro
theorem hv_fit (ix : List Nat) (m : Nat) : fit 2 (hvD ix m) := fun d hd => by
  simp only [List.mem_cons, List.not_mem_nil, or_false] at hd
  rcases hd with rfl | rfl <;> exact nums_fit _
theorem lc_numsb {we : WE} {ρ : En} {M : Mp} {Q : KD} {j : Nat} (h : Nat → Bool) (ps : List Nat) (hn : ps.length ≤ 1000) (hs : ∀ i ∈ ps, ∀ K : KD, K (.bl (h i)) M → we (ρ.set j (some (.int (i : Int)))) M K)
    (q : Q (.lst ((ps.map h).map .bl)) M) : wLcL (wgName j) wYes we AnyM ρ (nums ps) [] M Q := by
  refine lc_pure (fun d => match d with | .int i => .bl (h i.toNat) | _ => .non) True.intro _ [] ?_ (fun d hd K hK => ?_) ?_
  · unfold nums
    rw [List.length_map]
    simp only [List.length_nil]
    omega
  · obtain ⟨p, hp, rfl⟩ := List.mem_map.mp hd
    exact hs p hp K hK
  · have e : (nums ps).map (fun d => match d with | .int i => D.bl (h i.toNat) | _ => .non) = (ps.map h).map D.bl := by
      unfold nums
      rw [List.map_map, List.map_map]
      rfl
    rw [List.nil_append, e]
    exact q
end K02
namespace K02
open PySem L2 L3
/-! the law's own lot -/
theorem mid_i {M : Mp} {vs : List (List Int)} {p n : Nat} {Q : KD} {R} (hv : vecs p n 5000 vs) (q : Q (vec (midL p vs)) M) : F_middle_of [.tup (vs.map vec)] M Q R := ⟨vs, p, n, rfl, hv, q⟩
theorem due_i {M : Mp} {v : List Int} {vs : List (List Int)} {p n : Nat} {Q : KD} {R} (hv : vecs p n 5000 (v :: vs)) (q : Q (.tup [vec (mnL p v vs), vec (mxL p v vs)]) M) : F__law_bounds_due [.tup (vec v :: vs.map vec)] M Q R := ⟨v, vs, p, n, rfl, hv, q⟩
theorem mid_in {p n i : Nat} {B : Int} {v : List Int} {vs : List (List Int)} (hv : vecs p n B (v :: vs)) (hi : i < p) : (mnL p v vs).getD i 0 ≤ (midL p (v :: vs)).getD i 0 ∧ (midL p (v :: vs)).getD i 0 ≤ (mxL p v vs).getD i 0 := by
  unfold mnL mxL midL
  rw [range_get hi, range_get hi, range_get hi]
  have cl : (col (v :: vs) i).length = (v :: vs).length := by unfold col; rw [List.length_map]
  rw [← cl]
  refine mean_in (by simp [col]) (fun y hy => ?_) fun y hy => ?_
  · rcases List.mem_cons.mp (show y ∈ v.getD i 0 :: col vs i from hy) with rfl | h
    · exact (fmin_le _ _).1
    · exact (fmin_le _ _).2 y h
  · rcases List.mem_cons.mp (show y ∈ v.getD i 0 :: col vs i from hy) with rfl | h
    · exact (fmax_ge _ _).1
    · exact (fmax_ge _ _).2 y h
theorem mid_vk {p n : Nat} {B : Int} {v : List Int} {vs : List (List Int)} (hv : vecs p n B (v :: vs)) : vk p B (midL p (v :: vs)) := by
  obtain ⟨e1, e2⟩ := ends_vk hv.2.2.2.2
  refine ⟨by unfold midL; rw [List.length_map, List.length_range], fun a ha => ?_⟩
  obtain ⟨i, hi, rfl⟩ := List.mem_map.mp ha
  have hi := List.mem_range.mp hi
  have m := mid_in hv hi
  have h1 := e1.2 _ (getD_mem (ns := mnL p v vs) (i := i) (by rw [e1.1]; exact hi))
  have h2 := e2.2 _ (getD_mem (ns := mxL p v vs) (i := i) (by rw [e2.1]; exact hi))
  unfold midL at m
  rw [range_get hi] at m
  omega
theorem wp__law_lot_right : ∀ ds M Q R, F__law_lot_right ds M Q R → W__law_lot_right { nx := fun _ M' => Q .non M', rt := Q, xr := lx R } (startE 13 ds) M := by
  rintro ds M Q R ⟨a, a0, v, vs, p, n, rfl, hm, hv0, hp, q⟩
  have hv : vecs p n 5000 (v :: vs) := ⟨hv0.1, hv0.2.1, hv0.2.2.1, hv0.2.2.2.1, fun u hu => ⟨(hv0.2.2.2.2 u hu).1, fun b hb => by have := (hv0.2.2.2.2 u hu).2 b hb; omega⟩⟩
  obtain ⟨hp8, n1, n12, hn, hvk⟩ := id hv
  obtain ⟨e1, e2⟩ := ends_vk hvk
  have em := mid_vk hv
  have eb : ∀ u ∈ [mnL p v vs, mxL p v vs], vk p 5000 u := fun u hu => by
    simp only [List.mem_cons, List.not_mem_nil, or_false] at hu
    rcases hu with rfl | rfl
    · exact e1
    · exact e2
  unfold W__law_lot_right
  refine seq_gen fun K hK => ?_
  simp (disch := first | assumption | decide) only [wSeq, wNext, wAsg, wgName, wIfS, wB, wOp, wVar, wC, wCall, wCallK, wCons, wNil, wRet, wRetN, wDrop, wTup, wLst, wIf, wAnd, wOr, wNot, wAndV, wOrV, wNotV, wNeg, wChain, fI, fI0, addD, fLt, fLe, fGt, fGe, fIsB, wCB, fAbs, f2I, fInt, fIsq, wPar, wPar3, permD, startE, List.map_cons, List.map_nil, List.cons_append, List.nil_append, List.append_nil, List.length_cons, List.length_nil, List.replicate, List.getElem?_cons_zero, List.getElem?_cons_succ, List.set_cons_zero, List.set_cons_succ, List.getD_cons_zero, List.getD_cons_succ, Nat.reduceAdd, Nat.reduceSub, Nat.zero_add, true_and, and_true, Bool.not_true, Bool.not_false, if_true, if_false, Bool.false_eq_true, reduceIte, decide_eq_true_eq, Bool.not_eq_true', decide_eq_false_iff_not, eqV_int, eqV_str, eqV_bl, decide_true, reduceCtorEq, not_true_eq_false, not_false_eq_true, Bool.not_eq_true, List.not_mem_nil, false_implies, implies_true, Int.reduceNeg, Int.reduceToNat, Int.reducePow, Int.reduceMul, Int.reduceAdd, draw_i, ix_t0, ix_t1, ix_t2, ix_t3, ix_m3, ix_m4, sn_ball_box, sn_cell_box, sn_cell_ball, sn_ball_cell, sn_box_ball, sn_box_cell, decide_false]
  refine bnd_i rfl hv ?_
  refine mid_i (vs := v :: vs) hv ?_
  refine rp (vs := v :: vs) hp8 (by decide) hvk (by omega) ?_
  simp (disch := first | assumption | decide) only [wSeq, wNext, wAsg, wgName, wIfS, wB, wOp, wVar, wC, wCall, wCallK, wCons, wNil, wRet, wRetN, wDrop, wTup, wLst, wIf, wAnd, wOr, wNot, wAndV, wOrV, wNotV, wNeg, wChain, fI, fI0, addD, fLt, fLe, fGt, fGe, fIsB, wCB, fAbs, f2I, fInt, fIsq, wPar, wPar3, permD, startE, List.map_cons, List.map_nil, List.cons_append, List.nil_append, List.append_nil, List.length_cons, List.length_nil, List.replicate, List.getElem?_cons_zero, List.getElem?_cons_succ, List.set_cons_zero, List.set_cons_succ, List.getD_cons_zero, List.getD_cons_succ, Nat.reduceAdd, Nat.reduceSub, Nat.zero_add, true_and, and_true, Bool.not_true, Bool.not_false, if_true, if_false, Bool.false_eq_true, reduceIte, decide_eq_true_eq, Bool.not_eq_true', decide_eq_false_iff_not, eqV_int, eqV_str, eqV_bl, decide_true, reduceCtorEq, not_true_eq_false, not_false_eq_true, Bool.not_eq_true, List.not_mem_nil, false_implies, implies_true, Int.reduceNeg, Int.reduceToNat, Int.reducePow, Int.reduceMul, Int.reduceAdd, draw_i, ix_t0, ix_t1, ix_t2, ix_t3, ix_m3, ix_m4, sn_ball_box, sn_cell_box, sn_cell_ball, sn_ball_cell, sn_box_ball, sn_box_cell, decide_false, wgTup, wgCons, wgNil]
  refine ⟨by decide, ?_⟩
  generalize hkept : shown (.tup ((v :: vs).map vec)) = kept
  subst hK
  refine seq_gen fun K hK => ?_
  simp (disch := first | assumption | decide) only [wSeq, wNext, wAsg, wgName, wIfS, wB, wOp, wVar, wC, wCall, wCallK, wCons, wNil, wRet, wRetN, wDrop, wTup, wLst, wIf, wAnd, wOr, wNot, wAndV, wOrV, wNotV, wNeg, wChain, fI, fI0, addD, fLt, fLe, fGt, fGe, fIsB, wCB, fAbs, f2I, fInt, fIsq, wPar, wPar3, permD, startE, List.map_cons, List.map_nil, List.cons_append, List.nil_append, List.append_nil, List.length_cons, List.length_nil, List.replicate, List.getElem?_cons_zero, List.getElem?_cons_succ, List.set_cons_zero, List.set_cons_succ, List.getD_cons_zero, List.getD_cons_succ, Nat.reduceAdd, Nat.reduceSub, Nat.zero_add, true_and, and_true, Bool.not_true, Bool.not_false, if_true, if_false, Bool.false_eq_true, reduceIte, decide_eq_true_eq, Bool.not_eq_true', decide_eq_false_iff_not, eqV_int, eqV_str, eqV_bl, decide_true, reduceCtorEq, not_true_eq_false, not_false_eq_true, Bool.not_eq_true, List.not_mem_nil, false_implies, implies_true, Int.reduceNeg, Int.reduceToNat, Int.reducePow, Int.reduceMul, Int.reduceAdd, draw_i, ix_t0, ix_t1, ix_t2, ix_t3, ix_m3, ix_m4, sn_ball_box, sn_cell_box, sn_cell_ball, sn_ball_cell, sn_box_ball, sn_box_cell, decide_false, wLc, wiRange1, wiSeq, wipeE, fTuple]
  refine ⟨v.map .int, rfl, ?_⟩
  rw [List.length_map, (hvk v List.mem_cons_self).1]
  show (p : Int) < _ ∧ -4611686018427387904 ≤ (p : Int) ∧ wLcL _ wYes _ AnyM _ (intsD 0 (p : Int).toNat) [] M _
  refine ⟨by omega, by omega, ?_⟩
  rw [Int.toNat_natCast, nums_range]
  refine lc_nums (fun i => (col (v :: vs) i).sum) (List.range p) (by rw [List.length_range]; omega) (fun i hi K2 hK2 => ?_) ?_
  · have hi := List.mem_range.mp hi
    simp (disch := first | assumption | decide) only [wSeq, wNext, wAsg, wgName, wIfS, wB, wOp, wVar, wC, wCall, wCallK, wCons, wNil, wRet, wRetN, wDrop, wTup, wLst, wIf, wAnd, wOr, wNot, wAndV, wOrV, wNotV, wNeg, wChain, fI, fI0, addD, fLt, fLe, fGt, fGe, fIsB, wCB, fAbs, f2I, fInt, fIsq, wPar, wPar3, permD, startE, List.map_cons, List.map_nil, List.cons_append, List.nil_append, List.append_nil, List.length_cons, List.length_nil, List.replicate, List.getElem?_cons_zero, List.getElem?_cons_succ, List.set_cons_zero, List.set_cons_succ, List.getD_cons_zero, List.getD_cons_succ, Nat.reduceAdd, Nat.reduceSub, Nat.zero_add, true_and, and_true, Bool.not_true, Bool.not_false, if_true, if_false, Bool.false_eq_true, reduceIte, decide_eq_true_eq, Bool.not_eq_true', decide_eq_false_iff_not, eqV_int, eqV_str, eqV_bl, decide_true, reduceCtorEq, not_true_eq_false, not_false_eq_true, Bool.not_eq_true, List.not_mem_nil, false_implies, implies_true, Int.reduceNeg, Int.reduceToNat, Int.reducePow, Int.reduceMul, Int.reduceAdd, draw_i, ix_t0, ix_t1, ix_t2, ix_t3, ix_m3, ix_m4, sn_ball_box, sn_cell_box, sn_cell_ball, sn_ball_cell, sn_box_ball, sn_box_cell, decide_false, wLc, wiSeq, wipeE]
    refine col_lc (i := i) (vs := v :: vs) rfl (by decide) (by show 3 < 13; decide) (by omega) (fun u hu => by rw [(hvk u hu).1]; exact hi) ?_
    exact sumA rfl (by unfold col; rw [List.length_map]; omega) (col_vk hvk hi) hK2
  have tb : ∀ i, i < p → -1000000 ≤ (col (v :: vs) i).sum ∧ (col (v :: vs) i).sum ≤ 1000000 := fun i hi => by
    have c := col_vk hvk hi
    have cl : (col (v :: vs) i).length ≤ 12 := by unfold col; rw [List.length_map]; omega
    have h1 := sum_ge fun y hy => (c y hy).1
    have h2 := sum_le' fun y hy => (c y hy).2
    omega
  have hkeptD : D.str (shown (D.tup (vec v :: vs.map vec))) = .str kept := by rw [← hkept]; rfl
  rw [hkeptD]
  subst hK
  refine seq_gen fun K hK => ?_
  simp (disch := first | assumption | decide) only [wSeq, wNext, wAsg, wgName, wIfS, wB, wOp, wVar, wC, wCall, wCallK, wCons, wNil, wRet, wRetN, wDrop, wTup, wLst, wIf, wAnd, wOr, wNot, wAndV, wOrV, wNotV, wNeg, wChain, fI, fI0, addD, fLt, fLe, fGt, fGe, fIsB, wCB, fAbs, f2I, fInt, fIsq, wPar, wPar3, permD, startE, List.map_cons, List.map_nil, List.cons_append, List.nil_append, List.append_nil, List.length_cons, List.length_nil, List.replicate, List.getElem?_cons_zero, List.getElem?_cons_succ, List.set_cons_zero, List.set_cons_succ, List.getD_cons_zero, List.getD_cons_succ, Nat.reduceAdd, Nat.reduceSub, Nat.zero_add, true_and, and_true, Bool.not_true, Bool.not_false, if_true, if_false, Bool.false_eq_true, reduceIte, decide_eq_true_eq, Bool.not_eq_true', decide_eq_false_iff_not, eqV_int, eqV_str, eqV_bl, decide_true, reduceCtorEq, not_true_eq_false, not_false_eq_true, Bool.not_eq_true, List.not_mem_nil, false_implies, implies_true, Int.reduceNeg, Int.reduceToNat, Int.reducePow, Int.reduceMul, Int.reduceAdd, draw_i, ix_t0, ix_t1, ix_t2, ix_t3, ix_m3, ix_m4, sn_ball_box, sn_cell_box, sn_cell_ball, sn_ball_cell, sn_box_ball, sn_box_cell, decide_false, wLc, wiSeq, wipeE, fTuple]
  refine rp (vs := [mnL p v vs, mxL p v vs]) hp8 (by decide) eb (by show 2 ≤ 1000; decide) ?_
  refine due_i hv ?_
  refine rp (vs := [mnL p v vs, mxL p v vs]) hp8 (by decide) eb (by show 2 ≤ 1000; decide) ?_
  refine ne_same ?_
  simp (disch := first | assumption | decide) only [wSeq, wNext, wAsg, wgName, wIfS, wB, wOp, wVar, wC, wCall, wCallK, wCons, wNil, wRet, wRetN, wDrop, wTup, wLst, wIf, wAnd, wOr, wNot, wAndV, wOrV, wNotV, wNeg, wChain, fI, fI0, addD, fLt, fLe, fGt, fGe, fIsB, wCB, fAbs, f2I, fInt, fIsq, wPar, wPar3, permD, startE, List.map_cons, List.map_nil, List.cons_append, List.nil_append, List.append_nil, List.length_cons, List.length_nil, List.replicate, List.getElem?_cons_zero, List.getElem?_cons_succ, List.set_cons_zero, List.set_cons_succ, List.getD_cons_zero, List.getD_cons_succ, Nat.reduceAdd, Nat.reduceSub, Nat.zero_add, true_and, and_true, Bool.not_true, Bool.not_false, if_true, if_false, Bool.false_eq_true, reduceIte, decide_eq_true_eq, Bool.not_eq_true', decide_eq_false_iff_not, eqV_int, eqV_str, eqV_bl, decide_true, reduceCtorEq, not_true_eq_false, not_false_eq_true, Bool.not_eq_true, List.not_mem_nil, false_implies, implies_true, Int.reduceNeg, Int.reduceToNat, Int.reducePow, Int.reduceMul, Int.reduceAdd, draw_i, ix_t0, ix_t1, ix_t2, ix_t3, ix_m3, ix_m4, sn_ball_box, sn_cell_box, sn_cell_ball, sn_ball_cell, sn_box_ball, sn_box_cell, decide_false]
  refine rp1 hp8 (by decide) em ?_
  have hn' : (vec v :: vs.map vec).length = n := by rw [List.length_cons, List.length_map]; rw [List.length_cons] at hn; exact hn
  rw [List.map_map]
  refine lc_map (fun i => D.int (col (v :: vs) i).sum) (fun i => .int ((col (v :: vs) i).sum / (n : Int))) (show AnyM M from True.intro) (List.range p) [] (by rw [List.length_range]; simp only [List.length_nil]; omega) (fun i hi K2 hK2 => ?_) ?_
  · have hi := List.mem_range.mp hi
    simp (disch := first | assumption | decide) only [wSeq, wNext, wAsg, wgName, wIfS, wB, wOp, wVar, wC, wCall, wCallK, wCons, wNil, wRet, wRetN, wDrop, wTup, wLst, wIf, wAnd, wOr, wNot, wAndV, wOrV, wNotV, wNeg, wChain, fI, fI0, addD, fLt, fLe, fGt, fGe, fIsB, wCB, fAbs, f2I, fInt, fIsq, wPar, wPar3, permD, startE, List.map_cons, List.map_nil, List.cons_append, List.nil_append, List.append_nil, List.length_cons, List.length_nil, List.replicate, List.getElem?_cons_zero, List.getElem?_cons_succ, List.set_cons_zero, List.set_cons_succ, List.getD_cons_zero, List.getD_cons_succ, Nat.reduceAdd, Nat.reduceSub, Nat.zero_add, true_and, and_true, Bool.not_true, Bool.not_false, if_true, if_false, Bool.false_eq_true, reduceIte, decide_eq_true_eq, Bool.not_eq_true', decide_eq_false_iff_not, eqV_int, eqV_str, eqV_bl, decide_true, reduceCtorEq, not_true_eq_false, not_false_eq_true, Bool.not_eq_true, List.not_mem_nil, false_implies, implies_true, Int.reduceNeg, Int.reduceToNat, Int.reducePow, Int.reduceMul, Int.reduceAdd, draw_i, ix_t0, ix_t1, ix_t2, ix_t3, ix_m3, ix_m4, sn_ball_box, sn_cell_box, sn_cell_ball, sn_ball_cell, sn_box_ball, sn_box_cell, decide_false]
    refine ⟨_, rfl, ?_⟩
    rw [hn']
    exact ⟨_, n, rfl, n1, n12, (tb i hi).1, (tb i hi).2, hK2⟩
  rw [List.nil_append]
  refine ⟨_, rfl, ?_⟩
  have eml : D.tup ((List.range p).map fun i => D.int ((col (v :: vs) i).sum / (n : Int))) = vec (midL p (v :: vs)) := by
    unfold midL vec
    rw [List.map_map, hn]
    rfl
  rw [eml]
  refine rp1 hp8 (by decide) em ?_
  refine ne_same ?_
  simp (disch := first | assumption | decide) only [wSeq, wNext, wAsg, wgName, wIfS, wB, wOp, wVar, wC, wCall, wCallK, wCons, wNil, wRet, wRetN, wDrop, wTup, wLst, wIf, wAnd, wOr, wNot, wAndV, wOrV, wNotV, wNeg, wChain, fI, fI0, addD, fLt, fLe, fGt, fGe, fIsB, wCB, fAbs, f2I, fInt, fIsq, wPar, wPar3, permD, startE, List.map_cons, List.map_nil, List.cons_append, List.nil_append, List.append_nil, List.length_cons, List.length_nil, List.replicate, List.getElem?_cons_zero, List.getElem?_cons_succ, List.set_cons_zero, List.set_cons_succ, List.getD_cons_zero, List.getD_cons_succ, Nat.reduceAdd, Nat.reduceSub, Nat.zero_add, true_and, and_true, Bool.not_true, Bool.not_false, if_true, if_false, Bool.false_eq_true, reduceIte, decide_eq_true_eq, Bool.not_eq_true', decide_eq_false_iff_not, eqV_int, eqV_str, eqV_bl, decide_true, reduceCtorEq, not_true_eq_false, not_false_eq_true, Bool.not_eq_true, List.not_mem_nil, false_implies, implies_true, Int.reduceNeg, Int.reduceToNat, Int.reducePow, Int.reduceMul, Int.reduceAdd, draw_i, ix_t0, ix_t1, ix_t2, ix_t3, ix_m3, ix_m4, sn_ball_box, sn_cell_box, sn_cell_ball, sn_ball_cell, sn_box_ball, sn_box_cell, decide_false]
  subst hK
  refine seq_gen fun K hK => ?_
  simp (disch := first | assumption | decide) only [wSeq, wNext, wAsg, wgName, wIfS, wB, wOp, wVar, wC, wCall, wCallK, wCons, wNil, wRet, wRetN, wDrop, wTup, wLst, wIf, wAnd, wOr, wNot, wAndV, wOrV, wNotV, wNeg, wChain, fI, fI0, addD, fLt, fLe, fGt, fGe, fIsB, wCB, fAbs, f2I, fInt, fIsq, wPar, wPar3, permD, startE, List.map_cons, List.map_nil, List.cons_append, List.nil_append, List.append_nil, List.length_cons, List.length_nil, List.replicate, List.getElem?_cons_zero, List.getElem?_cons_succ, List.set_cons_zero, List.set_cons_succ, List.getD_cons_zero, List.getD_cons_succ, Nat.reduceAdd, Nat.reduceSub, Nat.zero_add, true_and, and_true, Bool.not_true, Bool.not_false, if_true, if_false, Bool.false_eq_true, reduceIte, decide_eq_true_eq, Bool.not_eq_true', decide_eq_false_iff_not, eqV_int, eqV_str, eqV_bl, decide_true, reduceCtorEq, not_true_eq_false, not_false_eq_true, Bool.not_eq_true, List.not_mem_nil, false_implies, implies_true, Int.reduceNeg, Int.reduceToNat, Int.reducePow, Int.reduceMul, Int.reduceAdd, draw_i, ix_t0, ix_t1, ix_t2, ix_t3, ix_m3, ix_m4, sn_ball_box, sn_cell_box, sn_cell_ball, sn_ball_cell, sn_box_ball, sn_box_cell, decide_false]
  refine bnd_i rfl hv ?_
  refine nevs (vs := [mnL p v vs, mxL p v vs]) (by decide) eb ?_
  simp (disch := first | assumption | decide) only [wSeq, wNext, wAsg, wgName, wIfS, wB, wOp, wVar, wC, wCall, wCallK, wCons, wNil, wRet, wRetN, wDrop, wTup, wLst, wIf, wAnd, wOr, wNot, wAndV, wOrV, wNotV, wNeg, wChain, fI, fI0, addD, fLt, fLe, fGt, fGe, fIsB, wCB, fAbs, f2I, fInt, fIsq, wPar, wPar3, permD, startE, List.map_cons, List.map_nil, List.cons_append, List.nil_append, List.append_nil, List.length_cons, List.length_nil, List.replicate, List.getElem?_cons_zero, List.getElem?_cons_succ, List.set_cons_zero, List.set_cons_succ, List.getD_cons_zero, List.getD_cons_succ, Nat.reduceAdd, Nat.reduceSub, Nat.zero_add, true_and, and_true, Bool.not_true, Bool.not_false, if_true, if_false, Bool.false_eq_true, reduceIte, decide_eq_true_eq, Bool.not_eq_true', decide_eq_false_iff_not, eqV_int, eqV_str, eqV_bl, decide_true, reduceCtorEq, not_true_eq_false, not_false_eq_true, Bool.not_eq_true, List.not_mem_nil, false_implies, implies_true, Int.reduceNeg, Int.reduceToNat, Int.reducePow, Int.reduceMul, Int.reduceAdd, draw_i, ix_t0, ix_t1, ix_t2, ix_t3, ix_m3, ix_m4, sn_ball_box, sn_cell_box, sn_cell_ball, sn_ball_cell, sn_box_ball, sn_box_cell, decide_false]
  refine mid_i (vs := v :: vs) hv ?_
  refine nev (by decide) em ?_
  simp (disch := first | assumption | decide) only [wSeq, wNext, wAsg, wgName, wIfS, wB, wOp, wVar, wC, wCall, wCallK, wCons, wNil, wRet, wRetN, wDrop, wTup, wLst, wIf, wAnd, wOr, wNot, wAndV, wOrV, wNotV, wNeg, wChain, fI, fI0, addD, fLt, fLe, fGt, fGe, fIsB, wCB, fAbs, f2I, fInt, fIsq, wPar, wPar3, permD, startE, List.map_cons, List.map_nil, List.cons_append, List.nil_append, List.append_nil, List.length_cons, List.length_nil, List.replicate, List.getElem?_cons_zero, List.getElem?_cons_succ, List.set_cons_zero, List.set_cons_succ, List.getD_cons_zero, List.getD_cons_succ, Nat.reduceAdd, Nat.reduceSub, Nat.zero_add, true_and, and_true, Bool.not_true, Bool.not_false, if_true, if_false, Bool.false_eq_true, reduceIte, decide_eq_true_eq, Bool.not_eq_true', decide_eq_false_iff_not, eqV_int, eqV_str, eqV_bl, decide_true, reduceCtorEq, not_true_eq_false, not_false_eq_true, Bool.not_eq_true, List.not_mem_nil, false_implies, implies_true, Int.reduceNeg, Int.reduceToNat, Int.reducePow, Int.reduceMul, Int.reduceAdd, draw_i, ix_t0, ix_t1, ix_t2, ix_t3, ix_m3, ix_m4, sn_ball_box, sn_cell_box, sn_cell_ball, sn_ball_cell, sn_box_ball, sn_box_cell, decide_false]
  generalize D.lst (((List.range p).map (D.int ∘ fun i => (col (v :: vs) i).sum))) = tot
  subst hK
  refine seq_gen fun K hK => ?_
  refine for_gen fun B hB => ?_
  simp (disch := first | assumption | decide) only [wSeq, wNext, wAsg, wgName, wIfS, wB, wOp, wVar, wC, wCall, wCallK, wCons, wNil, wRet, wRetN, wDrop, wTup, wLst, wIf, wAnd, wOr, wNot, wAndV, wOrV, wNotV, wNeg, wChain, fI, fI0, addD, fLt, fLe, fGt, fGe, fIsB, wCB, fAbs, f2I, fInt, fIsq, wPar, wPar3, permD, startE, List.map_cons, List.map_nil, List.cons_append, List.nil_append, List.append_nil, List.length_cons, List.length_nil, List.replicate, List.getElem?_cons_zero, List.getElem?_cons_succ, List.set_cons_zero, List.set_cons_succ, List.getD_cons_zero, List.getD_cons_succ, Nat.reduceAdd, Nat.reduceSub, Nat.zero_add, true_and, and_true, Bool.not_true, Bool.not_false, if_true, if_false, Bool.false_eq_true, reduceIte, decide_eq_true_eq, Bool.not_eq_true', decide_eq_false_iff_not, eqV_int, eqV_str, eqV_bl, decide_true, reduceCtorEq, not_true_eq_false, not_false_eq_true, Bool.not_eq_true, List.not_mem_nil, false_implies, implies_true, Int.reduceNeg, Int.reduceToNat, Int.reducePow, Int.reduceMul, Int.reduceAdd, draw_i, ix_t0, ix_t1, ix_t2, ix_t3, ix_m3, ix_m4, sn_ball_box, sn_cell_box, sn_cell_ball, sn_ball_cell, sn_box_ball, sn_box_cell, decide_false, wFor, wiSeq]
  refine ⟨by decide, by rw [List.length_map]; rw [List.length_cons] at hn; exact Nat.le_trans (by omega : vs.length + 1 + 1 ≤ 13) (by decide), ?_⟩
  have exs : vec v :: (vs.map vec ++ [vec (midL p (v :: vs))]) = ((v :: vs) ++ [midL p (v :: vs)]).map vec := by rw [List.map_append]; rfl
  rw [exs]
  have held : ∀ u ∈ (v :: vs) ++ [midL p (v :: vs)], u.length = p ∧ ∀ i, i < p → (mnL p v vs).getD i 0 ≤ u.getD i 0 ∧ u.getD i 0 ≤ (mxL p v vs).getD i 0 := fun u hu => by
    rcases List.mem_append.mp hu with hu | hu
    · refine ⟨(hvk u hu).1, fun i hi => ?_⟩
      unfold mnL mxL
      rw [range_get hi, range_get hi]
      have hm2 : u.getD i 0 ∈ v.getD i 0 :: col vs i := show u.getD i 0 ∈ (v :: vs).map (fun u => u.getD i 0) from List.mem_map.mpr ⟨u, hu, rfl⟩
      refine ⟨?_, ?_⟩
      · rcases List.mem_cons.mp hm2 with e | h
        · rw [e]
          exact (fmin_le _ _).1
        · exact (fmin_le _ _).2 _ h
      · rcases List.mem_cons.mp hm2 with e | h
        · rw [e]
          exact (fmax_ge _ _).1
        · exact (fmax_ge _ _).2 _ h
    · rw [List.mem_singleton.mp hu]
      exact ⟨em.1, fun i hi => mid_in hv hi⟩
  refine loop_map vec ((v :: vs) ++ [midL p (v :: vs)]) (fun i ρ' M' => M' = M ∧ ∃ v3 : Option D, ρ' = [some (.tok a), some (.tup (vec v :: vs.map vec)), some tot, v3, none, none, some (.tup [vec (mnL p v vs), vec (mxL p v vs)]), some (vec (midL p (v :: vs))), some (.str kept), none, none, none, none]) (fun i u ρ' M' hu hi hP => ?_) (fun ρ' M' hP => ?_) ⟨rfl, none, rfl⟩
  · obtain ⟨rfl, v3, rfl⟩ := hP
    refine ⟨True.intro, fun K3 hK3 => ?_⟩
    obtain ⟨ul, uh⟩ := held u (List.mem_of_getElem? hu)
    subst hB
    simp (disch := first | assumption | decide) only [wSeq, wNext, wAsg, wgName, wIfS, wB, wOp, wVar, wC, wCall, wCallK, wCons, wNil, wRet, wRetN, wDrop, wTup, wLst, wIf, wAnd, wOr, wNot, wAndV, wOrV, wNotV, wNeg, wChain, fI, fI0, addD, fLt, fLe, fGt, fGe, fIsB, wCB, fAbs, f2I, fInt, fIsq, wPar, wPar3, permD, startE, List.map_cons, List.map_nil, List.cons_append, List.nil_append, List.append_nil, List.length_cons, List.length_nil, List.replicate, List.getElem?_cons_zero, List.getElem?_cons_succ, List.set_cons_zero, List.set_cons_succ, List.getD_cons_zero, List.getD_cons_succ, Nat.reduceAdd, Nat.reduceSub, Nat.zero_add, true_and, and_true, Bool.not_true, Bool.not_false, if_true, if_false, Bool.false_eq_true, reduceIte, decide_eq_true_eq, Bool.not_eq_true', decide_eq_false_iff_not, eqV_int, eqV_str, eqV_bl, decide_true, reduceCtorEq, not_true_eq_false, not_false_eq_true, Bool.not_eq_true, List.not_mem_nil, false_implies, implies_true, Int.reduceNeg, Int.reduceToNat, Int.reducePow, Int.reduceMul, Int.reduceAdd, draw_i, ix_t0, ix_t1, ix_t2, ix_t3, ix_m3, ix_m4, sn_ball_box, sn_cell_box, sn_cell_ball, sn_ball_cell, sn_box_ball, sn_box_cell, decide_false, wLc, wiRange1, wipeE]
    refine ⟨u.map .int, rfl, ?_⟩
    rw [List.length_map, ul]
    show (p : Int) < _ ∧ -4611686018427387904 ≤ (p : Int) ∧ wLcL _ wYes _ AnyM _ (intsD 0 (p : Int).toNat) [] _ _
    refine ⟨by omega, by omega, ?_⟩
    rw [Int.toNat_natCast, nums_range]
    refine lc_numsb (fun _ => true) (List.range p) (by rw [List.length_range]; omega) (fun i hi K2 hK2 => ?_) ?_
    · have hi := List.mem_range.mp hi
      have b := uh i hi
      simp (disch := first | assumption | decide) only [wSeq, wNext, wAsg, wgName, wIfS, wB, wOp, wVar, wC, wCall, wCallK, wCons, wNil, wRet, wRetN, wDrop, wTup, wLst, wIf, wAnd, wOr, wNot, wAndV, wOrV, wNotV, wNeg, wChain, fI, fI0, addD, fLt, fLe, fGt, fGe, fIsB, wCB, fAbs, f2I, fInt, fIsq, wPar, wPar3, permD, startE, List.map_cons, List.map_nil, List.cons_append, List.nil_append, List.append_nil, List.length_cons, List.length_nil, List.replicate, List.getElem?_cons_zero, List.getElem?_cons_succ, List.set_cons_zero, List.set_cons_succ, List.getD_cons_zero, List.getD_cons_succ, Nat.reduceAdd, Nat.reduceSub, Nat.zero_add, true_and, and_true, Bool.not_true, Bool.not_false, if_true, if_false, Bool.false_eq_true, reduceIte, decide_eq_true_eq, Bool.not_eq_true', decide_eq_false_iff_not, eqV_int, eqV_str, eqV_bl, decide_true, reduceCtorEq, not_true_eq_false, not_false_eq_true, Bool.not_eq_true, List.not_mem_nil, false_implies, implies_true, Int.reduceNeg, Int.reduceToNat, Int.reducePow, Int.reduceMul, Int.reduceAdd, draw_i, ix_t0, ix_t1, ix_t2, ix_t3, ix_m3, ix_m4, sn_ball_box, sn_cell_box, sn_cell_ball, sn_ball_cell, sn_box_ball, sn_box_cell, decide_false]
      refine ix_seqd rfl (by rw [e1.1]; exact hi) ?_
      refine ix_seqd rfl (by rw [ul]; exact hi) ?_
      dsimp only
      rw [decide_eq_true b.1]
      dsimp only
      refine ix_seqd rfl (by rw [e2.1]; exact hi) ?_
      dsimp only
      rw [decide_eq_true b.2]
      exact hK2
    · refine ⟨(List.range p).map fun _ => true, ⟨0, .inr rfl⟩, rfl, ?_⟩
      have ea : ((List.range p).map fun _ => true).all id = true := by simp
      dsimp only
      rw [ea, if_neg (by decide)]
      exact hK3 _ _ ⟨rfl, _, rfl⟩
  · obtain ⟨rfl, v3, rfl⟩ := hP
    refine ⟨True.intro, ?_⟩
    show K _ _
    subst hK
    refine seq_gen fun K hK => ?_
    simp (disch := first | assumption | decide) only [wSeq, wNext, wAsg, wgName, wIfS, wB, wOp, wVar, wC, wCall, wCallK, wCons, wNil, wRet, wRetN, wDrop, wTup, wLst, wIf, wAnd, wOr, wNot, wAndV, wOrV, wNotV, wNeg, wChain, fI, fI0, addD, fLt, fLe, fGt, fGe, fIsB, wCB, fAbs, f2I, fInt, fIsq, wPar, wPar3, permD, startE, List.map_cons, List.map_nil, List.cons_append, List.nil_append, List.append_nil, List.length_cons, List.length_nil, List.replicate, List.getElem?_cons_zero, List.getElem?_cons_succ, List.set_cons_zero, List.set_cons_succ, List.getD_cons_zero, List.getD_cons_succ, Nat.reduceAdd, Nat.reduceSub, Nat.zero_add, true_and, and_true, Bool.not_true, Bool.not_false, if_true, if_false, Bool.false_eq_true, reduceIte, decide_eq_true_eq, Bool.not_eq_true', decide_eq_false_iff_not, eqV_int, eqV_str, eqV_bl, decide_true, reduceCtorEq, not_true_eq_false, not_false_eq_true, Bool.not_eq_true, List.not_mem_nil, false_implies, implies_true, Int.reduceNeg, Int.reduceToNat, Int.reducePow, Int.reduceMul, Int.reduceAdd, draw_i, ix_t0, ix_t1, ix_t2, ix_t3, ix_m3, ix_m4, sn_ball_box, sn_cell_box, sn_cell_ball, sn_ball_cell, sn_box_ball, sn_box_cell, decide_false]
    refine ⟨v, vs, p, n, rfl, hv, hp, fun ix hix => ?_⟩
    refine ⟨v, vs, p, n, ix, rfl, hv, hp, hix, fun M2 up => ?_⟩
    dsimp only
    rw [if_neg (by decide)]
    refine ⟨v, vs, p, n, rfl, hv, hp, fun ix2 h2 => ?_⟩
    refine ⟨v, vs, p, n, rfl, hv, hp, fun ix3 h3 => ?_⟩
    obtain rfl := ix_one hix h2
    obtain rfl := ix_one hix h3
    refine eqV_self (n := 2) (by decide) (hv_fit _ _) ?_
    simp (disch := first | assumption | decide) only [wSeq, wNext, wAsg, wgName, wIfS, wB, wOp, wVar, wC, wCall, wCallK, wCons, wNil, wRet, wRetN, wDrop, wTup, wLst, wIf, wAnd, wOr, wNot, wAndV, wOrV, wNotV, wNeg, wChain, fI, fI0, addD, fLt, fLe, fGt, fGe, fIsB, wCB, fAbs, f2I, fInt, fIsq, wPar, wPar3, permD, startE, List.map_cons, List.map_nil, List.cons_append, List.nil_append, List.append_nil, List.length_cons, List.length_nil, List.replicate, List.getElem?_cons_zero, List.getElem?_cons_succ, List.set_cons_zero, List.set_cons_succ, List.getD_cons_zero, List.getD_cons_succ, Nat.reduceAdd, Nat.reduceSub, Nat.zero_add, true_and, and_true, Bool.not_true, Bool.not_false, if_true, if_false, Bool.false_eq_true, reduceIte, decide_eq_true_eq, Bool.not_eq_true', decide_eq_false_iff_not, eqV_int, eqV_str, eqV_bl, decide_true, reduceCtorEq, not_true_eq_false, not_false_eq_true, Bool.not_eq_true, List.not_mem_nil, false_implies, implies_true, Int.reduceNeg, Int.reduceToNat, Int.reducePow, Int.reduceMul, Int.reduceAdd, draw_i, ix_t0, ix_t1, ix_t2, ix_t3, ix_m3, ix_m4, sn_ball_box, sn_cell_box, sn_cell_ball, sn_ball_cell, sn_box_ball, sn_box_cell, decide_false]
    have hm2 := up _ _ hm
    have q := q
    generalize hlo' : D.tup [vec (mnL p v vs), vec (mxL p v vs)] = vb
    subst hK
    refine seq_gen fun K hK => ?_
    simp (disch := first | assumption | decide) only [wSeq, wNext, wAsg, wgName, wIfS, wB, wOp, wVar, wC, wCall, wCallK, wCons, wNil, wRet, wRetN, wDrop, wTup, wLst, wIf, wAnd, wOr, wNot, wAndV, wOrV, wNotV, wNeg, wChain, fI, fI0, addD, fLt, fLe, fGt, fGe, fIsB, wCB, fAbs, f2I, fInt, fIsq, wPar, wPar3, permD, startE, List.map_cons, List.map_nil, List.cons_append, List.nil_append, List.append_nil, List.length_cons, List.length_nil, List.replicate, List.getElem?_cons_zero, List.getElem?_cons_succ, List.set_cons_zero, List.set_cons_succ, List.getD_cons_zero, List.getD_cons_succ, Nat.reduceAdd, Nat.reduceSub, Nat.zero_add, true_and, and_true, Bool.not_true, Bool.not_false, if_true, if_false, Bool.false_eq_true, reduceIte, decide_eq_true_eq, Bool.not_eq_true', decide_eq_false_iff_not, eqV_int, eqV_str, eqV_bl, decide_true, reduceCtorEq, not_true_eq_false, not_false_eq_true, Bool.not_eq_true, List.not_mem_nil, false_implies, implies_true, Int.reduceNeg, Int.reduceToNat, Int.reducePow, Int.reduceMul, Int.reduceAdd, draw_i, ix_t0, ix_t1, ix_t2, ix_t3, ix_m3, ix_m4, sn_ball_box, sn_cell_box, sn_cell_ball, sn_ball_cell, sn_box_ball, sn_box_cell, decide_false, wLc, wiSeq, wipeE, fTuple]
    show wLcL _ wYes _ AnyM _ ((midL p (v :: vs)).map .int) [] M2 _
    refine lc_any (fun _ y => ∃ b : Int, y = .int b ∧ -20 ≤ b ∧ b ≤ 20) True.intro _ [] ?_ (fun d hd K2 hK2 => ?_) fun ys hy1 hy2 => ?_
    · rw [List.length_map, em.1]
      simp only [List.length_nil]
      omega
    · simp (disch := first | assumption | decide) only [wSeq, wNext, wAsg, wgName, wIfS, wB, wOp, wVar, wC, wCall, wCallK, wCons, wNil, wRet, wRetN, wDrop, wTup, wLst, wIf, wAnd, wOr, wNot, wAndV, wOrV, wNotV, wNeg, wChain, fI, fI0, addD, fLt, fLe, fGt, fGe, fIsB, wCB, fAbs, f2I, fInt, fIsq, wPar, wPar3, permD, startE, List.map_cons, List.map_nil, List.cons_append, List.nil_append, List.append_nil, List.length_cons, List.length_nil, List.replicate, List.getElem?_cons_zero, List.getElem?_cons_succ, List.set_cons_zero, List.set_cons_succ, List.getD_cons_zero, List.getD_cons_succ, Nat.reduceAdd, Nat.reduceSub, Nat.zero_add, true_and, and_true, Bool.not_true, Bool.not_false, if_true, if_false, Bool.false_eq_true, reduceIte, decide_eq_true_eq, Bool.not_eq_true', decide_eq_false_iff_not, eqV_int, eqV_str, eqV_bl, decide_true, reduceCtorEq, not_true_eq_false, not_false_eq_true, Bool.not_eq_true, List.not_mem_nil, false_implies, implies_true, Int.reduceNeg, Int.reduceToNat, Int.reducePow, Int.reduceMul, Int.reduceAdd, draw_i, ix_t0, ix_t1, ix_t2, ix_t3, ix_m3, ix_m4, sn_ball_box, sn_cell_box, sn_cell_ball, sn_ball_cell, sn_box_ball, sn_box_cell, decide_false]
      intro k k0 k1
      exact hK2 _ ⟨_, rfl, by omega, by omega⟩
    obtain ⟨s, rfl, hs⟩ := ints_of (R := fun b => -20 ≤ b ∧ b ≤ 20) (fun y hy => by
      obtain ⟨i, hi⟩ := List.mem_iff_getElem?.mp hy
      obtain ⟨_, _, h⟩ := hy2 i y hi
      exact h)
    rw [List.length_map, List.length_map, em.1] at hy1
    rw [List.nil_append]
    clear hy2
    refine ⟨_, rfl, ?_⟩
    have hsk : vk p 20 s := ⟨hy1, hs⟩
    have hlen : ∀ u ∈ v :: vs, u.length = p := fun u hu => (hvk u hu).1
    have mvk : ∀ u ∈ mvd (v :: vs) s, vk p 5000 u := fun u hu => by
      obtain ⟨w, hw, rfl⟩ := List.mem_map.mp hu
      have hw0 := hv0.2.2.2.2 w hw
      refine ⟨add_len hw0.1 hsk.1, fun b hb => ?_⟩
      rw [← add_range hw0.1 hsk.1] at hb
      obtain ⟨i, hi, rfl⟩ := List.mem_map.mp hb
      have hi := List.mem_range.mp hi
      have h1 := hw0.2 _ (getD_mem (i := i) (by rw [hw0.1]; exact hi))
      have h2 := hsk.2 _ (getD_mem (i := i) (by rw [hsk.1]; exact hi))
      omega
    have mv : vecs p n 5000 (mvd (v :: vs) s) := ⟨hp8, n1, n12, by unfold mvd; rw [List.length_map]; exact hn, mvk⟩
    have smv : ∀ u ∈ v :: vs, sm u := fun u hu => vk_sm hp8 (by decide) (hvk u hu)
    have sms : sm s := vk_sm hp8 (by decide) hsk
    have smm : sm (midL p (v :: vs)) := vk_sm hp8 (by decide) em
    subst hK
    refine seq_gen fun K hK => ?_
    simp (disch := first | assumption | decide) only [wSeq, wNext, wAsg, wgName, wIfS, wB, wOp, wVar, wC, wCall, wCallK, wCons, wNil, wRet, wRetN, wDrop, wTup, wLst, wIf, wAnd, wOr, wNot, wAndV, wOrV, wNotV, wNeg, wChain, fI, fI0, addD, fLt, fLe, fGt, fGe, fIsB, wCB, fAbs, f2I, fInt, fIsq, wPar, wPar3, permD, startE, List.map_cons, List.map_nil, List.cons_append, List.nil_append, List.append_nil, List.length_cons, List.length_nil, List.replicate, List.getElem?_cons_zero, List.getElem?_cons_succ, List.set_cons_zero, List.set_cons_succ, List.getD_cons_zero, List.getD_cons_succ, Nat.reduceAdd, Nat.reduceSub, Nat.zero_add, true_and, and_true, Bool.not_true, Bool.not_false, if_true, if_false, Bool.false_eq_true, reduceIte, decide_eq_true_eq, Bool.not_eq_true', decide_eq_false_iff_not, eqV_int, eqV_str, eqV_bl, decide_true, reduceCtorEq, not_true_eq_false, not_false_eq_true, Bool.not_eq_true, List.not_mem_nil, false_implies, implies_true, Int.reduceNeg, Int.reduceToNat, Int.reducePow, Int.reduceMul, Int.reduceAdd, draw_i, ix_t0, ix_t1, ix_t2, ix_t3, ix_m3, ix_m4, sn_ball_box, sn_cell_box, sn_cell_ball, sn_ball_cell, sn_box_ball, sn_box_cell, decide_false, wLc, wiSeq, wipeE, fTuple]
    refine lc_map vec (fun u => vec (addI u s)) (show AnyM M2 from True.intro) (v :: vs) [] (by rw [hn]; simp only [List.length_nil]; omega) (fun u hu K2 hK2 => ?_) ?_
    · simp (disch := first | assumption | decide) only [wSeq, wNext, wAsg, wgName, wIfS, wB, wOp, wVar, wC, wCall, wCallK, wCons, wNil, wRet, wRetN, wDrop, wTup, wLst, wIf, wAnd, wOr, wNot, wAndV, wOrV, wNotV, wNeg, wChain, fI, fI0, addD, fLt, fLe, fGt, fGe, fIsB, wCB, fAbs, f2I, fInt, fIsq, wPar, wPar3, permD, startE, List.map_cons, List.map_nil, List.cons_append, List.nil_append, List.append_nil, List.length_cons, List.length_nil, List.replicate, List.getElem?_cons_zero, List.getElem?_cons_succ, List.set_cons_zero, List.set_cons_succ, List.getD_cons_zero, List.getD_cons_succ, Nat.reduceAdd, Nat.reduceSub, Nat.zero_add, true_and, and_true, Bool.not_true, Bool.not_false, if_true, if_false, Bool.false_eq_true, reduceIte, decide_eq_true_eq, Bool.not_eq_true', decide_eq_false_iff_not, eqV_int, eqV_str, eqV_bl, decide_true, reduceCtorEq, not_true_eq_false, not_false_eq_true, Bool.not_eq_true, List.not_mem_nil, false_implies, implies_true, Int.reduceNeg, Int.reduceToNat, Int.reducePow, Int.reduceMul, Int.reduceAdd, draw_i, ix_t0, ix_t1, ix_t2, ix_t3, ix_m3, ix_m4, sn_ball_box, sn_cell_box, sn_cell_ball, sn_ball_cell, sn_box_ball, sn_box_cell, decide_false]
      exact ⟨u, s, rfl, smv u hu, sms, hK2⟩
    rw [List.nil_append]
    refine ⟨_, rfl, ?_⟩
    have emv : ((v :: vs).map fun u => vec (addI u s)) = (mvd (v :: vs) s).map vec := by unfold mvd; rw [List.map_map]; rfl
    rw [emv]
    subst hK
    refine seq_gen fun K hK => ?_
    simp (disch := first | assumption | decide) only [wSeq, wNext, wAsg, wgName, wIfS, wB, wOp, wVar, wC, wCall, wCallK, wCons, wNil, wRet, wRetN, wDrop, wTup, wLst, wIf, wAnd, wOr, wNot, wAndV, wOrV, wNotV, wNeg, wChain, fI, fI0, addD, fLt, fLe, fGt, fGe, fIsB, wCB, fAbs, f2I, fInt, fIsq, wPar, wPar3, permD, startE, List.map_cons, List.map_nil, List.cons_append, List.nil_append, List.append_nil, List.length_cons, List.length_nil, List.replicate, List.getElem?_cons_zero, List.getElem?_cons_succ, List.set_cons_zero, List.set_cons_succ, List.getD_cons_zero, List.getD_cons_succ, Nat.reduceAdd, Nat.reduceSub, Nat.zero_add, true_and, and_true, Bool.not_true, Bool.not_false, if_true, if_false, Bool.false_eq_true, reduceIte, decide_eq_true_eq, Bool.not_eq_true', decide_eq_false_iff_not, eqV_int, eqV_str, eqV_bl, decide_true, reduceCtorEq, not_true_eq_false, not_false_eq_true, Bool.not_eq_true, List.not_mem_nil, false_implies, implies_true, Int.reduceNeg, Int.reduceToNat, Int.reducePow, Int.reduceMul, Int.reduceAdd, draw_i, ix_t0, ix_t1, ix_t2, ix_t3, ix_m3, ix_m4, sn_ball_box, sn_cell_box, sn_cell_ball, sn_ball_cell, sn_box_ball, sn_box_cell, decide_false, wLc, wiSeq, wiRange1, wipeE, fTuple]
    refine rp hp8 (by decide) mvk (by rw [mv.2.2.2.1]; omega) ?_
    refine lc_map vec (fun u => vec (addI u s)) (show AnyM M2 from True.intro) (v :: vs) [] (by rw [hn]; simp only [List.length_nil]; omega) (fun u hu K2 hK2 => ?_) ?_
    · simp (disch := first | assumption | decide) only [wSeq, wNext, wAsg, wgName, wIfS, wB, wOp, wVar, wC, wCall, wCallK, wCons, wNil, wRet, wRetN, wDrop, wTup, wLst, wIf, wAnd, wOr, wNot, wAndV, wOrV, wNotV, wNeg, wChain, fI, fI0, addD, fLt, fLe, fGt, fGe, fIsB, wCB, fAbs, f2I, fInt, fIsq, wPar, wPar3, permD, startE, List.map_cons, List.map_nil, List.cons_append, List.nil_append, List.append_nil, List.length_cons, List.length_nil, List.replicate, List.getElem?_cons_zero, List.getElem?_cons_succ, List.set_cons_zero, List.set_cons_succ, List.getD_cons_zero, List.getD_cons_succ, Nat.reduceAdd, Nat.reduceSub, Nat.zero_add, true_and, and_true, Bool.not_true, Bool.not_false, if_true, if_false, Bool.false_eq_true, reduceIte, decide_eq_true_eq, Bool.not_eq_true', decide_eq_false_iff_not, eqV_int, eqV_str, eqV_bl, decide_true, reduceCtorEq, not_true_eq_false, not_false_eq_true, Bool.not_eq_true, List.not_mem_nil, false_implies, implies_true, Int.reduceNeg, Int.reduceToNat, Int.reducePow, Int.reduceMul, Int.reduceAdd, draw_i, ix_t0, ix_t1, ix_t2, ix_t3, ix_m3, ix_m4, sn_ball_box, sn_cell_box, sn_cell_ball, sn_ball_cell, sn_box_ball, sn_box_cell, decide_false, wLc, wiRange1, wipeE, fTuple]
      refine ⟨s.map .int, rfl, ?_⟩
      rw [List.length_map, hsk.1]
      show (p : Int) < _ ∧ -4611686018427387904 ≤ (p : Int) ∧ wLcL _ wYes _ AnyM _ (intsD 0 (p : Int).toNat) [] _ _
      refine ⟨by omega, by omega, ?_⟩
      rw [Int.toNat_natCast, nums_range]
      refine lc_nums (fun i => u.getD i 0 + s.getD i 0) (List.range p) (by rw [List.length_range]; omega) (fun i hi K3 hK3 => ?_) ?_
      · have hi := List.mem_range.mp hi
        simp (disch := first | assumption | decide) only [wSeq, wNext, wAsg, wgName, wIfS, wB, wOp, wVar, wC, wCall, wCallK, wCons, wNil, wRet, wRetN, wDrop, wTup, wLst, wIf, wAnd, wOr, wNot, wAndV, wOrV, wNotV, wNeg, wChain, fI, fI0, addD, fLt, fLe, fGt, fGe, fIsB, wCB, fAbs, f2I, fInt, fIsq, wPar, wPar3, permD, startE, List.map_cons, List.map_nil, List.cons_append, List.nil_append, List.append_nil, List.length_cons, List.length_nil, List.replicate, List.getElem?_cons_zero, List.getElem?_cons_succ, List.set_cons_zero, List.set_cons_succ, List.getD_cons_zero, List.getD_cons_succ, Nat.reduceAdd, Nat.reduceSub, Nat.zero_add, true_and, and_true, Bool.not_true, Bool.not_false, if_true, if_false, Bool.false_eq_true, reduceIte, decide_eq_true_eq, Bool.not_eq_true', decide_eq_false_iff_not, eqV_int, eqV_str, eqV_bl, decide_true, reduceCtorEq, not_true_eq_false, not_false_eq_true, Bool.not_eq_true, List.not_mem_nil, false_implies, implies_true, Int.reduceNeg, Int.reduceToNat, Int.reducePow, Int.reduceMul, Int.reduceAdd, draw_i, ix_t0, ix_t1, ix_t2, ix_t3, ix_m3, ix_m4, sn_ball_box, sn_cell_box, sn_cell_ball, sn_ball_cell, sn_box_ball, sn_box_cell, decide_false]
        refine ix_seqd rfl (by rw [hlen u hu]; exact hi) ?_
        refine ix_seqd rfl (by rw [hsk.1]; exact hi) ?_
        exact hK3
      refine ⟨_, rfl, ?_⟩
      rw [add_range (hlen u hu) hsk.1]
      exact hK2
    rw [List.nil_append]
    refine ⟨_, rfl, ?_⟩
    rw [emv]
    refine rp hp8 (by decide) mvk (by rw [mv.2.2.2.1]; omega) ?_
    refine ne_same ?_
    simp (disch := first | assumption | decide) only [wSeq, wNext, wAsg, wgName, wIfS, wB, wOp, wVar, wC, wCall, wCallK, wCons, wNil, wRet, wRetN, wDrop, wTup, wLst, wIf, wAnd, wOr, wNot, wAndV, wOrV, wNotV, wNeg, wChain, fI, fI0, addD, fLt, fLe, fGt, fGe, fIsB, wCB, fAbs, f2I, fInt, fIsq, wPar, wPar3, permD, startE, List.map_cons, List.map_nil, List.cons_append, List.nil_append, List.append_nil, List.length_cons, List.length_nil, List.replicate, List.getElem?_cons_zero, List.getElem?_cons_succ, List.set_cons_zero, List.set_cons_succ, List.getD_cons_zero, List.getD_cons_succ, Nat.reduceAdd, Nat.reduceSub, Nat.zero_add, true_and, and_true, Bool.not_true, Bool.not_false, if_true, if_false, Bool.false_eq_true, reduceIte, decide_eq_true_eq, Bool.not_eq_true', decide_eq_false_iff_not, eqV_int, eqV_str, eqV_bl, decide_true, reduceCtorEq, not_true_eq_false, not_false_eq_true, Bool.not_eq_true, List.not_mem_nil, false_implies, implies_true, Int.reduceNeg, Int.reduceToNat, Int.reducePow, Int.reduceMul, Int.reduceAdd, draw_i, ix_t0, ix_t1, ix_t2, ix_t3, ix_m3, ix_m4, sn_ball_box, sn_cell_box, sn_cell_ball, sn_ball_cell, sn_box_ball, sn_box_cell, decide_false]
    subst hK
    refine seq_gen fun K hK => ?_
    simp (disch := first | assumption | decide) only [wSeq, wNext, wAsg, wgName, wIfS, wB, wOp, wVar, wC, wCall, wCallK, wCons, wNil, wRet, wRetN, wDrop, wTup, wLst, wIf, wAnd, wOr, wNot, wAndV, wOrV, wNotV, wNeg, wChain, fI, fI0, addD, fLt, fLe, fGt, fGe, fIsB, wCB, fAbs, f2I, fInt, fIsq, wPar, wPar3, permD, startE, List.map_cons, List.map_nil, List.cons_append, List.nil_append, List.append_nil, List.length_cons, List.length_nil, List.replicate, List.getElem?_cons_zero, List.getElem?_cons_succ, List.set_cons_zero, List.set_cons_succ, List.getD_cons_zero, List.getD_cons_succ, Nat.reduceAdd, Nat.reduceSub, Nat.zero_add, true_and, and_true, Bool.not_true, Bool.not_false, if_true, if_false, Bool.false_eq_true, reduceIte, decide_eq_true_eq, Bool.not_eq_true', decide_eq_false_iff_not, eqV_int, eqV_str, eqV_bl, decide_true, reduceCtorEq, not_true_eq_false, not_false_eq_true, Bool.not_eq_true, List.not_mem_nil, false_implies, implies_true, Int.reduceNeg, Int.reduceToNat, Int.reducePow, Int.reduceMul, Int.reduceAdd, draw_i, ix_t0, ix_t1, ix_t2, ix_t3, ix_m3, ix_m4, sn_ball_box, sn_cell_box, sn_cell_ball, sn_ball_cell, sn_box_ball, sn_box_cell, decide_false, wLc, wiSeq, wipeE, fTuple]
    refine mid_i mv ?_
    refine ⟨midL p (v :: vs), s, rfl, smm, sms, ?_⟩
    have emm := mid_mvd (p := p) (vs := v :: vs) (s := s) (by simp) hlen hsk.1
    have ammk : vk p 5000 (addI (midL p (v :: vs)) s) := by
      rw [← emm]
      exact mid_vk (v := addI v s) (vs := mvd vs s) mv
    rw [emm]
    refine nev (by decide) ammk ?_
    simp (disch := first | assumption | decide) only [wSeq, wNext, wAsg, wgName, wIfS, wB, wOp, wVar, wC, wCall, wCallK, wCons, wNil, wRet, wRetN, wDrop, wTup, wLst, wIf, wAnd, wOr, wNot, wAndV, wOrV, wNotV, wNeg, wChain, fI, fI0, addD, fLt, fLe, fGt, fGe, fIsB, wCB, fAbs, f2I, fInt, fIsq, wPar, wPar3, permD, startE, List.map_cons, List.map_nil, List.cons_append, List.nil_append, List.append_nil, List.length_cons, List.length_nil, List.replicate, List.getElem?_cons_zero, List.getElem?_cons_succ, List.set_cons_zero, List.set_cons_succ, List.getD_cons_zero, List.getD_cons_succ, Nat.reduceAdd, Nat.reduceSub, Nat.zero_add, true_and, and_true, Bool.not_true, Bool.not_false, if_true, if_false, Bool.false_eq_true, reduceIte, decide_eq_true_eq, Bool.not_eq_true', decide_eq_false_iff_not, eqV_int, eqV_str, eqV_bl, decide_true, reduceCtorEq, not_true_eq_false, not_false_eq_true, Bool.not_eq_true, List.not_mem_nil, false_implies, implies_true, Int.reduceNeg, Int.reduceToNat, Int.reducePow, Int.reduceMul, Int.reduceAdd, draw_i, ix_t0, ix_t1, ix_t2, ix_t3, ix_m3, ix_m4, sn_ball_box, sn_cell_box, sn_cell_ball, sn_ball_cell, sn_box_ball, sn_box_cell, decide_false]
    subst hlo'
    refine bnd_i (v := addI v s) (vs := mvd vs s) rfl mv ?_
    dsimp only
    obtain ⟨m1, m2⟩ := ends_vk (v := addI v s) (vs := mvd vs s) mv.2.2.2.2
    rw [mn_mvd hlen hsk.1] at m1 ⊢
    rw [mx_mvd hlen hsk.1] at m2 ⊢
    refine lc_map vec (fun u => vec (addI u s)) (show AnyM M2 from True.intro) [mnL p v vs, mxL p v vs] [] (by show 2 ≤ 1000000; decide) (fun u hu K2 hK2 => ?_) ?_
    · simp (disch := first | assumption | decide) only [wSeq, wNext, wAsg, wgName, wIfS, wB, wOp, wVar, wC, wCall, wCallK, wCons, wNil, wRet, wRetN, wDrop, wTup, wLst, wIf, wAnd, wOr, wNot, wAndV, wOrV, wNotV, wNeg, wChain, fI, fI0, addD, fLt, fLe, fGt, fGe, fIsB, wCB, fAbs, f2I, fInt, fIsq, wPar, wPar3, permD, startE, List.map_cons, List.map_nil, List.cons_append, List.nil_append, List.append_nil, List.length_cons, List.length_nil, List.replicate, List.getElem?_cons_zero, List.getElem?_cons_succ, List.set_cons_zero, List.set_cons_succ, List.getD_cons_zero, List.getD_cons_succ, Nat.reduceAdd, Nat.reduceSub, Nat.zero_add, true_and, and_true, Bool.not_true, Bool.not_false, if_true, if_false, Bool.false_eq_true, reduceIte, decide_eq_true_eq, Bool.not_eq_true', decide_eq_false_iff_not, eqV_int, eqV_str, eqV_bl, decide_true, reduceCtorEq, not_true_eq_false, not_false_eq_true, Bool.not_eq_true, List.not_mem_nil, false_implies, implies_true, Int.reduceNeg, Int.reduceToNat, Int.reducePow, Int.reduceMul, Int.reduceAdd, draw_i, ix_t0, ix_t1, ix_t2, ix_t3, ix_m3, ix_m4, sn_ball_box, sn_cell_box, sn_cell_ball, sn_ball_cell, sn_box_ball, sn_box_cell, decide_false]
      exact ⟨u, s, rfl, vk_sm hp8 (by decide) (eb u hu), sms, hK2⟩
    rw [List.nil_append]
    refine ⟨_, rfl, ?_⟩
    refine nevs (p := p) (B := 5000) (vs := [addI (mnL p v vs) s, addI (mxL p v vs) s]) (by decide) (fun u hu => ?_) ?_
    · simp only [List.mem_cons, List.not_mem_nil, or_false] at hu
      rcases hu with rfl | rfl
      · exact m1
      · exact m2
    simp (disch := first | assumption | decide) only [wSeq, wNext, wAsg, wgName, wIfS, wB, wOp, wVar, wC, wCall, wCallK, wCons, wNil, wRet, wRetN, wDrop, wTup, wLst, wIf, wAnd, wOr, wNot, wAndV, wOrV, wNotV, wNeg, wChain, fI, fI0, addD, fLt, fLe, fGt, fGe, fIsB, wCB, fAbs, f2I, fInt, fIsq, wPar, wPar3, permD, startE, List.map_cons, List.map_nil, List.cons_append, List.nil_append, List.append_nil, List.length_cons, List.length_nil, List.replicate, List.getElem?_cons_zero, List.getElem?_cons_succ, List.set_cons_zero, List.set_cons_succ, List.getD_cons_zero, List.getD_cons_succ, Nat.reduceAdd, Nat.reduceSub, Nat.zero_add, true_and, and_true, Bool.not_true, Bool.not_false, if_true, if_false, Bool.false_eq_true, reduceIte, decide_eq_true_eq, Bool.not_eq_true', decide_eq_false_iff_not, eqV_int, eqV_str, eqV_bl, decide_true, reduceCtorEq, not_true_eq_false, not_false_eq_true, Bool.not_eq_true, List.not_mem_nil, false_implies, implies_true, Int.reduceNeg, Int.reduceToNat, Int.reducePow, Int.reduceMul, Int.reduceAdd, draw_i, ix_t0, ix_t1, ix_t2, ix_t3, ix_m3, ix_m4, sn_ball_box, sn_cell_box, sn_cell_ball, sn_ball_cell, sn_box_ball, sn_box_cell, decide_false]
    subst hK
    simp (disch := first | assumption | decide) only [wSeq, wNext, wAsg, wgName, wIfS, wB, wOp, wVar, wC, wCall, wCallK, wCons, wNil, wRet, wRetN, wDrop, wTup, wLst, wIf, wAnd, wOr, wNot, wAndV, wOrV, wNotV, wNeg, wChain, fI, fI0, addD, fLt, fLe, fGt, fGe, fIsB, wCB, fAbs, f2I, fInt, fIsq, wPar, wPar3, permD, startE, List.map_cons, List.map_nil, List.cons_append, List.nil_append, List.append_nil, List.length_cons, List.length_nil, List.replicate, List.getElem?_cons_zero, List.getElem?_cons_succ, List.set_cons_zero, List.set_cons_succ, List.getD_cons_zero, List.getD_cons_succ, Nat.reduceAdd, Nat.reduceSub, Nat.zero_add, true_and, and_true, Bool.not_true, Bool.not_false, if_true, if_false, Bool.false_eq_true, reduceIte, decide_eq_true_eq, Bool.not_eq_true', decide_eq_false_iff_not, eqV_int, eqV_str, eqV_bl, decide_true, reduceCtorEq, not_true_eq_false, not_false_eq_true, Bool.not_eq_true, List.not_mem_nil, false_implies, implies_true, Int.reduceNeg, Int.reduceToNat, Int.reducePow, Int.reduceMul, Int.reduceAdd, draw_i, ix_t0, ix_t1, ix_t2, ix_t3, ix_m3, ix_m4, sn_ball_box, sn_cell_box, sn_cell_ball, sn_ball_cell, sn_box_ball, sn_box_cell, decide_false]
    refine ⟨addI v s, mvd vs s, p, n, rfl, mv, hp, fun ix2 h2 => ?_⟩
    refine ⟨v, vs, p, n, rfl, hv, hp, fun ix3 h3 => ?_⟩
    rw [wide_mvd hlen hsk.1] at h2
    have hcm : col (addI v s :: mvd vs s) (wideAt p v vs) = (col (v :: vs) (wideAt p v vs)).map (· + s.getD (wideAt p v vs) 0) := col_mvd (vs := v :: vs) hlen hsk.1 (wide_lt hv hp)
    rw [hcm] at h2
    obtain rfl := ix_one h3 (ix_add h2)
    refine eqV_self (n := 2) (by decide) (hv_fit _ _) ?_
    simp (disch := first | assumption | decide) only [wSeq, wNext, wAsg, wgName, wIfS, wB, wOp, wVar, wC, wCall, wCallK, wCons, wNil, wRet, wRetN, wDrop, wTup, wLst, wIf, wAnd, wOr, wNot, wAndV, wOrV, wNotV, wNeg, wChain, fI, fI0, addD, fLt, fLe, fGt, fGe, fIsB, wCB, fAbs, f2I, fInt, fIsq, wPar, wPar3, permD, startE, List.map_cons, List.map_nil, List.cons_append, List.nil_append, List.append_nil, List.length_cons, List.length_nil, List.replicate, List.getElem?_cons_zero, List.getElem?_cons_succ, List.set_cons_zero, List.set_cons_succ, List.getD_cons_zero, List.getD_cons_succ, Nat.reduceAdd, Nat.reduceSub, Nat.zero_add, true_and, and_true, Bool.not_true, Bool.not_false, if_true, if_false, Bool.false_eq_true, reduceIte, decide_eq_true_eq, Bool.not_eq_true', decide_eq_false_iff_not, eqV_int, eqV_str, eqV_bl, decide_true, reduceCtorEq, not_true_eq_false, not_false_eq_true, Bool.not_eq_true, List.not_mem_nil, false_implies, implies_true, Int.reduceNeg, Int.reduceToNat, Int.reducePow, Int.reduceMul, Int.reduceAdd, draw_i, ix_t0, ix_t1, ix_t2, ix_t3, ix_m3, ix_m4, sn_ball_box, sn_cell_box, sn_cell_ball, sn_ball_cell, sn_box_ball, sn_box_cell, decide_false]
    refine rp (vs := v :: vs) hp8 (by decide) hvk (by omega) ?_
    rw [hkept]
    exact eq_same (q _ up)
end K02
namespace K02
open PySem L2 L3
theorem add_sub {p : Nat} {v u : List Int} (hv : v.length = p) (hu : u.length = p) : addI u (subI v u) = v := by
  have hs : (subI v u).length = p := by unfold subI; rw [List.length_zipWith]; omega
  rw [← add_range hu hs]
  refine List.ext_getElem (by rw [List.length_map, List.length_range, hv]) fun i h1 h2 => ?_
  rw [List.length_map, List.length_range] at h1
  rw [List.getElem_map, List.getElem_range, ← sub_range hv hu, range_get h1, List.getD_eq_getElem?_getD, List.getD_eq_getElem?_getD, List.getElem?_eq_getElem (by omega), List.getElem?_eq_getElem (by omega)]
  show u[i] + (v[i] - u[i]) = v[i]
  omega
theorem nums_of {p : Nat} : ∀ {ys : List D}, (∀ y ∈ ys, ∃ b : Int, y = .int b ∧ 0 ≤ b ∧ b < (p : Int)) → ∃ ps : List Nat, ys = nums ps ∧ ∀ i ∈ ps, i < p
  | [], _ => ⟨[], rfl, fun b h => by cases h⟩
  | y :: ys, h => by
    obtain ⟨b, rfl, b0, b1⟩ := h y List.mem_cons_self
    obtain ⟨ps, rfl, hp⟩ := nums_of fun z hz => h z (List.mem_cons_of_mem _ hz)
    obtain ⟨k, rfl⟩ := Int.eq_ofNat_of_zero_le b0
    refine ⟨k :: ps, rfl, fun i hi => ?_⟩
    rcases List.mem_cons.mp hi with rfl | hi
    · omega
    · exact hp i hi
theorem wp_law : ∀ ds M Q R, F_law ds M Q R → W_law { nx := fun _ M' => Q .non M', rt := Q, xr := lx R } (startE 12 ds) M := by
  rintro ds M Q R ⟨ns, rfl, hn, q⟩
  unfold W_law
  refine seq_gen fun K hK => ?_
  simp (disch := first | assumption | decide) only [wSeq, wNext, wAsg, wgName, wIfS, wB, wOp, wVar, wC, wCall, wCallK, wCons, wNil, wRet, wRetN, wDrop, wTup, wLst, wIf, wAnd, wOr, wNot, wAndV, wOrV, wNotV, wNeg, wChain, fI, fI0, addD, fLt, fLe, fGt, fGe, fIsB, wCB, fAbs, f2I, fInt, fIsq, wPar, wPar3, permD, startE, List.map_cons, List.map_nil, List.cons_append, List.nil_append, List.append_nil, List.length_cons, List.length_nil, List.replicate, List.getElem?_cons_zero, List.getElem?_cons_succ, List.set_cons_zero, List.set_cons_succ, List.getD_cons_zero, List.getD_cons_succ, Nat.reduceAdd, Nat.reduceSub, Nat.zero_add, true_and, and_true, Bool.not_true, Bool.not_false, if_true, if_false, Bool.false_eq_true, reduceIte, decide_eq_true_eq, Bool.not_eq_true', decide_eq_false_iff_not, eqV_int, eqV_str, eqV_bl, decide_true, reduceCtorEq, not_true_eq_false, not_false_eq_true, Bool.not_eq_true, List.not_mem_nil, false_implies, implies_true, Int.reduceNeg, Int.reduceToNat, Int.reducePow, Int.reduceMul, Int.reduceAdd, draw_i, ix_t0, ix_t1, ix_t2, ix_t3, ix_m3, ix_m4, sn_ball_box, sn_cell_box, sn_cell_ball, sn_ball_cell, sn_box_ball, sn_box_cell, decide_false]
  refine ⟨ns, rfl, hn, fun M1 a a0 hm => ?_⟩
  subst hK
  refine seq_gen fun K hK => ?_
  refine for_gen fun B hB => ?_
  simp (disch := first | assumption | decide) only [wSeq, wNext, wAsg, wgName, wIfS, wB, wOp, wVar, wC, wCall, wCallK, wCons, wNil, wRet, wRetN, wDrop, wTup, wLst, wIf, wAnd, wOr, wNot, wAndV, wOrV, wNotV, wNeg, wChain, fI, fI0, addD, fLt, fLe, fGt, fGe, fIsB, wCB, fAbs, f2I, fInt, fIsq, wPar, wPar3, permD, startE, List.map_cons, List.map_nil, List.cons_append, List.nil_append, List.append_nil, List.length_cons, List.length_nil, List.replicate, List.getElem?_cons_zero, List.getElem?_cons_succ, List.set_cons_zero, List.set_cons_succ, List.getD_cons_zero, List.getD_cons_succ, Nat.reduceAdd, Nat.reduceSub, Nat.zero_add, true_and, and_true, Bool.not_true, Bool.not_false, if_true, if_false, Bool.false_eq_true, reduceIte, decide_eq_true_eq, Bool.not_eq_true', decide_eq_false_iff_not, eqV_int, eqV_str, eqV_bl, decide_true, reduceCtorEq, not_true_eq_false, not_false_eq_true, Bool.not_eq_true, List.not_mem_nil, false_implies, implies_true, Int.reduceNeg, Int.reduceToNat, Int.reducePow, Int.reduceMul, Int.reduceAdd, draw_i, ix_t0, ix_t1, ix_t2, ix_t3, ix_m3, ix_m4, sn_ball_box, sn_cell_box, sn_cell_ball, sn_ball_cell, sn_box_ball, sn_box_cell, decide_false, wFor, wiRange1]
  refine ⟨ns.map .int, rfl, ?_⟩
  simp (disch := first | assumption | decide) only [wSeq, wNext, wAsg, wgName, wIfS, wB, wOp, wVar, wC, wCall, wCallK, wCons, wNil, wRet, wRetN, wDrop, wTup, wLst, wIf, wAnd, wOr, wNot, wAndV, wOrV, wNotV, wNeg, wChain, fI, fI0, addD, fLt, fLe, fGt, fGe, fIsB, wCB, fAbs, f2I, fInt, fIsq, wPar, wPar3, permD, startE, List.map_cons, List.map_nil, List.cons_append, List.nil_append, List.append_nil, List.length_cons, List.length_nil, List.replicate, List.getElem?_cons_zero, List.getElem?_cons_succ, List.set_cons_zero, List.set_cons_succ, List.getD_cons_zero, List.getD_cons_succ, Nat.reduceAdd, Nat.reduceSub, Nat.zero_add, true_and, and_true, Bool.not_true, Bool.not_false, if_true, if_false, Bool.false_eq_true, reduceIte, decide_eq_true_eq, Bool.not_eq_true', decide_eq_false_iff_not, eqV_int, eqV_str, eqV_bl, decide_true, reduceCtorEq, not_true_eq_false, not_false_eq_true, Bool.not_eq_true, List.not_mem_nil, false_implies, implies_true, Int.reduceNeg, Int.reduceToNat, Int.reducePow, Int.reduceMul, Int.reduceAdd, draw_i, ix_t0, ix_t1, ix_t2, ix_t3, ix_m3, ix_m4, sn_ball_box, sn_cell_box, sn_cell_ball, sn_ball_cell, sn_box_ball, sn_box_cell, decide_false]
  obtain ⟨c, ec, c0, c1⟩ : ∃ c : Int, c = 2 + (if 2 < ((ns.map D.int).length : Int) then 1 else 0) ∧ 0 ≤ c ∧ c ≤ 3 := ⟨_, rfl, by split <;> omega, by split <;> omega⟩
  rw [← ec]
  refine ⟨by omega, by omega, ?_⟩
  refine loop_ix (fun i ρ' M' => M' a = some (.drw a0) ∧ ∃ v2 v3 v4 v5 v6 v7 v8 v9 : Option D, ρ' = [some (.lst (ns.map .int)), some (.tok a), v2, v3, v4, v5, v6, v7, v8, v9, none, none]) ?_ ?_ ⟨hm, none, none, none, none, none, none, none, none, rfl⟩
  · rintro i d ρ' M' hi ⟨hm, v2, v3, v4, v5, v6, v7, v8, v9, rfl⟩
    refine ⟨True.intro, fun K' hK' => ?_⟩
    simp only [wgName, List.set_cons_succ, List.set_cons_zero]
    subst hB
    refine seq_gen fun K hK => ?_
    simp (disch := first | assumption | decide) only [wSeq, wNext, wAsg, wgName, wIfS, wB, wOp, wVar, wC, wCall, wCallK, wCons, wNil, wRet, wRetN, wDrop, wTup, wLst, wIf, wAnd, wOr, wNot, wAndV, wOrV, wNotV, wNeg, wChain, fI, fI0, addD, fLt, fLe, fGt, fGe, fIsB, wCB, fAbs, f2I, fInt, fIsq, wPar, wPar3, permD, startE, List.map_cons, List.map_nil, List.cons_append, List.nil_append, List.append_nil, List.length_cons, List.length_nil, List.replicate, List.getElem?_cons_zero, List.getElem?_cons_succ, List.set_cons_zero, List.set_cons_succ, List.getD_cons_zero, List.getD_cons_succ, Nat.reduceAdd, Nat.reduceSub, Nat.zero_add, true_and, and_true, Bool.not_true, Bool.not_false, if_true, if_false, Bool.false_eq_true, reduceIte, decide_eq_true_eq, Bool.not_eq_true', decide_eq_false_iff_not, eqV_int, eqV_str, eqV_bl, decide_true, reduceCtorEq, not_true_eq_false, not_false_eq_true, Bool.not_eq_true, List.not_mem_nil, false_implies, implies_true, Int.reduceNeg, Int.reduceToNat, Int.reducePow, Int.reduceMul, Int.reduceAdd, draw_i, ix_t0, ix_t1, ix_t2, ix_t3, ix_m3, ix_m4, sn_ball_box, sn_cell_box, sn_cell_ball, sn_ball_cell, sn_box_ball, sn_box_cell, decide_false, wgTup, wgCons, wgNil]
    refine ⟨by decide, pick_q hm rfl (by show 0 < 6; decide) (by show 6 ≤ 1000000; decide) fun x hx => ⟨by decide, pick_q hm rfl (by show 0 < 6; decide) (by show 6 ≤ 1000000; decide) fun y hy => ⟨by decide, ?_⟩⟩⟩
    obtain ⟨p, rfl, p0, p1⟩ : ∃ p : Nat, x = .int (p : Int) ∧ 1 ≤ p ∧ p ≤ 8 := by
      simp only [List.mem_cons, List.not_mem_nil, or_false] at hx
      rcases hx with rfl | rfl | rfl | rfl | rfl | rfl
      · exact ⟨2, rfl, by decide, by decide⟩
      · exact ⟨3, rfl, by decide, by decide⟩
      · exact ⟨1, rfl, by decide, by decide⟩
      · exact ⟨4, rfl, by decide, by decide⟩
      · exact ⟨8, rfl, by decide, by decide⟩
      · exact ⟨5, rfl, by decide, by decide⟩
    obtain ⟨n, rfl, n0, n1⟩ : ∃ n : Nat, y = .int (n : Int) ∧ 1 ≤ n ∧ n ≤ 12 := by
      simp only [List.mem_cons, List.not_mem_nil, or_false] at hy
      rcases hy with rfl | rfl | rfl | rfl | rfl | rfl
      · exact ⟨3, rfl, by decide, by decide⟩
      · exact ⟨5, rfl, by decide, by decide⟩
      · exact ⟨1, rfl, by decide, by decide⟩
      · exact ⟨2, rfl, by decide, by decide⟩
      · exact ⟨8, rfl, by decide, by decide⟩
      · exact ⟨12, rfl, by decide, by decide⟩
    subst hK
    refine seq_gen fun K hK => ?_
    simp (disch := first | assumption | decide) only [wSeq, wNext, wAsg, wgName, wIfS, wB, wOp, wVar, wC, wCall, wCallK, wCons, wNil, wRet, wRetN, wDrop, wTup, wLst, wIf, wAnd, wOr, wNot, wAndV, wOrV, wNotV, wNeg, wChain, fI, fI0, addD, fLt, fLe, fGt, fGe, fIsB, wCB, fAbs, f2I, fInt, fIsq, wPar, wPar3, permD, startE, List.map_cons, List.map_nil, List.cons_append, List.nil_append, List.append_nil, List.length_cons, List.length_nil, List.replicate, List.getElem?_cons_zero, List.getElem?_cons_succ, List.set_cons_zero, List.set_cons_succ, List.getD_cons_zero, List.getD_cons_succ, Nat.reduceAdd, Nat.reduceSub, Nat.zero_add, true_and, and_true, Bool.not_true, Bool.not_false, if_true, if_false, Bool.false_eq_true, reduceIte, decide_eq_true_eq, Bool.not_eq_true', decide_eq_false_iff_not, eqV_int, eqV_str, eqV_bl, decide_true, reduceCtorEq, not_true_eq_false, not_false_eq_true, Bool.not_eq_true, List.not_mem_nil, false_implies, implies_true, Int.reduceNeg, Int.reduceToNat, Int.reducePow, Int.reduceMul, Int.reduceAdd, draw_i, ix_t0, ix_t1, ix_t2, ix_t3, ix_m3, ix_m4, sn_ball_box, sn_cell_box, sn_cell_ball, sn_ball_cell, sn_box_ball, sn_box_cell, decide_false, fTuple]
    refine ⟨a, a0, p, n, rfl, hm, p1, n1, fun vs hvl hvs => ⟨_, rfl, ?_⟩⟩
    have hvk : ∀ u ∈ vs, vk p 4900 u := hvs
    obtain ⟨v, vs', rfl⟩ : ∃ v vs', vs = v :: vs' := by
      cases vs with
      | nil => simp at hvl; omega
      | cons v vs' => exact ⟨v, vs', rfl⟩
    subst hK
    refine seq_gen fun K hK => ?_
    simp (disch := first | assumption | decide) only [wSeq, wNext, wAsg, wgName, wIfS, wB, wOp, wVar, wC, wCall, wCallK, wCons, wNil, wRet, wRetN, wDrop, wTup, wLst, wIf, wAnd, wOr, wNot, wAndV, wOrV, wNotV, wNeg, wChain, fI, fI0, addD, fLt, fLe, fGt, fGe, fIsB, wCB, fAbs, f2I, fInt, fIsq, wPar, wPar3, permD, startE, List.map_cons, List.map_nil, List.cons_append, List.nil_append, List.append_nil, List.length_cons, List.length_nil, List.replicate, List.getElem?_cons_zero, List.getElem?_cons_succ, List.set_cons_zero, List.set_cons_succ, List.getD_cons_zero, List.getD_cons_succ, Nat.reduceAdd, Nat.reduceSub, Nat.zero_add, true_and, and_true, Bool.not_true, Bool.not_false, if_true, if_false, Bool.false_eq_true, reduceIte, decide_eq_true_eq, Bool.not_eq_true', decide_eq_false_iff_not, eqV_int, eqV_str, eqV_bl, decide_true, reduceCtorEq, not_true_eq_false, not_false_eq_true, Bool.not_eq_true, List.not_mem_nil, false_implies, implies_true, Int.reduceNeg, Int.reduceToNat, Int.reducePow, Int.reduceMul, Int.reduceAdd, draw_i, ix_t0, ix_t1, ix_t2, ix_t3, ix_m3, ix_m4, sn_ball_box, sn_cell_box, sn_cell_ball, sn_ball_cell, sn_box_ball, sn_box_cell, decide_false]
    refine ⟨a, a0, v, vs', p, n, rfl, hm, ⟨p1, n0, n1, hvl, hvk⟩, p0, fun M2 up => ?_⟩
    have hm2 := up _ _ hm
    clear up
    simp (disch := first | assumption | decide) only [wSeq, wNext, wAsg, wgName, wIfS, wB, wOp, wVar, wC, wCall, wCallK, wCons, wNil, wRet, wRetN, wDrop, wTup, wLst, wIf, wAnd, wOr, wNot, wAndV, wOrV, wNotV, wNeg, wChain, fI, fI0, addD, fLt, fLe, fGt, fGe, fIsB, wCB, fAbs, f2I, fInt, fIsq, wPar, wPar3, permD, startE, List.map_cons, List.map_nil, List.cons_append, List.nil_append, List.append_nil, List.length_cons, List.length_nil, List.replicate, List.getElem?_cons_zero, List.getElem?_cons_succ, List.set_cons_zero, List.set_cons_succ, List.getD_cons_zero, List.getD_cons_succ, Nat.reduceAdd, Nat.reduceSub, Nat.zero_add, true_and, and_true, Bool.not_true, Bool.not_false, if_true, if_false, Bool.false_eq_true, reduceIte, decide_eq_true_eq, Bool.not_eq_true', decide_eq_false_iff_not, eqV_int, eqV_str, eqV_bl, decide_true, reduceCtorEq, not_true_eq_false, not_false_eq_true, Bool.not_eq_true, List.not_mem_nil, false_implies, implies_true, Int.reduceNeg, Int.reduceToNat, Int.reducePow, Int.reduceMul, Int.reduceAdd, draw_i, ix_t0, ix_t1, ix_t2, ix_t3, ix_m3, ix_m4, sn_ball_box, sn_cell_box, sn_cell_ball, sn_ball_cell, sn_box_ball, sn_box_cell, decide_false]
    subst hK
    refine seq_gen fun K hK => ?_
    simp (disch := first | assumption | decide) only [wSeq, wNext, wAsg, wgName, wIfS, wB, wOp, wVar, wC, wCall, wCallK, wCons, wNil, wRet, wRetN, wDrop, wTup, wLst, wIf, wAnd, wOr, wNot, wAndV, wOrV, wNotV, wNeg, wChain, fI, fI0, addD, fLt, fLe, fGt, fGe, fIsB, wCB, fAbs, f2I, fInt, fIsq, wPar, wPar3, permD, startE, List.map_cons, List.map_nil, List.cons_append, List.nil_append, List.append_nil, List.length_cons, List.length_nil, List.replicate, List.getElem?_cons_zero, List.getElem?_cons_succ, List.set_cons_zero, List.set_cons_succ, List.getD_cons_zero, List.getD_cons_succ, Nat.reduceAdd, Nat.reduceSub, Nat.zero_add, true_and, and_true, Bool.not_true, Bool.not_false, if_true, if_false, Bool.false_eq_true, reduceIte, decide_eq_true_eq, Bool.not_eq_true', decide_eq_false_iff_not, eqV_int, eqV_str, eqV_bl, decide_true, reduceCtorEq, not_true_eq_false, not_false_eq_true, Bool.not_eq_true, List.not_mem_nil, false_implies, implies_true, Int.reduceNeg, Int.reduceToNat, Int.reducePow, Int.reduceMul, Int.reduceAdd, draw_i, ix_t0, ix_t1, ix_t2, ix_t3, ix_m3, ix_m4, sn_ball_box, sn_cell_box, sn_cell_ball, sn_ball_cell, sn_box_ball, sn_box_cell, decide_false, wgTup, wgCons, wgNil]
    refine pick_q hm2 (es := (v :: vs').map vec) rfl (by rw [List.length_map]; omega) (by rw [List.length_map]; omega) fun x hx => pick_q hm2 (es := (v :: vs').map vec) rfl (by rw [List.length_map]; omega) (by rw [List.length_map]; omega) fun y hy => ⟨by decide, ?_⟩
    obtain ⟨one, ho, rfl⟩ := List.mem_map.mp hx
    obtain ⟨oth, ht, rfl⟩ := List.mem_map.mp hy
    have ok := hvk one ho
    have tk := hvk oth ht
    have so := vk_sm p1 (by decide) ok
    have st := vk_sm p1 (by decide) tk
    have dk : vk p 9800 (subI one oth) := ⟨by unfold subI; rw [List.length_zipWith, ok.1, tk.1]; omega, fun b hb => by
      rw [← sub_range ok.1 tk.1] at hb
      obtain ⟨i, hi, rfl⟩ := List.mem_map.mp hb
      have hi := List.mem_range.mp hi
      have h1 := ok.2 _ (getD_mem (i := i) (by rw [ok.1]; exact hi))
      have h2 := tk.2 _ (getD_mem (i := i) (by rw [tk.1]; exact hi))
      omega⟩
    subst hK
    refine seq_gen fun K hK => ?_
    simp (disch := first | assumption | decide) only [wSeq, wNext, wAsg, wgName, wIfS, wB, wOp, wVar, wC, wCall, wCallK, wCons, wNil, wRet, wRetN, wDrop, wTup, wLst, wIf, wAnd, wOr, wNot, wAndV, wOrV, wNotV, wNeg, wChain, fI, fI0, addD, fLt, fLe, fGt, fGe, fIsB, wCB, fAbs, f2I, fInt, fIsq, wPar, wPar3, permD, startE, List.map_cons, List.map_nil, List.cons_append, List.nil_append, List.append_nil, List.length_cons, List.length_nil, List.replicate, List.getElem?_cons_zero, List.getElem?_cons_succ, List.set_cons_zero, List.set_cons_succ, List.getD_cons_zero, List.getD_cons_succ, Nat.reduceAdd, Nat.reduceSub, Nat.zero_add, true_and, and_true, Bool.not_true, Bool.not_false, if_true, if_false, Bool.false_eq_true, reduceIte, decide_eq_true_eq, Bool.not_eq_true', decide_eq_false_iff_not, eqV_int, eqV_str, eqV_bl, decide_true, reduceCtorEq, not_true_eq_false, not_false_eq_true, Bool.not_eq_true, List.not_mem_nil, false_implies, implies_true, Int.reduceNeg, Int.reduceToNat, Int.reducePow, Int.reduceMul, Int.reduceAdd, draw_i, ix_t0, ix_t1, ix_t2, ix_t3, ix_m3, ix_m4, sn_ball_box, sn_cell_box, sn_cell_ball, sn_ball_cell, sn_box_ball, sn_box_cell, decide_false, wLc, wiRange1, wipeE, fTuple]
    refine ⟨by omega, by omega, ?_⟩
    rw [Int.toNat_natCast, nums_range]
    refine lc_nums (fun i => one.getD i 0 - oth.getD i 0) (List.range p) (by rw [List.length_range]; omega) (fun i hi K2 hK2 => ?_) ?_
    · have hi := List.mem_range.mp hi
      simp (disch := first | assumption | decide) only [wSeq, wNext, wAsg, wgName, wIfS, wB, wOp, wVar, wC, wCall, wCallK, wCons, wNil, wRet, wRetN, wDrop, wTup, wLst, wIf, wAnd, wOr, wNot, wAndV, wOrV, wNotV, wNeg, wChain, fI, fI0, addD, fLt, fLe, fGt, fGe, fIsB, wCB, fAbs, f2I, fInt, fIsq, wPar, wPar3, permD, startE, List.map_cons, List.map_nil, List.cons_append, List.nil_append, List.append_nil, List.length_cons, List.length_nil, List.replicate, List.getElem?_cons_zero, List.getElem?_cons_succ, List.set_cons_zero, List.set_cons_succ, List.getD_cons_zero, List.getD_cons_succ, Nat.reduceAdd, Nat.reduceSub, Nat.zero_add, true_and, and_true, Bool.not_true, Bool.not_false, if_true, if_false, Bool.false_eq_true, reduceIte, decide_eq_true_eq, Bool.not_eq_true', decide_eq_false_iff_not, eqV_int, eqV_str, eqV_bl, decide_true, reduceCtorEq, not_true_eq_false, not_false_eq_true, Bool.not_eq_true, List.not_mem_nil, false_implies, implies_true, Int.reduceNeg, Int.reduceToNat, Int.reducePow, Int.reduceMul, Int.reduceAdd, draw_i, ix_t0, ix_t1, ix_t2, ix_t3, ix_m3, ix_m4, sn_ball_box, sn_cell_box, sn_cell_ball, sn_ball_cell, sn_box_ball, sn_box_cell, decide_false]
      refine ix_seqd rfl (by rw [ok.1]; exact hi) ?_
      refine ix_seqd rfl (by rw [tk.1]; exact hi) ?_
      exact hK2
    rw [sub_range ok.1 tk.1]
    refine ⟨_, rfl, ?_⟩
    subst hK
    refine seq_gen fun K hK => ?_
    simp (disch := first | assumption | decide) only [wSeq, wNext, wAsg, wgName, wIfS, wB, wOp, wVar, wC, wCall, wCallK, wCons, wNil, wRet, wRetN, wDrop, wTup, wLst, wIf, wAnd, wOr, wNot, wAndV, wOrV, wNotV, wNeg, wChain, fI, fI0, addD, fLt, fLe, fGt, fGe, fIsB, wCB, fAbs, f2I, fInt, fIsq, wPar, wPar3, permD, startE, List.map_cons, List.map_nil, List.cons_append, List.nil_append, List.append_nil, List.length_cons, List.length_nil, List.replicate, List.getElem?_cons_zero, List.getElem?_cons_succ, List.set_cons_zero, List.set_cons_succ, List.getD_cons_zero, List.getD_cons_succ, Nat.reduceAdd, Nat.reduceSub, Nat.zero_add, true_and, and_true, Bool.not_true, Bool.not_false, if_true, if_false, Bool.false_eq_true, reduceIte, decide_eq_true_eq, Bool.not_eq_true', decide_eq_false_iff_not, eqV_int, eqV_str, eqV_bl, decide_true, reduceCtorEq, not_true_eq_false, not_false_eq_true, Bool.not_eq_true, List.not_mem_nil, false_implies, implies_true, Int.reduceNeg, Int.reduceToNat, Int.reducePow, Int.reduceMul, Int.reduceAdd, draw_i, ix_t0, ix_t1, ix_t2, ix_t3, ix_m3, ix_m4, sn_ball_box, sn_cell_box, sn_cell_ball, sn_ball_cell, sn_box_ball, sn_box_cell, decide_false]
    refine ⟨one, oth, rfl, so, st, ?_⟩
    refine rp1 p1 (by decide) dk ?_
    refine rp1 p1 (by decide) dk ?_
    refine ne_same ?_
    simp (disch := first | assumption | decide) only [wSeq, wNext, wAsg, wgName, wIfS, wB, wOp, wVar, wC, wCall, wCallK, wCons, wNil, wRet, wRetN, wDrop, wTup, wLst, wIf, wAnd, wOr, wNot, wAndV, wOrV, wNotV, wNeg, wChain, fI, fI0, addD, fLt, fLe, fGt, fGe, fIsB, wCB, fAbs, f2I, fInt, fIsq, wPar, wPar3, permD, startE, List.map_cons, List.map_nil, List.cons_append, List.nil_append, List.append_nil, List.length_cons, List.length_nil, List.replicate, List.getElem?_cons_zero, List.getElem?_cons_succ, List.set_cons_zero, List.set_cons_succ, List.getD_cons_zero, List.getD_cons_succ, Nat.reduceAdd, Nat.reduceSub, Nat.zero_add, true_and, and_true, Bool.not_true, Bool.not_false, if_true, if_false, Bool.false_eq_true, reduceIte, decide_eq_true_eq, Bool.not_eq_true', decide_eq_false_iff_not, eqV_int, eqV_str, eqV_bl, decide_true, reduceCtorEq, not_true_eq_false, not_false_eq_true, Bool.not_eq_true, List.not_mem_nil, false_implies, implies_true, Int.reduceNeg, Int.reduceToNat, Int.reducePow, Int.reduceMul, Int.reduceAdd, draw_i, ix_t0, ix_t1, ix_t2, ix_t3, ix_m3, ix_m4, sn_ball_box, sn_cell_box, sn_cell_ball, sn_ball_cell, sn_box_ball, sn_box_cell, decide_false]
    refine ⟨one, oth, rfl, so, st, ?_⟩
    refine ⟨oth, subI one oth, rfl, st, vk_sm p1 (by decide) dk, ?_⟩
    rw [add_sub ok.1 tk.1]
    refine nev (by decide) ok ?_
    simp (disch := first | assumption | decide) only [wSeq, wNext, wAsg, wgName, wIfS, wB, wOp, wVar, wC, wCall, wCallK, wCons, wNil, wRet, wRetN, wDrop, wTup, wLst, wIf, wAnd, wOr, wNot, wAndV, wOrV, wNotV, wNeg, wChain, fI, fI0, addD, fLt, fLe, fGt, fGe, fIsB, wCB, fAbs, f2I, fInt, fIsq, wPar, wPar3, permD, startE, List.map_cons, List.map_nil, List.cons_append, List.nil_append, List.append_nil, List.length_cons, List.length_nil, List.replicate, List.getElem?_cons_zero, List.getElem?_cons_succ, List.set_cons_zero, List.set_cons_succ, List.getD_cons_zero, List.getD_cons_succ, Nat.reduceAdd, Nat.reduceSub, Nat.zero_add, true_and, and_true, Bool.not_true, Bool.not_false, if_true, if_false, Bool.false_eq_true, reduceIte, decide_eq_true_eq, Bool.not_eq_true', decide_eq_false_iff_not, eqV_int, eqV_str, eqV_bl, decide_true, reduceCtorEq, not_true_eq_false, not_false_eq_true, Bool.not_eq_true, List.not_mem_nil, false_implies, implies_true, Int.reduceNeg, Int.reduceToNat, Int.reducePow, Int.reduceMul, Int.reduceAdd, draw_i, ix_t0, ix_t1, ix_t2, ix_t3, ix_m3, ix_m4, sn_ball_box, sn_cell_box, sn_cell_ball, sn_ball_cell, sn_box_ball, sn_box_cell, decide_false]
    subst hK
    refine seq_gen fun K hK => ?_
    simp (disch := first | assumption | decide) only [wSeq, wNext, wAsg, wgName, wIfS, wB, wOp, wVar, wC, wCall, wCallK, wCons, wNil, wRet, wRetN, wDrop, wTup, wLst, wIf, wAnd, wOr, wNot, wAndV, wOrV, wNotV, wNeg, wChain, fI, fI0, addD, fLt, fLe, fGt, fGe, fIsB, wCB, fAbs, f2I, fInt, fIsq, wPar, wPar3, permD, startE, List.map_cons, List.map_nil, List.cons_append, List.nil_append, List.append_nil, List.length_cons, List.length_nil, List.replicate, List.getElem?_cons_zero, List.getElem?_cons_succ, List.set_cons_zero, List.set_cons_succ, List.getD_cons_zero, List.getD_cons_succ, Nat.reduceAdd, Nat.reduceSub, Nat.zero_add, true_and, and_true, Bool.not_true, Bool.not_false, if_true, if_false, Bool.false_eq_true, reduceIte, decide_eq_true_eq, Bool.not_eq_true', decide_eq_false_iff_not, eqV_int, eqV_str, eqV_bl, decide_true, reduceCtorEq, not_true_eq_false, not_false_eq_true, Bool.not_eq_true, List.not_mem_nil, false_implies, implies_true, Int.reduceNeg, Int.reduceToNat, Int.reducePow, Int.reduceMul, Int.reduceAdd, draw_i, ix_t0, ix_t1, ix_t2, ix_t3, ix_m3, ix_m4, sn_ball_box, sn_cell_box, sn_cell_ball, sn_ball_cell, sn_box_ball, sn_box_cell, decide_false, wLc, wiRange1, wipeE, fTuple]
    intro k k0 k1
    refine ⟨by omega, by omega, ?_⟩
    refine lc_any (fun _ y => ∃ b : Int, y = .int b ∧ 0 ≤ b ∧ b < (p : Int)) True.intro _ [] ?_ (fun d hd K2 hK2 => ?_) fun ys hy1 hy2 => ?_
    · rw [intsD_len]
      simp only [List.length_nil]
      omega
    · simp (disch := first | assumption | decide) only [wSeq, wNext, wAsg, wgName, wIfS, wB, wOp, wVar, wC, wCall, wCallK, wCons, wNil, wRet, wRetN, wDrop, wTup, wLst, wIf, wAnd, wOr, wNot, wAndV, wOrV, wNotV, wNeg, wChain, fI, fI0, addD, fLt, fLe, fGt, fGe, fIsB, wCB, fAbs, f2I, fInt, fIsq, wPar, wPar3, permD, startE, List.map_cons, List.map_nil, List.cons_append, List.nil_append, List.append_nil, List.length_cons, List.length_nil, List.replicate, List.getElem?_cons_zero, List.getElem?_cons_succ, List.set_cons_zero, List.set_cons_succ, List.getD_cons_zero, List.getD_cons_succ, Nat.reduceAdd, Nat.reduceSub, Nat.zero_add, true_and, and_true, Bool.not_true, Bool.not_false, if_true, if_false, Bool.false_eq_true, reduceIte, decide_eq_true_eq, Bool.not_eq_true', decide_eq_false_iff_not, eqV_int, eqV_str, eqV_bl, decide_true, reduceCtorEq, not_true_eq_false, not_false_eq_true, Bool.not_eq_true, List.not_mem_nil, false_implies, implies_true, Int.reduceNeg, Int.reduceToNat, Int.reducePow, Int.reduceMul, Int.reduceAdd, draw_i, ix_t0, ix_t1, ix_t2, ix_t3, ix_m3, ix_m4, sn_ball_box, sn_cell_box, sn_cell_ball, sn_ball_cell, sn_box_ball, sn_box_cell, decide_false]
      refine (draw_i hm2 (by omega) (log_of (by omega) (by omega))).mpr fun k k0 k1 => ?_
      exact hK2 _ ⟨_, rfl, k0, k1⟩
    obtain ⟨ps, rfl, hps⟩ := nums_of (p := p) fun y hy => by
      obtain ⟨i, hi⟩ := List.mem_iff_getElem?.mp hy
      obtain ⟨_, _, h⟩ := hy2 i y hi
      exact h
    have pl : ps.length ≤ 64 := by
      unfold nums at hy1
      rw [List.length_map, intsD_len] at hy1
      omega
    clear hy2 hy1
    rw [List.nil_append]
    refine ⟨_, rfl, ?_⟩
    have hpo : ∀ i ∈ ps, i < one.length := fun i hi => by rw [ok.1]; exact hps i hi
    have atk : sm (atI' one ps) ∧ ∀ b ∈ atI' one ps, -4900 ≤ b ∧ b ≤ 4900 := by
      have h : ∀ b ∈ atI' one ps, -4900 ≤ b ∧ b ≤ 4900 := fun b hb => by
        obtain ⟨i, hi, rfl⟩ := List.mem_map.mp hb
        exact ok.2 _ (getD_mem (hpo i hi))
      exact ⟨⟨by unfold atI'; rw [List.length_map]; exact pl, fun b hb => by have := h b hb; omega⟩, h⟩
    have ak : vk (atI' one ps).length 4900 (atI' one ps) := ⟨rfl, atk.2⟩
    have rpa : ∀ (M : Mp) (Q' : KD), Q' (.str (shown (vec (atI' one ps)))) M → fRepr [vec (atI' one ps)] M Q' := fun M Q' h => by
      refine repr_of (n := 2) (by decide) (vec_shw ak (by decide)) ?_ h
      show costL ((atI' one ps).map D.int) + 4 ≤ _
      rw [ints_cost]
      have := atk.1.1
      omega
    subst hK
    simp (disch := first | assumption | decide) only [wSeq, wNext, wAsg, wgName, wIfS, wB, wOp, wVar, wC, wCall, wCallK, wCons, wNil, wRet, wRetN, wDrop, wTup, wLst, wIf, wAnd, wOr, wNot, wAndV, wOrV, wNotV, wNeg, wChain, fI, fI0, addD, fLt, fLe, fGt, fGe, fIsB, wCB, fAbs, f2I, fInt, fIsq, wPar, wPar3, permD, startE, List.map_cons, List.map_nil, List.cons_append, List.nil_append, List.append_nil, List.length_cons, List.length_nil, List.replicate, List.getElem?_cons_zero, List.getElem?_cons_succ, List.set_cons_zero, List.set_cons_succ, List.getD_cons_zero, List.getD_cons_succ, Nat.reduceAdd, Nat.reduceSub, Nat.zero_add, true_and, and_true, Bool.not_true, Bool.not_false, if_true, if_false, Bool.false_eq_true, reduceIte, decide_eq_true_eq, Bool.not_eq_true', decide_eq_false_iff_not, eqV_int, eqV_str, eqV_bl, decide_true, reduceCtorEq, not_true_eq_false, not_false_eq_true, Bool.not_eq_true, List.not_mem_nil, false_implies, implies_true, Int.reduceNeg, Int.reduceToNat, Int.reducePow, Int.reduceMul, Int.reduceAdd, draw_i, ix_t0, ix_t1, ix_t2, ix_t3, ix_m3, ix_m4, sn_ball_box, sn_cell_box, sn_cell_ball, sn_ball_cell, sn_box_ball, sn_box_cell, decide_false, wLc, wiSeq, wipeE, fTuple]
    refine ⟨one, ps, rfl, so, pl, hpo, ?_⟩
    refine rpa _ _ ?_
    refine lc_nums (fun i => one.getD i 0) ps (by omega) (fun i hi K2 hK2 => ?_) ?_
    · simp (disch := first | assumption | decide) only [wSeq, wNext, wAsg, wgName, wIfS, wB, wOp, wVar, wC, wCall, wCallK, wCons, wNil, wRet, wRetN, wDrop, wTup, wLst, wIf, wAnd, wOr, wNot, wAndV, wOrV, wNotV, wNeg, wChain, fI, fI0, addD, fLt, fLe, fGt, fGe, fIsB, wCB, fAbs, f2I, fInt, fIsq, wPar, wPar3, permD, startE, List.map_cons, List.map_nil, List.cons_append, List.nil_append, List.append_nil, List.length_cons, List.length_nil, List.replicate, List.getElem?_cons_zero, List.getElem?_cons_succ, List.set_cons_zero, List.set_cons_succ, List.getD_cons_zero, List.getD_cons_succ, Nat.reduceAdd, Nat.reduceSub, Nat.zero_add, true_and, and_true, Bool.not_true, Bool.not_false, if_true, if_false, Bool.false_eq_true, reduceIte, decide_eq_true_eq, Bool.not_eq_true', decide_eq_false_iff_not, eqV_int, eqV_str, eqV_bl, decide_true, reduceCtorEq, not_true_eq_false, not_false_eq_true, Bool.not_eq_true, List.not_mem_nil, false_implies, implies_true, Int.reduceNeg, Int.reduceToNat, Int.reducePow, Int.reduceMul, Int.reduceAdd, draw_i, ix_t0, ix_t1, ix_t2, ix_t3, ix_m3, ix_m4, sn_ball_box, sn_cell_box, sn_cell_ball, sn_ball_cell, sn_box_ball, sn_box_cell, decide_false]
      exact ix_seqd rfl (hpo i hi) hK2
    refine ⟨_, rfl, ?_⟩
    refine rpa _ _ ?_
    refine ne_same ?_
    simp (disch := first | assumption | decide) only [wSeq, wNext, wAsg, wgName, wIfS, wB, wOp, wVar, wC, wCall, wCallK, wCons, wNil, wRet, wRetN, wDrop, wTup, wLst, wIf, wAnd, wOr, wNot, wAndV, wOrV, wNotV, wNeg, wChain, fI, fI0, addD, fLt, fLe, fGt, fGe, fIsB, wCB, fAbs, f2I, fInt, fIsq, wPar, wPar3, permD, startE, List.map_cons, List.map_nil, List.cons_append, List.nil_append, List.append_nil, List.length_cons, List.length_nil, List.replicate, List.getElem?_cons_zero, List.getElem?_cons_succ, List.set_cons_zero, List.set_cons_succ, List.getD_cons_zero, List.getD_cons_succ, Nat.reduceAdd, Nat.reduceSub, Nat.zero_add, true_and, and_true, Bool.not_true, Bool.not_false, if_true, if_false, Bool.false_eq_true, reduceIte, decide_eq_true_eq, Bool.not_eq_true', decide_eq_false_iff_not, eqV_int, eqV_str, eqV_bl, decide_true, reduceCtorEq, not_true_eq_false, not_false_eq_true, Bool.not_eq_true, List.not_mem_nil, false_implies, implies_true, Int.reduceNeg, Int.reduceToNat, Int.reducePow, Int.reduceMul, Int.reduceAdd, draw_i, ix_t0, ix_t1, ix_t2, ix_t3, ix_m3, ix_m4, sn_ball_box, sn_cell_box, sn_cell_ball, sn_ball_cell, sn_box_ball, sn_box_cell, decide_false]
    refine ⟨one, ps, rfl, so, pl, hpo, ?_⟩
    refine ⟨one, ps, rfl, so, pl, hpo, ?_⟩
    refine nev (by decide) ak ?_
    simp (disch := first | assumption | decide) only [wSeq, wNext, wAsg, wgName, wIfS, wB, wOp, wVar, wC, wCall, wCallK, wCons, wNil, wRet, wRetN, wDrop, wTup, wLst, wIf, wAnd, wOr, wNot, wAndV, wOrV, wNotV, wNeg, wChain, fI, fI0, addD, fLt, fLe, fGt, fGe, fIsB, wCB, fAbs, f2I, fInt, fIsq, wPar, wPar3, permD, startE, List.map_cons, List.map_nil, List.cons_append, List.nil_append, List.append_nil, List.length_cons, List.length_nil, List.replicate, List.getElem?_cons_zero, List.getElem?_cons_succ, List.set_cons_zero, List.set_cons_succ, List.getD_cons_zero, List.getD_cons_succ, Nat.reduceAdd, Nat.reduceSub, Nat.zero_add, true_and, and_true, Bool.not_true, Bool.not_false, if_true, if_false, Bool.false_eq_true, reduceIte, decide_eq_true_eq, Bool.not_eq_true', decide_eq_false_iff_not, eqV_int, eqV_str, eqV_bl, decide_true, reduceCtorEq, not_true_eq_false, not_false_eq_true, Bool.not_eq_true, List.not_mem_nil, false_implies, implies_true, Int.reduceNeg, Int.reduceToNat, Int.reducePow, Int.reduceMul, Int.reduceAdd, draw_i, ix_t0, ix_t1, ix_t2, ix_t3, ix_m3, ix_m4, sn_ball_box, sn_cell_box, sn_cell_ball, sn_ball_cell, sn_box_ball, sn_box_cell, decide_false]
    exact hK' _ _ ⟨hm2, _, _, _, _, _, _, _, _, rfl⟩
  · rintro ρ' M' ⟨hm, v2, v3, v4, v5, v6, v7, v8, v9, rfl⟩
    refine ⟨True.intro, ?_⟩
    show K _ _
    subst hK
    refine seq_gen fun K hK => ?_
    simp (disch := first | assumption | decide) only [wSeq, wNext, wAsg, wgName, wIfS, wB, wOp, wVar, wC, wCall, wCallK, wCons, wNil, wRet, wRetN, wDrop, wTup, wLst, wIf, wAnd, wOr, wNot, wAndV, wOrV, wNotV, wNeg, wChain, fI, fI0, addD, fLt, fLe, fGt, fGe, fIsB, wCB, fAbs, f2I, fInt, fIsq, wPar, wPar3, permD, startE, List.map_cons, List.map_nil, List.cons_append, List.nil_append, List.append_nil, List.length_cons, List.length_nil, List.replicate, List.getElem?_cons_zero, List.getElem?_cons_succ, List.set_cons_zero, List.set_cons_succ, List.getD_cons_zero, List.getD_cons_succ, Nat.reduceAdd, Nat.reduceSub, Nat.zero_add, true_and, and_true, Bool.not_true, Bool.not_false, if_true, if_false, Bool.false_eq_true, reduceIte, decide_eq_true_eq, Bool.not_eq_true', decide_eq_false_iff_not, eqV_int, eqV_str, eqV_bl, decide_true, reduceCtorEq, not_true_eq_false, not_false_eq_true, Bool.not_eq_true, List.not_mem_nil, false_implies, implies_true, Int.reduceNeg, Int.reduceToNat, Int.reducePow, Int.reduceMul, Int.reduceAdd, draw_i, ix_t0, ix_t1, ix_t2, ix_t3, ix_m3, ix_m4, sn_ball_box, sn_cell_box, sn_cell_ball, sn_ball_cell, sn_box_ball, sn_box_cell, decide_false]
    refine ⟨by decide, by decide, by decide, by decide, by decide, ?_⟩
    have fo : ∀ (x : List Int) (hx : x ∈ [[4, 0], [1, 1], [7, -2], [1, 5]]), vk 2 5000 x := by
      intro x hx
      simp only [List.mem_cons, List.not_mem_nil, or_false] at hx
      rcases hx with rfl | rfl | rfl | rfl <;> exact ⟨rfl, by decide⟩
    have v4 : vecs 2 4 5000 ([4, 0] :: [[1, 1], [7, -2], [1, 5]]) := ⟨by decide, by decide, by decide, rfl, fo⟩
    subst hK
    refine seq_gen fun K hK => ?_
    simp (disch := first | assumption | decide) only [wSeq, wNext, wAsg, wgName, wIfS, wB, wOp, wVar, wC, wCall, wCallK, wCons, wNil, wRet, wRetN, wDrop, wTup, wLst, wIf, wAnd, wOr, wNot, wAndV, wOrV, wNotV, wNeg, wChain, fI, fI0, addD, fLt, fLe, fGt, fGe, fIsB, wCB, fAbs, f2I, fInt, fIsq, wPar, wPar3, permD, startE, List.map_cons, List.map_nil, List.cons_append, List.nil_append, List.append_nil, List.length_cons, List.length_nil, List.replicate, List.getElem?_cons_zero, List.getElem?_cons_succ, List.set_cons_zero, List.set_cons_succ, List.getD_cons_zero, List.getD_cons_succ, Nat.reduceAdd, Nat.reduceSub, Nat.zero_add, true_and, and_true, Bool.not_true, Bool.not_false, if_true, if_false, Bool.false_eq_true, reduceIte, decide_eq_true_eq, Bool.not_eq_true', decide_eq_false_iff_not, eqV_int, eqV_str, eqV_bl, decide_true, reduceCtorEq, not_true_eq_false, not_false_eq_true, Bool.not_eq_true, List.not_mem_nil, false_implies, implies_true, Int.reduceNeg, Int.reduceToNat, Int.reducePow, Int.reduceMul, Int.reduceAdd, draw_i, ix_t0, ix_t1, ix_t2, ix_t3, ix_m3, ix_m4, sn_ball_box, sn_cell_box, sn_cell_ball, sn_ball_cell, sn_box_ball, sn_box_cell, decide_false]
    refine bnd_i (v := [4, 0]) (vs := [[1, 1], [7, -2], [1, 5]]) rfl v4 ?_
    have b1 : mnL 2 [4, 0] [[1, 1], [7, -2], [1, 5]] = [1, -2] := by decide
    have b2 : mxL 2 [4, 0] [[1, 1], [7, -2], [1, 5]] = [7, 5] := by decide
    have b3 : midL 2 [[4, 0], [1, 1], [7, -2], [1, 5]] = [3, 1] := by decide
    have b4 : wideAt 2 [4, 0] [[1, 1], [7, -2], [1, 5]] = 1 := by decide
    have v2 : ∀ u ∈ [[1, -2], [7, 5]], vk 2 5000 u := by
      intro x hx
      simp only [List.mem_cons, List.not_mem_nil, or_false] at hx
      rcases hx with rfl | rfl <;> exact ⟨rfl, by decide⟩
    rw [b1, b2]
    refine ⟨by decide, by decide, by decide, ?_⟩
    refine nevs (vs := [[1, -2], [7, 5]]) (by decide) v2 ?_
    dsimp only
    rw [if_neg (by decide)]
    refine mid_i (vs := [[4, 0], [1, 1], [7, -2], [1, 5]]) v4 ?_
    rw [b3]
    refine ⟨by decide, ?_⟩
    refine nev (v := [3, 1]) (p := 2) (B := 5000) (by decide) ⟨rfl, by decide⟩ ?_
    dsimp only
    rw [if_neg (by decide)]
    refine wp_i (v := [4, 0]) (vs := [[1, 1], [7, -2], [1, 5]]) v4 (by decide) ?_
    rw [b4]
    refine eqV_int.mpr ?_
    dsimp only
    rw [if_pos rfl, if_neg (by decide)]
    refine ⟨[4, 0], [[1, 1], [7, -2], [1, 5]], 2, 4, rfl, v4, by decide, fun ix hix => ?_⟩
    rw [b4] at hix
    obtain rfl := ix_one hix (show IxOf (col [[4, 0], [1, 1], [7, -2], [1, 5]] 1) [2, 0, 1, 3] by unfold IxOf ltP; decide)
    refine ⟨by decide, by decide, by decide, ?_⟩
    refine eqV_self (n := 2) (by decide) (hv_fit [2, 0, 1, 3] 2) ?_
    dsimp only
    rw [if_neg (by decide)]
    have v3 : vecs 2 3 5000 ([-1, 0] :: [[0, -3], [0, 0]]) := ⟨by decide, by decide, by decide, rfl, by
      intro x hx
      simp only [List.mem_cons, List.not_mem_nil, or_false] at hx
      rcases hx with rfl | rfl | rfl <;> exact ⟨rfl, by decide⟩⟩
    have v3' : vecs 2 3 5000 ([2, 2] :: [[2, 2], [2, 2]]) := ⟨by decide, by decide, by decide, rfl, by
      intro x hx
      simp only [List.mem_cons, List.not_mem_nil, or_false] at hx
      rcases hx with rfl | rfl | rfl <;> exact ⟨rfl, by decide⟩⟩
    have v1 : vecs 1 1 5000 ([5] :: []) := ⟨by decide, by decide, by decide, rfl, by
      intro x hx
      simp only [List.mem_cons, List.not_mem_nil, or_false] at hx
      rcases hx with rfl
      exact ⟨rfl, by decide⟩⟩
    have vz : vecs 2 2 5000 ([0, 0] :: [[3, -3]]) := ⟨by decide, by decide, by decide, rfl, by
      intro x hx
      simp only [List.mem_cons, List.not_mem_nil, or_false] at hx
      rcases hx with rfl | rfl <;> exact ⟨rfl, by decide⟩⟩
    subst hK
    refine seq_gen fun K hK => ?_
    simp (disch := first | assumption | decide) only [wSeq, wNext, wAsg, wgName, wIfS, wB, wOp, wVar, wC, wCall, wCallK, wCons, wNil, wRet, wRetN, wDrop, wTup, wLst, wIf, wAnd, wOr, wNot, wAndV, wOrV, wNotV, wNeg, wChain, fI, fI0, addD, fLt, fLe, fGt, fGe, fIsB, wCB, fAbs, f2I, fInt, fIsq, wPar, wPar3, permD, startE, List.map_cons, List.map_nil, List.cons_append, List.nil_append, List.append_nil, List.length_cons, List.length_nil, List.replicate, List.getElem?_cons_zero, List.getElem?_cons_succ, List.set_cons_zero, List.set_cons_succ, List.getD_cons_zero, List.getD_cons_succ, Nat.reduceAdd, Nat.reduceSub, Nat.zero_add, true_and, and_true, Bool.not_true, Bool.not_false, if_true, if_false, Bool.false_eq_true, reduceIte, decide_eq_true_eq, Bool.not_eq_true', decide_eq_false_iff_not, eqV_int, eqV_str, eqV_bl, decide_true, reduceCtorEq, not_true_eq_false, not_false_eq_true, Bool.not_eq_true, List.not_mem_nil, false_implies, implies_true, Int.reduceNeg, Int.reduceToNat, Int.reducePow, Int.reduceMul, Int.reduceAdd, draw_i, ix_t0, ix_t1, ix_t2, ix_t3, ix_m3, ix_m4, sn_ball_box, sn_cell_box, sn_cell_ball, sn_ball_cell, sn_box_ball, sn_box_cell, decide_false]
    refine ⟨by decide, by decide, by decide, by decide, ?_⟩
    refine mid_i (vs := [[-1, 0], [0, -3], [0, 0]]) v3 ?_
    rw [show midL 2 [[-1, 0], [0, -3], [0, 0]] = [-1, -1] by decide]
    refine ⟨by decide, ?_⟩
    refine nev (v := [-1, -1]) (p := 2) (B := 5000) (by decide) ⟨rfl, by decide⟩ ?_
    dsimp only
    rw [if_neg (by decide)]
    refine ⟨by decide, by decide, by decide, by decide, ?_⟩
    refine ⟨[2, 2], [[2, 2], [2, 2]], 2, 3, rfl, v3', by decide, fun ix hix => ?_⟩
    rw [show wideAt 2 [2, 2] [[2, 2], [2, 2]] = 0 by decide] at hix
    obtain rfl := ix_one hix (show IxOf (col [[2, 2], [2, 2], [2, 2]] 0) [0, 1, 2] by unfold IxOf ltP; decide)
    refine ⟨by decide, by decide, by decide, ?_⟩
    refine eqV_self (n := 2) (by decide) (hv_fit [0, 1, 2] 2) ?_
    dsimp only
    rw [if_neg (by decide)]
    subst hK
    simp (disch := first | assumption | decide) only [wSeq, wNext, wAsg, wgName, wIfS, wB, wOp, wVar, wC, wCall, wCallK, wCons, wNil, wRet, wRetN, wDrop, wTup, wLst, wIf, wAnd, wOr, wNot, wAndV, wOrV, wNotV, wNeg, wChain, fI, fI0, addD, fLt, fLe, fGt, fGe, fIsB, wCB, fAbs, f2I, fInt, fIsq, wPar, wPar3, permD, startE, List.map_cons, List.map_nil, List.cons_append, List.nil_append, List.append_nil, List.length_cons, List.length_nil, List.replicate, List.getElem?_cons_zero, List.getElem?_cons_succ, List.set_cons_zero, List.set_cons_succ, List.getD_cons_zero, List.getD_cons_succ, Nat.reduceAdd, Nat.reduceSub, Nat.zero_add, true_and, and_true, Bool.not_true, Bool.not_false, if_true, if_false, Bool.false_eq_true, reduceIte, decide_eq_true_eq, Bool.not_eq_true', decide_eq_false_iff_not, eqV_int, eqV_str, eqV_bl, decide_true, reduceCtorEq, not_true_eq_false, not_false_eq_true, Bool.not_eq_true, List.not_mem_nil, false_implies, implies_true, Int.reduceNeg, Int.reduceToNat, Int.reducePow, Int.reduceMul, Int.reduceAdd, draw_i, ix_t0, ix_t1, ix_t2, ix_t3, ix_m3, ix_m4, sn_ball_box, sn_cell_box, sn_cell_ball, sn_ball_cell, sn_box_ball, sn_box_cell, decide_false]
    refine ⟨by decide, by decide, ?_⟩
    refine ⟨[5], [], 1, 1, rfl, v1, by decide, fun ix hix => ?_⟩
    rw [show wideAt 1 [5] [] = 0 by decide] at hix
    obtain rfl := ix_one hix (show IxOf (col [[5]] 0) [0] by unfold IxOf ltP; decide)
    refine ⟨by decide, by decide, by decide, ?_⟩
    refine eqV_self (n := 2) (by decide) (hv_fit [0] 1) ?_
    refine ⟨by decide, by decide, by decide, ?_⟩
    refine wp_i (v := [0, 0]) (vs := [[3, -3]]) vz (by decide) ?_
    rw [show wideAt 2 [0, 0] [[3, -3]] = 0 by decide]
    refine eqV_int.mpr ?_
    rw [if_neg Bool.false_ne_true]
    exact q M'
end K02
namespace K02
open PySem L2 L3
theorem len_differences : ∀ ds M Q E, F_differences ds M Q E → ds.length = 2 := by
  rintro ds M Q E ⟨_, _, rfl, _⟩
  rfl
theorem len_differencesK : ∀ ds M Q E, F_differencesK ds M Q E → ds.length = 2 := by
  rintro ds M Q E ⟨_, _, rfl, _⟩
  rfl
theorem len_moved_vector : ∀ ds M Q E, F_moved_vector ds M Q E → ds.length = 2 := by
  rintro ds M Q E ⟨_, _, rfl, _⟩
  rfl
theorem len_at_places : ∀ ds M Q E, F_at_places ds M Q E → ds.length = 2 := by
  rintro ds M Q E ⟨_, _, rfl, _⟩
  rfl
theorem len_bounds_of : ∀ ds M Q E, F_bounds_of ds M Q E → ds.length = 1 := by
  rintro ds M Q E ⟨_, _, _, _, rfl, _⟩
  rfl
theorem len_middle_of : ∀ ds M Q E, F_middle_of ds M Q E → ds.length = 1 := by
  rintro ds M Q E ⟨_, _, _, rfl, _⟩
  rfl
theorem len_widest_place : ∀ ds M Q E, F_widest_place ds M Q E → ds.length = 1 := by
  rintro ds M Q E ⟨_, _, _, _, rfl, _⟩
  rfl
theorem len_halves_of : ∀ ds M Q E, F_halves_of ds M Q E → ds.length = 1 := by
  rintro ds M Q E ⟨_, _, _, _, rfl, _⟩
  rfl
theorem len__law_heap : ∀ ds M Q E, F__law_heap ds M Q E → ds.length = 1 := by
  rintro ds M Q E ⟨_, rfl, _⟩
  rfl
theorem len__law_pick : ∀ ds M Q E, pickF ds M Q E → ds.length = 2 := by
  rintro ds M Q E ⟨_, _, _, _, rfl, _⟩
  rfl
theorem len__law_vectors : ∀ ds M Q E, F__law_vectors ds M Q E → ds.length = 3 := by
  rintro ds M Q E ⟨_, _, _, _, rfl, _⟩
  rfl
theorem len__law_floor : ∀ ds M Q E, F__law_floor ds M Q E → ds.length = 2 := by
  rintro ds M Q E ⟨_, _, rfl, _⟩
  rfl
theorem len__law_bounds_due : ∀ ds M Q E, F__law_bounds_due ds M Q E → ds.length = 1 := by
  rintro ds M Q E ⟨_, _, _, _, rfl, _⟩
  rfl
theorem len__law_halves_right : ∀ ds M Q E, F__law_halves_right ds M Q E → ds.length = 2 := by
  rintro ds M Q E ⟨_, _, _, _, _, rfl, _⟩
  rfl
theorem len__law_lot_right : ∀ ds M Q E, F__law_lot_right ds M Q E → ds.length = 2 := by
  rintro ds M Q E ⟨_, _, _, _, _, _, rfl, _⟩
  rfl
theorem len_law : ∀ ds M Q E, F_law ds M Q E → ds.length = 1 := by
  rintro ds M Q E ⟨_, rfl, _⟩
  rfl
/-! ### all together -/
theorem all_mk {l : PySem.W.OpenLaw} (hl : l.prog = PySem.Challenge.pw_nonearer_k02_whole_several_vectors) {w : World} {K : PySem.W.Frag} {h : Heap} {mg : Str → Option Value} {fa : Addr} (X : K.In h) (G : h.Ns mainGlobals mg) (hfa : mg "law" = some (.ref fa))
    {f0 : Addr} {od0 an0 : Option Addr} {sl0 : Array (Option Value)} {oc0 kV0 dc0 pm0 cd0 ct0 : Value}
    {f1 : Addr} {od1 an1 : Option Addr} {sl1 : Array (Option Value)} {oc1 kV1 dc1 pm1 cd1 ct1 : Value}
    {f2 : Addr} {od2 an2 : Option Addr} {sl2 : Array (Option Value)} {oc2 kV2 dc2 pm2 cd2 ct2 : Value}
    {f3 : Addr} {od3 an3 : Option Addr} {sl3 : Array (Option Value)} {oc3 kV3 dc3 pm3 cd3 ct3 : Value}
    {f4 : Addr} {od4 an4 : Option Addr} {sl4 : Array (Option Value)} {oc4 kV4 dc4 pm4 cd4 ct4 : Value}
    {f5 : Addr} {od5 an5 : Option Addr} {sl5 : Array (Option Value)} {oc5 kV5 dc5 pm5 cd5 ct5 : Value}
    {f6 : Addr} {od6 an6 : Option Addr} {sl6 : Array (Option Value)} {oc6 kV6 dc6 pm6 cd6 ct6 : Value}
    {f7 : Addr} {od7 an7 : Option Addr} {sl7 : Array (Option Value)} {oc7 kV7 dc7 pm7 cd7 ct7 : Value}
    {f8 : Addr} {od8 an8 : Option Addr} {sl8 : Array (Option Value)} {oc8 kV8 dc8 pm8 cd8 ct8 : Value}
    {f9 : Addr} {od9 an9 : Option Addr} {sl9 : Array (Option Value)} {oc9 kV9 dc9 pm9 cd9 ct9 : Value}
    {f10 : Addr} {od10 an10 : Option Addr} {sl10 : Array (Option Value)} {oc10 kV10 dc10 pm10 cd10 ct10 : Value}
    {f11 : Addr} {od11 an11 : Option Addr} {sl11 : Array (Option Value)} {oc11 kV11 dc11 pm11 cd11 ct11 : Value}
    {f12 : Addr} {od12 an12 : Option Addr} {sl12 : Array (Option Value)} {oc12 kV12 dc12 pm12 cd12 ct12 : Value}
    {f13 : Addr} {od13 an13 : Option Addr} {sl13 : Array (Option Value)} {oc13 kV13 dc13 pm13 cd13 ct13 : Value}
    {f14 : Addr} {od14 an14 : Option Addr} {sl14 : Array (Option Value)} {oc14 kV14 dc14 pm14 cd14 ct14 : Value}
    {f15 : Addr} {od15 an15 : Option Addr} {sl15 : Array (Option Value)} {oc15 kV15 dc15 pm15 cd15 ct15 : Value}
    (a0 : PySem.W.nsIn K mainGlobals "differences" = some (some (.ref f0))) (l0 : K.lookup f0 = some ⟨oc0, od0, .func (PySem.W.fnOf "differences" "differences" (defArgs s_differences) (defBody s_differences) (defScope s_differences) .none kV0 dc0 pm0 an0 cd0 ct0), sl0⟩) (c0 : PySem.W.codeIn K cd0 "differences" = true) (k0 : PySem.W.keepIn K (.ref f0) = true)
    (a1 : PySem.W.nsIn K mainGlobals "moved_vector" = some (some (.ref f1))) (l1 : K.lookup f1 = some ⟨oc1, od1, .func (PySem.W.fnOf "moved_vector" "moved_vector" (defArgs s_moved_vector) (defBody s_moved_vector) (defScope s_moved_vector) .none kV1 dc1 pm1 an1 cd1 ct1), sl1⟩) (c1 : PySem.W.codeIn K cd1 "moved_vector" = true) (k1 : PySem.W.keepIn K (.ref f1) = true)
    (a2 : PySem.W.nsIn K mainGlobals "at_places" = some (some (.ref f2))) (l2 : K.lookup f2 = some ⟨oc2, od2, .func (PySem.W.fnOf "at_places" "at_places" (defArgs s_at_places) (defBody s_at_places) (defScope s_at_places) .none kV2 dc2 pm2 an2 cd2 ct2), sl2⟩) (c2 : PySem.W.codeIn K cd2 "at_places" = true) (k2 : PySem.W.keepIn K (.ref f2) = true)
    (a3 : PySem.W.nsIn K mainGlobals "bounds_of" = some (some (.ref f3))) (l3 : K.lookup f3 = some ⟨oc3, od3, .func (PySem.W.fnOf "bounds_of" "bounds_of" (defArgs s_bounds_of) (defBody s_bounds_of) (defScope s_bounds_of) .none kV3 dc3 pm3 an3 cd3 ct3), sl3⟩) (c3 : PySem.W.codeIn K cd3 "bounds_of" = true) (k3 : PySem.W.keepIn K (.ref f3) = true)
    (a4 : PySem.W.nsIn K mainGlobals "middle_of" = some (some (.ref f4))) (l4 : K.lookup f4 = some ⟨oc4, od4, .func (PySem.W.fnOf "middle_of" "middle_of" (defArgs s_middle_of) (defBody s_middle_of) (defScope s_middle_of) .none kV4 dc4 pm4 an4 cd4 ct4), sl4⟩) (c4 : PySem.W.codeIn K cd4 "middle_of" = true) (k4 : PySem.W.keepIn K (.ref f4) = true)
    (a5 : PySem.W.nsIn K mainGlobals "widest_place" = some (some (.ref f5))) (l5 : K.lookup f5 = some ⟨oc5, od5, .func (PySem.W.fnOf "widest_place" "widest_place" (defArgs s_widest_place) (defBody s_widest_place) (defScope s_widest_place) .none kV5 dc5 pm5 an5 cd5 ct5), sl5⟩) (c5 : PySem.W.codeIn K cd5 "widest_place" = true) (k5 : PySem.W.keepIn K (.ref f5) = true)
    (a6 : PySem.W.nsIn K mainGlobals "halves_of" = some (some (.ref f6))) (l6 : K.lookup f6 = some ⟨oc6, od6, .func (PySem.W.fnOf "halves_of" "halves_of" (defArgs s_halves_of) (defBody s_halves_of) (defScope s_halves_of) .none kV6 dc6 pm6 an6 cd6 ct6), sl6⟩) (c6 : PySem.W.codeIn K cd6 "halves_of" = true) (k6 : PySem.W.keepIn K (.ref f6) = true)
    (a7 : PySem.W.nsIn K mainGlobals "_law_heap" = some (some (.ref f7))) (l7 : K.lookup f7 = some ⟨oc7, od7, .func (PySem.W.fnOf "_law_heap" "_law_heap" (defArgs s__law_heap) (defBody s__law_heap) (defScope s__law_heap) .none kV7 dc7 pm7 an7 cd7 ct7), sl7⟩) (c7 : PySem.W.codeIn K cd7 "_law_heap" = true) (k7 : PySem.W.keepIn K (.ref f7) = true)
    (a8 : PySem.W.nsIn K mainGlobals "_law_draw" = some (some (.ref f8))) (l8 : K.lookup f8 = some ⟨oc8, od8, .func (PySem.W.fnOf "_law_draw" "_law_draw" (defArgs s__law_draw) (defBody s__law_draw) (defScope s__law_draw) .none kV8 dc8 pm8 an8 cd8 ct8), sl8⟩) (c8 : PySem.W.codeIn K cd8 "_law_draw" = true) (k8 : PySem.W.keepIn K (.ref f8) = true)
    (a9 : PySem.W.nsIn K mainGlobals "_law_pick" = some (some (.ref f9))) (l9 : K.lookup f9 = some ⟨oc9, od9, .func (PySem.W.fnOf "_law_pick" "_law_pick" (defArgs s__law_pick) (defBody s__law_pick) (defScope s__law_pick) .none kV9 dc9 pm9 an9 cd9 ct9), sl9⟩) (c9 : PySem.W.codeIn K cd9 "_law_pick" = true) (k9 : PySem.W.keepIn K (.ref f9) = true)
    (a10 : PySem.W.nsIn K mainGlobals "_law_vectors" = some (some (.ref f10))) (l10 : K.lookup f10 = some ⟨oc10, od10, .func (PySem.W.fnOf "_law_vectors" "_law_vectors" (defArgs s__law_vectors) (defBody s__law_vectors) (defScope s__law_vectors) .none kV10 dc10 pm10 an10 cd10 ct10), sl10⟩) (c10 : PySem.W.codeIn K cd10 "_law_vectors" = true) (k10 : PySem.W.keepIn K (.ref f10) = true)
    (a11 : PySem.W.nsIn K mainGlobals "_law_floor" = some (some (.ref f11))) (l11 : K.lookup f11 = some ⟨oc11, od11, .func (PySem.W.fnOf "_law_floor" "_law_floor" (defArgs s__law_floor) (defBody s__law_floor) (defScope s__law_floor) .none kV11 dc11 pm11 an11 cd11 ct11), sl11⟩) (c11 : PySem.W.codeIn K cd11 "_law_floor" = true) (k11 : PySem.W.keepIn K (.ref f11) = true)
    (a12 : PySem.W.nsIn K mainGlobals "_law_bounds_due" = some (some (.ref f12))) (l12 : K.lookup f12 = some ⟨oc12, od12, .func (PySem.W.fnOf "_law_bounds_due" "_law_bounds_due" (defArgs s__law_bounds_due) (defBody s__law_bounds_due) (defScope s__law_bounds_due) .none kV12 dc12 pm12 an12 cd12 ct12), sl12⟩) (c12 : PySem.W.codeIn K cd12 "_law_bounds_due" = true) (k12 : PySem.W.keepIn K (.ref f12) = true)
    (a13 : PySem.W.nsIn K mainGlobals "_law_halves_right" = some (some (.ref f13))) (l13 : K.lookup f13 = some ⟨oc13, od13, .func (PySem.W.fnOf "_law_halves_right" "_law_halves_right" (defArgs s__law_halves_right) (defBody s__law_halves_right) (defScope s__law_halves_right) .none kV13 dc13 pm13 an13 cd13 ct13), sl13⟩) (c13 : PySem.W.codeIn K cd13 "_law_halves_right" = true) (k13 : PySem.W.keepIn K (.ref f13) = true)
    (a14 : PySem.W.nsIn K mainGlobals "_law_lot_right" = some (some (.ref f14))) (l14 : K.lookup f14 = some ⟨oc14, od14, .func (PySem.W.fnOf "_law_lot_right" "_law_lot_right" (defArgs s__law_lot_right) (defBody s__law_lot_right) (defScope s__law_lot_right) .none kV14 dc14 pm14 an14 cd14 ct14), sl14⟩) (c14 : PySem.W.codeIn K cd14 "_law_lot_right" = true) (k14 : PySem.W.keepIn K (.ref f14) = true)
    (a15 : PySem.W.nsIn K mainGlobals "law" = some (some (.ref f15))) (l15 : K.lookup f15 = some ⟨oc15, od15, .func (PySem.W.fnOf "law" "law" (defArgs s_law) (defBody s_law) (defScope s_law) .none kV15 dc15 pm15 an15 cd15 ct15), sl15⟩) (c15 : PySem.W.codeIn K cd15 "law" = true) (k15 : PySem.W.keepIn K (.ref f15) = true)
    (z_abs : PySem.W.nsIn K mainGlobals "abs" = some none)
    (z_all : PySem.W.nsIn K mainGlobals "all" = some none)
    (z_bool : PySem.W.nsIn K mainGlobals "bool" = some none)
    (z_enumerate : PySem.W.nsIn K mainGlobals "enumerate" = some none)
    (z_int : PySem.W.nsIn K mainGlobals "int" = some none)
    (z_isinstance : PySem.W.nsIn K mainGlobals "isinstance" = some none)
    (z_len : PySem.W.nsIn K mainGlobals "len" = some none)
    (z_list : PySem.W.nsIn K mainGlobals "list" = some none)
    (z_max : PySem.W.nsIn K mainGlobals "max" = some none)
    (z_min : PySem.W.nsIn K mainGlobals "min" = some none)
    (z_range : PySem.W.nsIn K mainGlobals "range" = some none)
    (z_repr : PySem.W.nsIn K mainGlobals "repr" = some none)
    (z_sorted : PySem.W.nsIn K mainGlobals "sorted" = some none)
    (z_sum : PySem.W.nsIn K mainGlobals "sum" = some none)
    (z_tuple : PySem.W.nsIn K mainGlobals "tuple" = some none)
    (z_zip : PySem.W.nsIn K mainGlobals "zip" = some none)
    :
    ∃ fd : FuncData, (∀ (s : Shared) (v : Value), BindsTo s fd ⟨[v], []⟩ [("script", v)]) ∧ ∀ base : Heap, K.In base → base.Ns mainGlobals mg → FnG l.prog w K mg base 5 fa fd ["script"] (lift K F_law) := by
  have e := hfa.symm.trans (PySem.W.mg_of X G a15)
  cases e
  have T : Txt K mg (0 : Addr) := ⟨PySem.W.mg_none_of X G z_abs, PySem.W.mg_none_of X G z_all, PySem.W.mg_none_of X G z_bool, PySem.W.mg_none_of X G z_enumerate, PySem.W.mg_none_of X G z_int, PySem.W.mg_none_of X G z_isinstance, PySem.W.mg_none_of X G z_len, PySem.W.mg_none_of X G z_list, PySem.W.mg_none_of X G z_max, PySem.W.mg_none_of X G z_min, PySem.W.mg_none_of X G z_range, PySem.W.mg_none_of X G z_repr, PySem.W.mg_none_of X G z_sorted, PySem.W.mg_none_of X G z_sum, PySem.W.mg_none_of X G z_tuple, PySem.W.mg_none_of X G z_zip⟩
  refine ⟨PySem.W.fnOf "law" "law" (defArgs s_law) (defBody s_law) (defScope s_law) .none kV15 dc15 pm15 an15 cd15 ct15, fun s v => .of_eq rfl, fun base KB NB => ?_⟩
  have h_differences : Has l.prog w K mg base 1 "differences" s_differences ["one", "other"] F_differences := Has.mk' (fun_mk (st := s_differences) l0 c0 k0) (PySem.W.mg_of X G a0) (ok_differences (P := l.prog) (w := w) (base := base) (fun_mk (st := s_differences) l0 c0 k0) T len_differences wp_differences) fun _ _ _ _ _ _ us hl => match us, hl with | [_, _], _ => rfl
  have h_differencesK : Has l.prog w K mg base 1 "differences" s_differences ["one", "other"] F_differencesK := Has.mk' (fun_mk (st := s_differences) l0 c0 k0) (PySem.W.mg_of X G a0) (ok_differencesK (P := l.prog) (w := w) (base := base) (fun_mk (st := s_differences) l0 c0 k0) T len_differencesK wp_differencesK) fun _ _ _ _ _ _ us hl => match us, hl with | [_, _], _ => rfl
  have h_moved_vector : Has l.prog w K mg base 1 "moved_vector" s_moved_vector ["vector", "step"] F_moved_vector := Has.mk' (fun_mk (st := s_moved_vector) l1 c1 k1) (PySem.W.mg_of X G a1) (ok_moved_vector (P := l.prog) (w := w) (base := base) (fun_mk (st := s_moved_vector) l1 c1 k1) T len_moved_vector wp_moved_vector) fun _ _ _ _ _ _ us hl => match us, hl with | [_, _], _ => rfl
  have h_at_places : Has l.prog w K mg base 1 "at_places" s_at_places ["vector", "places"] F_at_places := Has.mk' (fun_mk (st := s_at_places) l2 c2 k2) (PySem.W.mg_of X G a2) (ok_at_places (P := l.prog) (w := w) (base := base) (fun_mk (st := s_at_places) l2 c2 k2) T len_at_places wp_at_places) fun _ _ _ _ _ _ us hl => match us, hl with | [_, _], _ => rfl
  have h_bounds_of : Has l.prog w K mg base 1 "bounds_of" s_bounds_of ["vectors"] F_bounds_of := Has.mk' (fun_mk (st := s_bounds_of) l3 c3 k3) (PySem.W.mg_of X G a3) (ok_bounds_of (P := l.prog) (w := w) (base := base) (fun_mk (st := s_bounds_of) l3 c3 k3) T len_bounds_of wp_bounds_of) fun _ _ _ _ _ _ us hl => match us, hl with | [_], _ => rfl
  have h_middle_of : Has l.prog w K mg base 1 "middle_of" s_middle_of ["vectors"] F_middle_of := Has.mk' (fun_mk (st := s_middle_of) l4 c4 k4) (PySem.W.mg_of X G a4) (ok_middle_of (P := l.prog) (w := w) (base := base) (fun_mk (st := s_middle_of) l4 c4 k4) T len_middle_of wp_middle_of) fun _ _ _ _ _ _ us hl => match us, hl with | [_], _ => rfl
  have h__law_heap : Has l.prog w K mg base 1 "_law_heap" s__law_heap ["script"] F__law_heap := Has.mk' (fun_mk (st := s__law_heap) l7 c7 k7) (PySem.W.mg_of X G a7) (ok__law_heap (P := l.prog) (w := w) (base := base) (fun_mk (st := s__law_heap) l7 c7 k7) T len__law_heap wp__law_heap) fun _ _ _ _ _ _ us hl => match us, hl with | [_], _ => rfl
  have h__law_draw : Has l.prog w K mg base 1 "_law_draw" s__law_draw ["heap", "many"] F__law_draw := Has.mk' (fun_mk (st := s__law_draw) l8 c8 k8) (PySem.W.mg_of X G a8) (ok__law_draw (P := l.prog) (w := w) (base := base) (fun_mk (st := s__law_draw) l8 c8 k8) T) fun _ _ _ _ _ _ us hl => match us, hl with | [_, _], _ => rfl
  have h__law_floor : Has l.prog w K mg base 1 "_law_floor" s__law_floor ["total", "many"] F__law_floor := Has.mk' (fun_mk (st := s__law_floor) l11 c11 k11) (PySem.W.mg_of X G a11) (ok__law_floor (P := l.prog) (w := w) (base := base) (fun_mk (st := s__law_floor) l11 c11 k11) T len__law_floor wp__law_floor) fun _ _ _ _ _ _ us hl => match us, hl with | [_, _], _ => rfl
  have h__law_bounds_due : Has l.prog w K mg base 1 "_law_bounds_due" s__law_bounds_due ["vectors"] F__law_bounds_due := Has.mk' (fun_mk (st := s__law_bounds_due) l12 c12 k12) (PySem.W.mg_of X G a12) (ok__law_bounds_due (P := l.prog) (w := w) (base := base) (fun_mk (st := s__law_bounds_due) l12 c12 k12) T len__law_bounds_due wp__law_bounds_due) fun _ _ _ _ _ _ us hl => match us, hl with | [_], _ => rfl
  have h_widest_place : Has l.prog w K mg base 2 "widest_place" s_widest_place ["vectors"] F_widest_place := Has.mk' (fun_mk (st := s_widest_place) l5 c5 k5) (PySem.W.mg_of X G a5) (ok_widest_place (P := l.prog) (w := w) (base := base) (fun_mk (st := s_widest_place) l5 c5 k5) T h_differencesK h_bounds_of len_widest_place wp_widest_place) fun _ _ _ _ _ _ us hl => match us, hl with | [_], _ => rfl
  have h__law_pick : Has l.prog w K mg base 2 "_law_pick" s__law_pick ["heap", "some"] F__law_pick := Has.mk' (fun_mk (st := s__law_pick) l9 c9 k9) (PySem.W.mg_of X G a9) (ok__law_pick (P := l.prog) (w := w) (base := base) (fun_mk (st := s__law_pick) l9 c9 k9) T h__law_draw len__law_pick wp__law_pick) fun _ _ _ _ _ _ us hl => match us, hl with | [_, _], _ => rfl
  have h_halves_of : Has l.prog w K mg base 3 "halves_of" s_halves_of ["vectors"] F_halves_of := Has.mk' (fun_mk (st := s_halves_of) l6 c6 k6) (PySem.W.mg_of X G a6) (ok_halves_of (P := l.prog) (w := w) (base := base) (fun_mk (st := s_halves_of) l6 c6 k6) T h_widest_place len_halves_of wp_halves_of) fun _ _ _ _ _ _ us hl => match us, hl with | [_], _ => rfl
  have h__law_vectors : Has l.prog w K mg base 3 "_law_vectors" s__law_vectors ["heap", "places", "many"] F__law_vectors := Has.mk' (fun_mk (st := s__law_vectors) l10 c10 k10) (PySem.W.mg_of X G a10) (ok__law_vectors (P := l.prog) (w := w) (base := base) (fun_mk (st := s__law_vectors) l10 c10 k10) T h__law_draw h__law_pick len__law_vectors wp__law_vectors) fun _ _ _ _ _ _ us hl => match us, hl with | [_, _, _], _ => rfl
  have h__law_halves_right : Has l.prog w K mg base 3 "_law_halves_right" s__law_halves_right ["vectors", "told"] F__law_halves_right := Has.mk' (fun_mk (st := s__law_halves_right) l13 c13 k13) (PySem.W.mg_of X G a13) (ok__law_halves_right (P := l.prog) (w := w) (base := base) (fun_mk (st := s__law_halves_right) l13 c13 k13) T h_widest_place h__law_bounds_due len__law_halves_right wp__law_halves_right) fun _ _ _ _ _ _ us hl => match us, hl with | [_, _], _ => rfl
  have h__law_lot_right : Has l.prog w K mg base 4 "_law_lot_right" s__law_lot_right ["heap", "vectors"] F__law_lot_right := Has.mk' (fun_mk (st := s__law_lot_right) l14 c14 k14) (PySem.W.mg_of X G a14) (ok__law_lot_right (P := l.prog) (w := w) (base := base) (fun_mk (st := s__law_lot_right) l14 c14 k14) T h_moved_vector h_bounds_of h_middle_of h_halves_of h__law_draw h__law_floor h__law_bounds_due h__law_halves_right len__law_lot_right wp__law_lot_right) fun _ _ _ _ _ _ us hl => match us, hl with | [_, _], _ => rfl
  exact ok_law (P := l.prog) (w := w) (base := base) (fun_mk (st := s_law) l15 c15 k15) T h_differences h_moved_vector h_at_places h_bounds_of h_middle_of h_widest_place h_halves_of h__law_heap h__law_draw h__law_pick h__law_vectors h__law_lot_right len_law wp_law
theorem at_end {K : PySem.W.Frag} {H : Hp} {a : Addr} {ns : List Int} (hl : ns.length ≤ 63) (hS : SqL K H a (ns.map V.int)) : lift K F_law [.ref a] H (fun v _ => v = .bl true) fun _ _ _ => False := by
  have fe : fz (fun _ => none) H (fun _ => none) = H := by
    funext b
    exact fz_none rfl rfl
  refine ⟨fun _ => none, [.lst (ns.map .int)], fun _ => none, fun d _ => d = .bl true, fun _ _ _ => False, ⟨(fun _ _ e => nomatch e), (fun _ _ e => nomatch e)⟩, ?_, ⟨ns, rfl, hl, fun _ => rfl⟩, fun v d H' M' _ r e => ?_, fun _ _ _ _ _ _ _ _ _ _ _ _ z => z⟩
  · rw [fe]
    exact .cons (.lst hS (.ofInts ns)) .nil
  · subst e
    cases r
    rfl
end K02
open PySem PySem.W PyProof.Rows in
set_option maxRecDepth 100000 in
set_option maxHeartbeats 0 in
theorem PySem.Challenge.cw_nonearer_k02_whole_several_vectors_holds : PySem.Challenge.rw_nonearer_k02_whole_several_vectors.Holds := by
  w_on; o_law; k_head; (case hw => w_witness2)
  k_fill
  refine L3.walk_g (l := PySem.Challenge.rw_nonearer_k02_whole_several_vectors) (n := 63) (k := 5) (x := "script") (sp := fun w => L3.lift _ K02.F_law) rfl (by decide) rfl ⟨rfl, by decide, by decide⟩ (fun w h Y => PySem.W.kIn_of Y) ?F (fun w H a ns hl hS => K02.at_end hl hS)
  case F =>
    intro w mg fa h KX G hmg
    refine' K02.all_mk rfl KX G hmg ?a0 ?l0 ?c0 ?k0 ?a1 ?l1 ?c1 ?k1 ?a2 ?l2 ?c2 ?k2 ?a3 ?l3 ?c3 ?k3 ?a4 ?l4 ?c4 ?k4 ?a5 ?l5 ?c5 ?k5 ?a6 ?l6 ?c6 ?k6 ?a7 ?l7 ?c7 ?k7 ?a8 ?l8 ?c8 ?k8 ?a9 ?l9 ?c9 ?k9 ?a10 ?l10 ?c10 ?k10 ?a11 ?l11 ?c11 ?k11 ?a12 ?l12 ?c12 ?k12 ?a13 ?l13 ?c13 ?k13 ?a14 ?l14 ?c14 ?k14 ?a15 ?l15 ?c15 ?k15 ?z_abs ?z_all ?z_bool ?z_enumerate ?z_int ?z_isinstance ?z_len ?z_list ?z_max ?z_min ?z_range ?z_repr ?z_sorted ?z_sum ?z_tuple ?z_zip
    (case a0 => k_is)
    (case l0 => k_is)
    (case c0 => k_is)
    (case k0 => k_is)
    (case a1 => k_is)
    (case l1 => k_is)
    (case c1 => k_is)
    (case k1 => k_is)
    (case a2 => k_is)
    (case l2 => k_is)
    (case c2 => k_is)
    (case k2 => k_is)
    (case a3 => k_is)
    (case l3 => k_is)
    (case c3 => k_is)
    (case k3 => k_is)
    (case a4 => k_is)
    (case l4 => k_is)
    (case c4 => k_is)
    (case k4 => k_is)
    (case a5 => k_is)
    (case l5 => k_is)
    (case c5 => k_is)
    (case k5 => k_is)
    (case a6 => k_is)
    (case l6 => k_is)
    (case c6 => k_is)
    (case k6 => k_is)
    (case a7 => k_is)
    (case l7 => k_is)
    (case c7 => k_is)
    (case k7 => k_is)
    (case a8 => k_is)
    (case l8 => k_is)
    (case c8 => k_is)
    (case k8 => k_is)
    (case a9 => k_is)
    (case l9 => k_is)
    (case c9 => k_is)
    (case k9 => k_is)
    (case a10 => k_is)
    (case l10 => k_is)
    (case c10 => k_is)
    (case k10 => k_is)
    (case a11 => k_is)
    (case l11 => k_is)
    (case c11 => k_is)
    (case k11 => k_is)
    (case a12 => k_is)
    (case l12 => k_is)
    (case c12 => k_is)
    (case k12 => k_is)
    (case a13 => k_is)
    (case l13 => k_is)
    (case c13 => k_is)
    (case k13 => k_is)
    (case a14 => k_is)
    (case l14 => k_is)
    (case c14 => k_is)
    (case k14 => k_is)
    (case a15 => k_is)
    (case l15 => k_is)
    (case c15 => k_is)
    (case k15 => k_is)
    (case z_abs => k_is)
    (case z_all => k_is)
    (case z_bool => k_is)
    (case z_enumerate => k_is)
    (case z_int => k_is)
    (case z_isinstance => k_is)
    (case z_len => k_is)
    (case z_list => k_is)
    (case z_max => k_is)
    (case z_min => k_is)
    (case z_range => k_is)
    (case z_repr => k_is)
    (case z_sorted => k_is)
    (case z_sum => k_is)
    (case z_tuple => k_is)
    (case z_zip => k_is)
#print axioms PySem.Challenge.cw_nonearer_k02_whole_several_vectors_holds
