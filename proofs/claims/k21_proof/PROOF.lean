import PyProof.Rows.All
import Wide.All
import OpenK.AllK
import Wide.FinOn
import HandS.ForMost
import HandS.ForExc
import HandS.Wide
import HandS.Zip
import HandS.Defaults
import HandS.TupAny
import HandS.Conv
import HandS.Style
import HandS.FStr
import PyProof.Rows.NestShow
import HandS.Gcd
import HandS.SortKw
import HandS.TupMul
import HandS.IsInst
import HandS.Flt
import KE.DataMinMax
import KE.GoesEnum
import PySem.Challenge.RW_nonearer_k21_whole_floors_and_ceilings
set_option Elab.async false
set_option linter.all false
set_option maxRecDepth 100000
set_option exponentiation.threshold 20000
/-! A second layer over HandS: data by value (D), mutable objects as tokens in a store (Mp), readings as predicate transformers over data. -/
namespace L3
open PySem L2

/-! ### data -/
inductive D where
  | non | bl (b : Bool) | int (i : Int) | str (x : Str) | ty (n : String) | tok (a : Addr)
  | tup (ds : List D) | lst (ds : List D)

mutual
inductive Rep (K : PySem.W.Frag) (H : Hp) : V → D → Prop
  | non : Rep K H .non .non
  | bl (b : Bool) : Rep K H (.bl b) (.bl b)
  | int (i : Int) : Rep K H (.int i) (.int i)
  | str (x : Str) : Rep K H (.str x) (.str x)
  | ty (n : String) : Rep K H (.ty n) (.ty n)
  | tok (a : Addr) : Rep K H (.ref a) (.tok a)
  | tup {a : Addr} {vs : List V} {ds : List D} : SqT K H a vs → RepL K H vs ds → Rep K H (.ref a) (.tup ds)
  | lst {a : Addr} {vs : List V} {ds : List D} : SqL K H a vs → RepL K H vs ds → Rep K H (.ref a) (.lst ds)
inductive RepL (K : PySem.W.Frag) (H : Hp) : List V → List D → Prop
  | nil : RepL K H [] []
  | cons {v : V} {vs : List V} {d : D} {ds : List D} : Rep K H v d → RepL K H vs ds → RepL K H (v :: vs) (d :: ds)
end

theorem sqt_mono {K : PySem.W.Frag} {H H' : Hp} {a : Addr} {xs : List V} (e : Same H H') (h : SqT K H a xs) : SqT K H' a xs := by
  rcases h with (h | ⟨o, h⟩) | h
  · exact .inl (.inl (e _ _ h))
  · exact .inl (.inr ⟨o, e _ _ h⟩)
  · exact .inr h

mutual
theorem Rep.mono {K : PySem.W.Frag} {H H' : Hp} (e : Same H H') : ∀ (d : D) (v : V), Rep K H v d → Rep K H' v d
  | .non, _, h => by cases h; exact .non
  | .bl b, _, h => by cases h; exact .bl b
  | .int i, _, h => by cases h; exact .int i
  | .str x, _, h => by cases h; exact .str x
  | .ty n, _, h => by cases h; exact .ty n
  | .tok a, _, h => by cases h; exact .tok a
  | .tup ds, _, h => by
    cases h with
    | tup hs ha => exact .tup (sqt_mono e hs) (RepL.mono e ds _ ha)
  | .lst ds, _, h => by
    cases h with
    | lst hs ha => exact .lst (e.seq hs) (RepL.mono e ds _ ha)
theorem RepL.mono {K : PySem.W.Frag} {H H' : Hp} (e : Same H H') : ∀ (ds : List D) (vs : List V), RepL K H vs ds → RepL K H' vs ds
  | [], _, h => by cases h; exact .nil
  | d :: ds, _, h => by
    cases h with
    | cons h1 h2 => exact .cons (Rep.mono e d _ h1) (RepL.mono e ds _ h2)
end
theorem Rep.up {K : PySem.W.Frag} {H H' : Hp} {v : V} {d : D} (h : Rep K H v d) (e : Same H H') : Rep K H' v d := Rep.mono e d v h
theorem RepL.up {K : PySem.W.Frag} {H H' : Hp} {v : List V} {d : List D} (h : RepL K H v d) (e : Same H H') : RepL K H' v d := RepL.mono e d v h
theorem RepL.len {K : PySem.W.Frag} {H : Hp} : ∀ {vs : List V} {ds : List D}, RepL K H vs ds → vs.length = ds.length
  | _, _, .nil => rfl
  | _, _, .cons _ r => by rw [List.length_cons, List.length_cons, r.len]
theorem RepL.app {K : PySem.W.Frag} {H : Hp} : ∀ {vs ws : List V} {ds es : List D}, RepL K H vs ds → RepL K H ws es → RepL K H (vs ++ ws) (ds ++ es)
  | _, _, _, _, .nil, s => s
  | _, _, _, _, .cons r t, s => .cons r (RepL.app t s)
theorem RepL.get {K : PySem.W.Frag} {H : Hp} : ∀ {vs : List V} {ds : List D} {i : Nat} {d : D}, RepL K H vs ds → ds[i]? = some d → ∃ v, vs[i]? = some v ∧ Rep K H v d
  | _, _, i, d, .nil, e => by simp at e
  | _, _, 0, d, .cons r t, e => by
    obtain rfl : _ = d := Option.some.inj e
    exact ⟨_, rfl, r⟩
  | _, _, i + 1, d, .cons r t, e => t.get (i := i) e
theorem RepL.getV {K : PySem.W.Frag} {H : Hp} : ∀ {vs : List V} {ds : List D} {i : Nat} {v : V}, RepL K H vs ds → vs[i]? = some v → ∃ d, ds[i]? = some d ∧ Rep K H v d
  | _, _, i, d, .nil, e => by simp at e
  | _, _, 0, d, .cons r t, e => by
    obtain rfl : _ = d := Option.some.inj e
    exact ⟨_, rfl, r⟩
  | _, _, i + 1, d, .cons r t, e => t.getV (i := i) e
theorem RepL.set {K : PySem.W.Frag} {H : Hp} {v : V} {d : D} (r : Rep K H v d) : ∀ {vs : List V} {ds : List D} (i : Nat), RepL K H vs ds → RepL K H (vs.set i v) (ds.set i d)
  | _, _, _, .nil => .nil
  | _, _, 0, .cons _ t => .cons r t
  | _, _, i + 1, .cons q t => .cons q (RepL.set r i t)
theorem RepL.take {K : PySem.W.Frag} {H : Hp} : ∀ {vs : List V} {ds : List D} (n : Nat), RepL K H vs ds → RepL K H (vs.take n) (ds.take n)
  | _, _, 0, _ => .nil
  | _, _, n + 1, .nil => .nil
  | _, _, n + 1, .cons r t => .cons r (RepL.take n t)
theorem RepL.drop {K : PySem.W.Frag} {H : Hp} : ∀ {vs : List V} {ds : List D} (n : Nat), RepL K H vs ds → RepL K H (vs.drop n) (ds.drop n)
  | _, _, 0, r => r
  | _, _, n + 1, .nil => .nil
  | _, _, n + 1, .cons _ t => RepL.drop n t
theorem RepL.ints {K : PySem.W.Frag} {H : Hp} : ∀ {vs : List V} {ns : List Int}, RepL K H vs (ns.map D.int) → vs = ns.map V.int
  | _, [], h => by cases h; rfl
  | _, n :: ns, h => by
    cases h with
    | cons r t =>
      cases r
      rw [List.map_cons, RepL.ints t]
theorem RepL.ofInts {K : PySem.W.Frag} {H : Hp} : ∀ (ns : List Int), RepL K H (ns.map V.int) (ns.map D.int)
  | [] => .nil
  | n :: ns => .cons (.int n) (RepL.ofInts ns)
theorem RepL.strs {K : PySem.W.Frag} {H : Hp} : ∀ {vs : List V} {ns : List Str}, RepL K H vs (ns.map D.str) → vs = ns.map V.str
  | _, [], h => by cases h; rfl
  | _, n :: ns, h => by
    cases h with
    | cons r t =>
      cases r
      rw [List.map_cons, RepL.strs t]
theorem RepL.ofStrs {K : PySem.W.Frag} {H : Hp} : ∀ (ns : List Str), RepL K H (ns.map V.str) (ns.map D.str)
  | [] => .nil
  | n :: ns => .cons (.str n) (RepL.ofStrs ns)
theorem RepL.bls {K : PySem.W.Frag} {H : Hp} : ∀ {vs : List V} {ns : List Bool}, RepL K H vs (ns.map D.bl) → vs = ns.map V.bl
  | _, [], h => by cases h; rfl
  | _, n :: ns, h => by
    cases h with
    | cons r t =>
      cases r
      rw [List.map_cons, RepL.bls t]

/-! ### the store of what may change -/
inductive Cell where
  | aux | drw (a0 : Addr) | lst (ds : List D) | ins (C : Addr) (fs : List (Str × D))
abbrev Mp := Addr → Option Cell
/-- what never changes: neither in the store nor hidden (Z) -/
def fz (Z H : Hp) (M : Mp) : Hp := fun a => match M a, Z a with
  | none, none => H a
  | _, _ => none
def setM (M : Mp) (a : Addr) (c : Cell) : Mp := fun b => if b = a then some c else M b
theorem setM_same {M : Mp} {a : Addr} {c : Cell} : setM M a c a = some c := if_pos rfl
theorem setM_ne {M : Mp} {a b : Addr} {c : Cell} (h : b ≠ a) : setM M a c b = M b := if_neg h
theorem fz_none {Z H : Hp} {M : Mp} {a : Addr} (h : M a = none) (z : Z a = none) : fz Z H M a = H a := by
  unfold fz
  rw [h, z]
theorem fz_some {Z H : Hp} {M : Mp} {a : Addr} {c : Cell} (h : M a = some c) : fz Z H M a = none := by
  unfold fz
  rw [h]
theorem fz_hid {Z H : Hp} {M : Mp} {a : Addr} {o : HO} (h : Z a = some o) : fz Z H M a = none := by
  unfold fz
  rw [h]
  split <;> first | rfl | contradiction
theorem fz_is {Z H : Hp} {M : Mp} {a : Addr} {o : HO} (h : fz Z H M a = some o) : M a = none ∧ Z a = none ∧ H a = some o := by
  cases q : M a with
  | some c =>
    rw [fz_some q] at h
    cases h
  | none =>
    cases q2 : Z a with
    | some u =>
      rw [fz_hid q2] at h
      cases h
    | none =>
      rw [fz_none q q2] at h
      exact ⟨rfl, rfl, h⟩
theorem fz_to {Z H : Hp} {M : Mp} {a : Addr} {o : HO} (h1 : M a = none) (h2 : Z a = none) (h : H a = some o) : fz Z H M a = some o := by
  rw [fz_none h1 h2]
  exact h
theorem fz_sub {Z H : Hp} {M : Mp} : Same (fz Z H M) H := fun _ _ e => (fz_is e).2.2
def RepF (K : PySem.W.Frag) (H : Hp) (fv : List (Str × V)) (fs : List (Str × D)) : Prop := fv.map (·.1) = fs.map (·.1) ∧ RepL K H (fv.map (·.2)) (fs.map (·.2))
/-- the numbers of the draws -/
def DrawOk (H : Hp) (a a0 : Addr) : Prop := ∃ (cs : List Int) (s : Int), H a = some (.lst [.ref a0, .int s]) ∧ H a0 = some (.lst (cs.map V.int)) ∧ 0 ≤ s ∧ s < 4294967296 ∧ cs.length ≤ 100 ∧ ∀ c ∈ cs, 0 ≤ c
def CellOk (K : PySem.W.Frag) (Z H : Hp) (M : Mp) (a : Addr) : Cell → Prop
  | .lst ds => ∃ vs, H a = some (.lst vs) ∧ RepL K (fz Z H M) vs ds
  | .drw a0 => M a0 = some .aux ∧ DrawOk H a a0
  | .aux => ∃ o, H a = some o
  | .ins C fs => ∃ dx fv, H a = some (.ins C dx fv) ∧ RepF K (fz Z H M) fv fs
structure Sat (K : PySem.W.Frag) (Z : Hp) (H : Hp) (M : Mp) : Prop where
  cell : ∀ a c, M a = some c → CellOk K Z H M a c
  zed : ∀ a o, Z a = some o → H a = some o ∧ M a = none
theorem Sat.there {K : PySem.W.Frag} {Z : Hp} {H : Hp} {M : Mp} {a : Addr} {c : Cell} (S : Sat K Z H M) (h : M a = some c) : ∃ o, H a = some o := by
  have q := S.cell a c h
  cases c with
  | aux => exact q
  | drw a0 => obtain ⟨_, cs, s, e, _⟩ := q; exact ⟨_, e⟩
  | lst ds => obtain ⟨vs, e, _⟩ := q; exact ⟨_, e⟩
  | ins C fs => obtain ⟨dx, fv, e, _⟩ := q; exact ⟨_, e⟩
theorem Sat.free {K : PySem.W.Frag} {Z : Hp} {H : Hp} {M : Mp} {a : Addr} (S : Sat K Z H M) (h : H a = none) : M a = none := by
  cases q : M a with
  | none => rfl
  | some c =>
    obtain ⟨o, e⟩ := S.there q
    rw [h] at e
    cases e
theorem Sat.freeZ {K : PySem.W.Frag} {Z : Hp} {H : Hp} {M : Mp} {a : Addr} (S : Sat K Z H M) (h : H a = none) : Z a = none := by
  cases q : Z a with
  | none => rfl
  | some c =>
    have e := (S.zed a c q).1
    rw [h] at e
    cases e
theorem RepF.up {K : PySem.W.Frag} {H H' : Hp} {v : List (Str × V)} {d : List (Str × D)} (h : RepF K H v d) (e : Same H H') : RepF K H' v d := ⟨h.1, h.2.up e⟩
/-- a step: the heap and the store behind it -/
structure Go (K : PySem.W.Frag) (Z : Hp) (H : Hp) (M : Mp) (H' : Hp) (M' : Mp) : Prop where
  sat : Sat K Z H' M'
  ex : Same (fz Z H M) (fz Z H' M')
theorem Go.refl {K : PySem.W.Frag} {Z : Hp} {H : Hp} {M : Mp} (S : Sat K Z H M) : Go K Z H M H M := ⟨S, Same.refl _⟩
theorem Go.trans {K : PySem.W.Frag} {Z : Hp} {H H1 H2 : Hp} {M M1 M2 : Mp} (a : Go K Z H M H1 M1) (b : Go K Z H1 M1 H2 M2) : Go K Z H M H2 M2 := ⟨b.sat, a.ex.trans b.ex⟩
/-- a cell whose object stands as it stood -/
theorem CellOk.same {K : PySem.W.Frag} {Z Z' : Hp} {H H' : Hp} {M M' : Mp} {a : Addr} {c : Cell} (q : CellOk K Z H M a c) (ex : Same (fz Z H M) (fz Z' H' M')) (ha : ∀ o, H a = some o → H' a = some o)
    (aux : ∀ b, M b = some .aux → M' b = some .aux ∧ ∀ o, H b = some o → H' b = some o) : CellOk K Z' H' M' a c := by
  cases c with
  | aux =>
    obtain ⟨o, e⟩ := q
    exact ⟨o, ha o e⟩
  | drw a0 =>
    obtain ⟨m0, cs, s, e, e0, r⟩ := q
    obtain ⟨m1, k⟩ := aux a0 m0
    exact ⟨m1, cs, s, ha _ e, k _ e0, r⟩
  | lst ds =>
    obtain ⟨vs, e, r⟩ := q
    exact ⟨vs, ha _ e, r.up ex⟩
  | ins C fs =>
    obtain ⟨dx, fv, e, r⟩ := q
    exact ⟨dx, fv, ha _ e, r.up ex⟩
/-- a new object that never changes -/
theorem Go.laid {K : PySem.W.Frag} {Z : Hp} {H : Hp} {M : Mp} {p : Addr} {o : HO} (S : Sat K Z H M) (hp : H p = none) : Go K Z H M (upd H p o) M ∧ fz Z (upd H p o) M p = some o := by
  have hm := S.free hp
  have hz := S.freeZ hp
  have up : ∀ b u, H b = some u → upd H p o b = some u := fun b u e => by
    rw [upd_ne (ne_of_none e hp)]
    exact e
  have ex : Same (fz Z H M) (fz Z (upd H p o) M) := fun b u e => fz_to (fz_is e).1 (fz_is e).2.1 (up b u (fz_is e).2.2)
  exact ⟨⟨⟨fun a c h => (S.cell a c h).same ex (up a) fun b e => ⟨e, up b⟩, fun a u h => ⟨up a u (S.zed a u h).1, (S.zed a u h).2⟩⟩, ex⟩, fz_to hm hz upd_same⟩
/-- a list of the store: new, or changed -/
theorem Go.putL {K : PySem.W.Frag} {Z : Hp} {H : Hp} {M : Mp} {p : Addr} {vs : List V} {ds : List D} (S : Sat K Z H M) (hp : (H p = none) ∨ ∃ es, M p = some (.lst es)) (r : RepL K (fz Z H M) vs ds) : Go K Z H M (upd H p (.lst vs)) (setM M p (.lst ds)) := by
  have hz : Z p = none := by
    rcases hp with h | ⟨es, h⟩
    · exact S.freeZ h
    · cases q : Z p with
      | none => rfl
      | some u =>
        have e := (S.zed p u q).2
        rw [h] at e
        cases e
  have hf : ∀ u, fz Z H M p ≠ some u := fun u e => by
    obtain ⟨e1, _, e2⟩ := fz_is e
    rcases hp with h | ⟨es, h⟩
    · rw [h] at e2
      cases e2
    · rw [h] at e1
      cases e1
  have hx : M p ≠ some .aux := fun e => by
    rcases hp with h | ⟨es, h⟩
    · obtain ⟨o, e'⟩ := S.there e
      rw [h] at e'
      cases e'
    · rw [h] at e
      cases e
  have ex : Same (fz Z H M) (fz Z (upd H p (.lst vs)) (setM M p (.lst ds))) := fun b u e => by
    have hb : b ≠ p := fun z => by
      subst z
      exact hf u e
    obtain ⟨e1, e2, e3⟩ := fz_is e
    exact fz_to (by rw [setM_ne hb]; exact e1) e2 (by rw [upd_ne hb]; exact e3)
  have aux : ∀ b, M b = some .aux → setM M p (.lst ds) b = some .aux ∧ ∀ o, H b = some o → upd H p (.lst vs) b = some o := fun b e => by
    have hb : b ≠ p := fun z => by
      subst z
      exact hx e
    exact ⟨by rw [setM_ne hb]; exact e, fun o q => by rw [upd_ne hb]; exact q⟩
  refine ⟨⟨fun a c h => ?_, fun a u h => ?_⟩, ex⟩
  · by_cases ha : a = p
    · subst ha
      rw [setM_same] at h
      cases h
      exact ⟨vs, upd_same, r.up ex⟩
    · rw [setM_ne ha] at h
      exact (S.cell a c h).same ex (fun o q => by rw [upd_ne ha]; exact q) aux
  · have ha : a ≠ p := fun z => by
      subst z
      rw [hz] at h
      cases h
    exact ⟨by rw [upd_ne ha]; exact (S.zed a u h).1, by rw [setM_ne ha]; exact (S.zed a u h).2⟩
/-- a draw: the two lists of the numbers change -/
theorem Go.drawn {K : PySem.W.Frag} {Z : Hp} {H H' : Hp} {M : Mp} {a a0 : Addr} (S : Sat K Z H M) (hp : M a = some (.drw a0)) (k : ∀ b o, b ≠ a → b ≠ a0 → H b = some o → H' b = some o) (q : DrawOk H' a a0) : Go K Z H M H' M := by
  obtain ⟨m0, _⟩ := S.cell a _ hp
  have ex : Same (fz Z H M) (fz Z H' M) := fun b u e => by
    obtain ⟨e1, e2, e3⟩ := fz_is e
    have h1 : b ≠ a := fun z => by
      subst z
      rw [hp] at e1
      cases e1
    have h2 : b ≠ a0 := fun z => by
      subst z
      rw [m0] at e1
      cases e1
    exact fz_to e1 e2 (k b _ h1 h2 e3)
  refine ⟨⟨fun b c h => ?_, fun b u h => ?_⟩, ex⟩
  · by_cases h1 : b = a
    · subst h1
      rw [hp] at h
      cases h
      exact ⟨m0, q⟩
    · by_cases h2 : b = a0
      · subst h2
        rw [m0] at h
        cases h
        obtain ⟨cs', s', _, e0', _⟩ := q
        exact ⟨_, e0'⟩
      · cases c with
        | drw b0 =>
          obtain ⟨n0, cs, s, e, e0, r⟩ := S.cell b _ h
          refine ⟨n0, ?_⟩
          by_cases h3 : b0 = a0
          · subst h3
            obtain ⟨cs', s', _, e0', _, _, l', g'⟩ := q
            exact ⟨cs', s, k b _ h1 h2 e, e0', r.1, r.2.1, l', g'⟩
          · have h4 : b0 ≠ a := fun z => by
              subst z
              rw [hp] at n0
              cases n0
            exact ⟨cs, s, k b _ h1 h2 e, k b0 _ h4 h3 e0, r⟩
        | lst ds =>
          obtain ⟨vs, e, r⟩ := S.cell b _ h
          exact ⟨vs, k b _ h1 h2 e, r.up ex⟩
        | aux =>
          obtain ⟨o, e⟩ := S.cell b _ h
          exact ⟨o, k b _ h1 h2 e⟩
        | ins C fs =>
          obtain ⟨dx, fv, e, r⟩ := S.cell b _ h
          exact ⟨dx, fv, k b _ h1 h2 e, r.up ex⟩
  · obtain ⟨e1, e2⟩ := S.zed b u h
    have h1 : b ≠ a := fun z => by
      subst z
      rw [hp] at e2
      cases e2
    have h2 : b ≠ a0 := fun z => by
      subst z
      rw [m0] at e2
      cases e2
    exact ⟨k b _ h1 h2 e1, e2⟩
def delM (M : Mp) (p : Addr) : Mp := fun b => if b = p then none else M b
/-- a list of the store is let go: it never changes again -/
theorem Go.frozen {K : PySem.W.Frag} {Z : Hp} {H : Hp} {M : Mp} {p : Addr} {es : List D} (S : Sat K Z H M) (hp : M p = some (.lst es)) :
    Go K Z H M H (delM M p) ∧ ∃ vs, fz Z H (delM M p) p = some (.lst vs) ∧ RepL K (fz Z H (delM M p)) vs es := by
  have nm : ∀ {b : Addr}, M b = none → delM M p b = none := fun {b} e => by
    unfold delM
    split <;> first | rfl | exact e
  have sm : ∀ {b : Addr} {c : Cell}, delM M p b = some c → M b = some c := fun {b c} e => by
    unfold delM at e
    split at e
    · cases e
    · exact e
  have ex : Same (fz Z H M) (fz Z H (delM M p)) := fun b u e => fz_to (nm (fz_is e).1) (fz_is e).2.1 (fz_is e).2.2
  have aux : ∀ b, M b = some .aux → delM M p b = some .aux ∧ ∀ o, H b = some o → H b = some o := fun b e => by
    have hb : b ≠ p := fun z => by
      subst z
      rw [hp] at e
      cases e
    exact ⟨by unfold delM; rw [if_neg hb]; exact e, fun _ q => q⟩
  have hz : Z p = none := by
    cases q : Z p with
    | none => rfl
    | some u =>
      have e := (S.zed p u q).2
      rw [hp] at e
      cases e
  refine ⟨⟨⟨fun a c h => (S.cell a c (sm h)).same ex (fun _ q => q) aux, fun a u h => ⟨(S.zed a u h).1, nm (S.zed a u h).2⟩⟩, ex⟩, ?_⟩
  obtain ⟨vs, e, r⟩ := S.cell p _ hp
  exact ⟨vs, fz_to (by unfold delM; rw [if_pos rfl]) hz e, r.up ex⟩
/-- an object is hidden while something else runs; it is another one then, or is shown again -/
theorem Sat.swap {K : PySem.W.Frag} {Z Z' : Hp} {H H' : Hp} {M : Mp} {p : Addr} (S : Sat K Z H M) (hm : M p = none) (hf : fz Z H M p = none) (hH : ∀ b, b ≠ p → H' b = H b) (hZ : ∀ b, b ≠ p → Z' b = Z b) (hq : ∀ o, Z' p = some o → H' p = some o) : Sat K Z' H' M ∧ Same (fz Z H M) (fz Z' H' M) := by
  have ex : Same (fz Z H M) (fz Z' H' M) := fun b v e => by
    have hb : b ≠ p := fun z => by
      subst z
      rw [hf] at e
      cases e
    obtain ⟨e1, e2, e3⟩ := fz_is e
    exact fz_to e1 (by rw [hZ b hb]; exact e2) (by rw [hH b hb]; exact e3)
  have ne : ∀ {b : Addr} {c : Cell}, M b = some c → b ≠ p := fun {b c} e z => by
    subst z
    rw [hm] at e
    cases e
  refine ⟨⟨fun a c h => (S.cell a c h).same ex (fun o q => by rw [hH a (ne h)]; exact q) fun b e => ⟨e, fun o q => by rw [hH b (ne e)]; exact q⟩, fun a v h => ?_⟩, ex⟩
  by_cases ha : a = p
  · subst ha
    exact ⟨hq v h, hm⟩
  · rw [hZ a ha] at h
    exact ⟨by rw [hH a ha]; exact (S.zed a v h).1, (S.zed a v h).2⟩

/-! ### readings over data -/
abbrev En := List (Option D)
abbrev KD := D → Mp → Prop
abbrev WE := En → Mp → KD → Prop
abbrev WT := En → Mp → (Bool → Mp → Prop) → Prop
abbrev WA := En → Mp → (List D → Mp → Prop) → Prop
structure Ends3 where
  nx : En → Mp → Prop
  rt : KD
  bk : En → Mp → Prop := fun _ _ => False
  ct : En → Mp → Prop := fun _ _ => False
  xr : Addr → List (Str × D) → Mp → Prop := fun _ _ _ => False
abbrev WS := Ends3 → En → Mp → Prop
/-- the slots hold what the environment says -/
def RelS (K : PySem.W.Frag) (Hf : Hp) (σ : L2.St) (ρ : En) : Prop := σ.length = ρ.length ∧ ∀ (i : Nat) (d : D), ρ[i]? = some (some d) → ∃ v, σ[i]? = some (some v) ∧ Rep K Hf v d
theorem RelS.up {K : PySem.W.Frag} {H H' : Hp} {σ : L2.St} {ρ : En} (h : RelS K H σ ρ) (e : Same H H') : RelS K H' σ ρ := ⟨h.1, fun i d q => by
  obtain ⟨v, a, b⟩ := h.2 i d q
  exact ⟨v, a, b.up e⟩⟩
theorem RelS.set {K : PySem.W.Frag} {H : Hp} {σ : L2.St} {ρ : En} {v : V} {d : D} (h : RelS K H σ ρ) (j : Nat) (r : Rep K H v d) : RelS K H (σ.set j (some v)) (ρ.set j (some d)) := by
  refine ⟨by rw [List.length_set, List.length_set]; exact h.1, fun i e q => ?_⟩
  by_cases hij : i = j
  · subst hij
    have hl : i < ρ.length := by
      rcases Nat.lt_or_ge i ρ.length with z | z
      · exact z
      · rw [List.getElem?_eq_none (by rw [List.length_set]; exact z)] at q
        cases q
    rw [List.getElem?_set_self hl] at q
    cases q
    exact ⟨v, List.getElem?_set_self (by rw [h.1]; exact hl), r⟩
  · rw [List.getElem?_set_ne (Ne.symm hij)] at q
    obtain ⟨u, a, b⟩ := h.2 i e q
    exact ⟨u, by rw [List.getElem?_set_ne (Ne.symm hij)]; exact a, b⟩
structure R3 (K : PySem.W.Frag) (Z : Hp) (ρ : En) (M : Mp) (σ : L2.St) (H : Hp) : Prop where
  sat : Sat K Z H M
  env : RelS K (fz Z H M) σ ρ
theorem R3.go {K : PySem.W.Frag} {Z : Hp} {ρ : En} {M M' : Mp} {σ : L2.St} {H H' : Hp} (r : R3 K Z ρ M σ H) (g : Go K Z H M H' M') : R3 K Z ρ M' σ H' := ⟨g.sat, r.env.up g.ex⟩
theorem R3.refl {K : PySem.W.Frag} {Z : Hp} {ρ : En} {M : Mp} {σ : L2.St} {H : Hp} (r : R3 K Z ρ M σ H) : Go K Z H M H M := Go.refl r.sat

def SimE (K : PySem.W.Frag) (t : TE) (w : WE) : Prop := ∀ (Z : Hp) (ρ : En) (M : Mp) (σ : L2.St) (H : Hp) (Q : KD) (Q' : VK), R3 K Z ρ M σ H → w ρ M Q → (∀ v d H' M', Go K Z H M H' M' → Rep K (fz Z H' M') v d → Q d M' → Q' v H') → t σ H Q'
def SimT (K : PySem.W.Frag) (t : TT) (w : WT) : Prop := ∀ (Z : Hp) (ρ : En) (M : Mp) (σ : L2.St) (H : Hp) (Q : Bool → Mp → Prop) (Q' : Bool → Hp → Prop), R3 K Z ρ M σ H → w ρ M Q → (∀ b H' M', Go K Z H M H' M' → Q b M' → Q' b H') → t σ H Q'
def SimA (K : PySem.W.Frag) (t : TA) (w : WA) : Prop := ∀ (Z : Hp) (ρ : En) (M : Mp) (σ : L2.St) (H : Hp) (Q : List D → Mp → Prop) (Q' : List V → Hp → Prop), R3 K Z ρ M σ H → w ρ M Q → (∀ v d H' M', Go K Z H M H' M' → RepL K (fz Z H' M') v d → Q d M' → Q' v H') → t σ H Q'
structure EndsRel (K : PySem.W.Frag) (Z : Hp) (E : XK) (H : Hp) (M : Mp) (D3 : Ends3) (D : Ends) : Prop where
  nx : ∀ ρ' M' σ' H', R3 K Z ρ' M' σ' H' → Go K Z H M H' M' → D3.nx ρ' M' → D.nx σ' H'
  rt : ∀ v d H' M', Go K Z H M H' M' → Rep K (fz Z H' M') v d → D3.rt d M' → D.rt v H'
  bk : ∀ ρ' M' σ' H', R3 K Z ρ' M' σ' H' → Go K Z H M H' M' → D3.bk ρ' M' → D.bk σ' H'
  ct : ∀ ρ' M' σ' H', R3 K Z ρ' M' σ' H' → Go K Z H M H' M' → D3.ct ρ' M' → D.ct σ' H'
  xr : ∀ C dx fv fs H' M', Go K Z H M H' M' → H' dx = some (.xd fv) → RepF K (fz Z H' M') fv fs → D3.xr C fs M' → E (.ref C) (some dx) H'
theorem EndsRel.go {K : PySem.W.Frag} {Z : Hp} {E : XK} {H H' : Hp} {M M' : Mp} {D3 : Ends3} {D : Ends} (r : EndsRel K Z E H M D3 D) (g : Go K Z H M H' M') : EndsRel K Z E H' M' D3 D :=
  ⟨fun ρ N σ J a b c => r.nx ρ N σ J a (g.trans b) c, fun v d J N a b c => r.rt v d J N (g.trans a) b c, fun ρ N σ J a b c => r.bk ρ N σ J a (g.trans b) c, fun ρ N σ J a b c => r.ct ρ N σ J a (g.trans b) c,
    fun C dx fv fs J N a b c => r.xr C dx fv fs J N (g.trans a) b c⟩
def SimS (K : PySem.W.Frag) (E : XK) (t : TS) (w : WS) : Prop := ∀ (Z : Hp) (D3 : Ends3) (ρ : En) (M : Mp) (σ : L2.St) (H : Hp) (D : Ends), R3 K Z ρ M σ H → w D3 ρ M → EndsRel K Z E H M D3 D → t D σ H

structure DE (X : Cx) (e : Expr) (t : TE) (w : WE) : Prop where
  pe : PE X e t
  sm : SimE X.K t w
structure DT (X : Cx) (e : Expr) (t : TT) (w : WT) : Prop where
  pe : PT X e t
  sm : SimT X.K t w
structure DW (X : Cx) (e : Expr) (t : TT) (w : WT) : Prop where
  pe : PW X e t
  sm : SimT X.K t w
structure DA (X : Cx) (e : List Expr) (t : TA) (w : WA) : Prop where
  pe : PA X e t
  sm : SimA X.K t w
structure DS (X : Cx) (E : XK) (st : Stmt) (t : TS) (w : WS) : Prop where
  pe : PS X st t
  sm : SimS X.K E t w
structure DSs (X : Cx) (E : XK) (st : List Stmt) (t : TS) (w : WS) : Prop where
  pe : PSs X st t
  sm : SimS X.K E t w
end L3
namespace L3
open PySem L2
open PyProof.Rows (envOfC)
/-! ### defs, called where nothing is being shown -/
structure FnG (P : Program) (w : World) (K : PySem.W.Frag) (mg : Str → Option Value) (base : Heap) (k : Nat) (f : Addr) (fd : FuncData) (ps : List Str) (sp : Sp) : Prop where
  len : ∀ vs H Q E, sp vs H Q E → vs.length = ps.length
  run : ∀ (A : Around) (outer : List Env) (s : Shared) (H : Hp) (args : Args) (us : List Value) (vs : List V) (Q : VK) (E : XK), A.guards = some [] → Room k A → Env0 P w K mg base A outer s H → BindsTo s fd args (ps.zip us) → Vals vs us → sp vs H Q E →
    codeAny (model P w) A (.call (.ref f) args) (CR (L2.CX P w) outer P w H s Q E) s
theorem FnG.mono {P : Program} {w : World} {K : PySem.W.Frag} {mg : Str → Option Value} {base : Heap} {j k : Nat} {f : Addr} {fd : FuncData} {ps : List Str} {sp : Sp} (F : FnG P w K mg base j f fd ps sp) (h : j ≤ k) : FnG P w K mg base k f fd ps sp :=
  ⟨F.len, fun A o s H ar us vs Q E g hr => F.run A o s H ar us vs Q E g (hr.mono h)⟩
section
variable {P : Program} {w : World} {K : PySem.W.Frag} {mg : Str → Option Value} {base : Heap}
theorem fn_g {x qual : Str} {st : Stmt} {f : Addr} {fd : FuncData} {N ps : List Str} {k : Nat} {sp : Sp} (F : Fun K x qual st f fd) (S : FnScope N ps (defScope st)) (len : ∀ vs H Q E, sp vs H Q E → vs.length = ps.length)
    (body : ∀ (cdv : Value) (A : Around) (outer : List Env) (s : Shared) (H : Hp) (vs : List V) (Q : VK) (E : XK), A.guards = some [] → Room k (A.deeper (envOfC qual (defScope st) s.heap.objs.size f cdv)) → sp vs H Q E →
      ∃ t, PSs (cxOf (L2.CX P w) P w K mg base N qual (defScope st) f cdv A outer s H E) (defBody st) t ∧ t { nx := fun _ J => Q .non J, rt := Q } (L2.start N vs) H) : FnG P w K mg base (k + 1) f fd ps sp := by
  obtain ⟨oc, od, kV, doc, pm, an, cdv, ct, osl, rfl, lk, hcd⟩ := F.ex
  refine ⟨len, fun A outer s H args us vs Q E gd hr e0 hb r hs => ?_⟩
  have hlen := len _ _ _ _ hs
  have kin : K.In s.heap := e0.mod.kin.keeps fun b o e => (e0.bs b o e).1
  have nol : s.heap.NoLimit := e0.mod.nolimit.keeps fun b o e => (e0.bs b o e).1
  have kinds : ∀ y ∈ ps.zip us, (defScope st).names.lookup y.1 = some .local ∨ ((defScope st).names.lookup y.1 = some .cell ∧ ((cellsFrom (s.heap.objs.size + 1) (defScope st).names []).lookup y.1).isSome = true) := fun ⟨n, v⟩ hy => by
    rcases S.par n (List.of_mem_zip hy).1 with z | z
    · exact .inl z
    · exact .inr ⟨z, PySem.W.cellsFrom_some _ _ _ (.inl z)⟩
  refine codeAny_call_function hr.depth (kin _ _ lk) rfl S.co S.gen rfl (PySem.W.codeRec_of kin hcd) (hb _ _ _ _ ?_)
  refine wpAny_newFunctionEnv_cells S.kind kinds fun env he s1 c => ?_
  subst he
  refine ⟨nol.keeps c.toInCall.keep, codeAny_func ?_⟩
  obtain ⟨t, ht, hq⟩ := body cdv A outer s H vs Q E gd (hr.deeper _) hs
  have I : Inv (cxOf (L2.CX P w) P w K mg base N qual (defScope st) f cdv A outer s H E) [] (L2.start N vs) H s1 := inv_start S hr.hd e0 hlen r c
  refine wpAny_mono (ht.run [] s1 (L2.start N vs) H _ I hq) (fun fl s' hz => ?_) fun e s' hz => hz
  have fin : ∀ {σ' : L2.St} {H' : Hp} {v : V} {u : Value}, Inv (cxOf (L2.CX P w) P w K mg base N qual (defScope st) f cdv A outer s H E) [] σ' H' s' → RelV v u → Q v H' → CE outer P w H s Q u s' :=
    fun {σ' H' v u} J rv z => ⟨v, H', J.os, J.bare, J.base, J.hok, rv, z⟩
  cases fl with
  | ret u =>
    obtain ⟨v, σ', H', J, rv, z⟩ := hz
    exact fin J rv z
  | next =>
    obtain ⟨σ', H', J, z⟩ := hz
    exact fin (v := V.non) (u := Value.none) J rfl z
  | brk => exact (hz.elim fun _ h => h.elim fun _ h => h.2).elim
  | cont => exact (hz.elim fun _ h => h.elim fun _ h => h.2).elim
end
section
variable {X : Cx} {k : Nat} {f C : Addr} {fd : FuncData} {ps : List Str} {sp : Sp} {dvs : List V} {ds : List Value} {E : XK} {x m : Str} {p pos apos : Pos} {e o : Expr} {es : List Expr} {ta : TE} {t : TA}
theorem run_g {pins : List (Addr × Obj)} {σ : L2.St} {H : Hp} {s : Shared} {Q : VK} {us ws : List Value} {vs : List V} {kw : List (Str × Value)} (F : FnG X.prog X.w X.K X.mg X.base k f fd ps sp) (hr : Room k X.A) (gd : X.A.guards = some []) (hx : Passes (L2.CX X.prog X.w) X E)
    (I : Inv X pins σ H s) (hb : BindsTo s fd ⟨us, kw⟩ (ps.zip ws)) (r : Vals vs ws) (h : sp vs H Q E) : wpAny (model X.prog X.w) X.A (call (.ref f) us kw) (EP X pins σ Q) X.xe s := by
  refine wpAny_call (codeAny_mono (F.run X.A X.stack s H ⟨us, kw⟩ ws vs Q E gd hr I.env0 hb r h) fun rr s' hq => ?_)
  cases rr with
  | error er => exact hx pins σ H s er s' I hq
  | ok fl =>
    cases fl with
    | ret u => exact I.after hq
    | next => exact hq.elim
    | brk => exact hq.elim
    | cont => exact hq.elim
def tCallG (sp : Sp) (dvs : List V) (E : XK) (t : TA) : TE := fun σ H Q => t σ H fun vs J => sp (vs ++ dvs) J Q E
theorem pe_callG (F : FnG X.prog X.w X.K X.mg X.base k f fd ps sp) (hr : Room k X.A) (gd : X.A.guards = some []) (hg : Gl X x) (hm : X.mg x = some (.ref f)) (hk : PySem.W.keepIn X.K (.ref f) = true) (hb : Binds X.K fd ps ds) (hd : Vals dvs ds) (hx : Passes (L2.CX X.prog X.w) X E)
    (ha : PA X (e :: es) t) (hdb : (x == ("__debug__" : Str)) = false := by decide) (he : starEach (e :: es) X.env = (false, eval e X.env) :: starEach es X.env := by rfl) (hpl : (backTo pos (starEach es X.env)).any (·.1) = false := by rfl) :
    PE X (.Call (.Name x p) (e :: es) [] pos) (tCallG sp dvs E t) := by
  constructor
  intro pins s σ H Q I h
  refine wpAny_Call_Name_kw (ld_glob I hg hm ?_ hdb)
  refine PySem.W.callWith_K (h₀ := X.base) I.ok.mod.kin hk (thn (ha.run pos pins s σ H _ I h) fun us s1 ⟨vs, J, I1, r, q⟩ => ⟨I1.kIn, ?_⟩) he hpl
  have r2 : Vals (vs ++ dvs) (us ++ ds) := r.append hd
  have hl : (us ++ ds).length = ps.length := by rw [← r2.length]; exact F.len _ _ _ _ q
  exact run_g (us := us) (kw := []) F hr gd hx I1 (hb s1 us I1.kIn hl) r2 q
theorem pe_callG0 (F : FnG X.prog X.w X.K X.mg X.base k f fd ps sp) (hr : Room k X.A) (gd : X.A.guards = some []) (hg : Gl X x) (hm : X.mg x = some (.ref f)) (hk : PySem.W.keepIn X.K (.ref f) = true) (hb : Binds X.K fd ps ds) (hd : Vals dvs ds) (hx : Passes (L2.CX X.prog X.w) X E)
    (hdb : (x == ("__debug__" : Str)) = false := by decide) : PE X (.Call (.Name x p) [] [] pos) (tCallG sp dvs E tNil) := by
  constructor
  intro pins s σ H Q I h
  refine wpAny_Call_Name_kw (ld_glob I hg hm ?_ hdb)
  have r2 : Vals ([] ++ dvs) ([] ++ ds) := Vals.append .nil hd
  have hl : (([] : List Value) ++ ds).length = ps.length := by rw [← r2.length]; exact F.len _ _ _ _ h
  exact PySem.W.callWith_K0 I.kIn hk (run_g (us := []) (kw := []) F hr gd hx I (hb s [] I.kIn hl) r2 h)
/-- the parameters' values, each by its place among what is written: first the positional ones, then the keywords' -/
def perm (idx : List Nat) (vs zs : List V) : List V := idx.map fun i => (vs ++ zs).getD i .non
def permU (idx : List Nat) (vs zs : List Value) : List Value := idx.map fun i => (vs ++ zs).getD i .none
theorem perm_rel (idx : List Nat) {vs zs : List V} {us ws : List Value} (r : Vals vs us) (q : Vals zs ws) : Vals (perm idx vs zs) (permU idx us ws) := by
  have ra := r.append q
  unfold perm permU
  induction idx with
  | nil => exact .nil
  | cons i is ih =>
    refine .cons ?_ ih
    show RelV ((vs ++ zs).getD i .non) ((us ++ ws).getD i .none)
    rw [List.getD_eq_getElem?_getD, List.getD_eq_getElem?_getD]
    cases e : (vs ++ zs)[i]? with
    | none =>
      rw [ra.none_of e]
      rfl
    | some v =>
      obtain ⟨u, h1, h2⟩ := ra.get e
      rw [h1]
      exact h2
/-- how a call with keywords binds -/
def KB (K : PySem.W.Frag) (fd : FuncData) (ps : List Str) (n : Nat) (ks : List Str) (idx : List Nat) : Prop := ∀ (s : Shared) (us ws : List Value), K.In s.heap → us.length = n → ws.length = ks.length → BindsTo s fd ⟨us, ks.zip ws⟩ (ps.zip (permU idx us ws))
def tCallGK (n m : Nat) (idx : List Nat) (sp : Sp) (E : XK) (t tk : TA) : TE := fun σ H Q => t σ H fun vs J => tk σ J fun zs J2 => vs.length = n ∧ zs.length = m ∧ sp (perm idx vs zs) J2 Q E
theorem pe_callGK {n : Nat} {ks : List Str} {kws : List Keyword} {tk : TA} {idx : List Nat} (F : FnG X.prog X.w X.K X.mg X.base k f fd ps sp) (hr : Room k X.A) (gd : X.A.guards = some []) (hg : Gl X x) (hm : X.mg x = some (.ref f))
    (hk : PySem.W.keepIn X.K (.ref f) = true) (hb : KB X.K fd ps n ks idx) (hx : Passes (L2.CX X.prog X.w) X E)
    (ha : PA X (e :: es) t) (hkw : PK X kws tk) (hall : (backToKw pos (keywordEach kws X.env)).all (·.1.isSome) = true := by rfl) (hks : (backToKw pos (keywordEach kws X.env)).filterMap (·.1) = ks := by rfl)
    (hdb : (x == ("__debug__" : Str)) = false := by decide) (he : starEach (e :: es) X.env = (false, eval e X.env) :: starEach es X.env := by rfl)
    (hpl : ((backTo pos (starEach (e :: es) X.env)).any (·.1) || (backToKw pos (keywordEach kws X.env)).any (·.1.isNone)) = false := by rfl) :
    PE X (.Call (.Name x p) (e :: es) kws pos) (tCallGK n ks.length idx sp E t tk) := by
  constructor
  intro pins s σ H Q I h
  refine wpAny_Call_Name_kw (ld_glob I hg hm ?_ hdb)
  refine PySem.W.callWith_KW (h₀ := X.base) I.ok.mod.kin hk hall (thn (ha.run pos pins s σ H _ I h) fun us s1 ⟨vs, H1, I1, r, q⟩ => ?_) hpl he
  refine thn (hkw.run pos pins s1 σ H1 _ I1 q) fun ws s2 ⟨zs, H2, I2, rz, l1, l2, q2⟩ => ⟨I2.kIn, ?_⟩
  rw [hks]
  have a1 : us.length = n := by rw [← r.length]; exact l1
  have a2 : ws.length = ks.length := by rw [← rz.length]; exact l2
  exact run_g F hr gd hx I2 (hb s2 us ws I2.kIn a1 a2) (perm_rel idx r rz) q2
theorem pe_callGK0 {ks : List Str} {kws : List Keyword} {tk : TA} {idx : List Nat} (F : FnG X.prog X.w X.K X.mg X.base k f fd ps sp) (hr : Room k X.A) (gd : X.A.guards = some []) (hg : Gl X x) (hm : X.mg x = some (.ref f))
    (hk : PySem.W.keepIn X.K (.ref f) = true) (hb : KB X.K fd ps 0 ks idx) (hx : Passes (L2.CX X.prog X.w) X E)
    (hkw : PK X kws tk) (hall : (backToKw pos (keywordEach kws X.env)).all (·.1.isSome) = true := by rfl) (hks : (backToKw pos (keywordEach kws X.env)).filterMap (·.1) = ks := by rfl)
    (hdb : (x == ("__debug__" : Str)) = false := by decide)
    (hpl : ((backTo pos (starEach [] X.env)).any (·.1) || (backToKw pos (keywordEach kws X.env)).any (·.1.isNone)) = false := by rfl) :
    PE X (.Call (.Name x p) [] kws pos) (tCallGK 0 ks.length idx sp E tNil tk) := by
  constructor
  intro pins s σ H Q I h
  refine wpAny_Call_Name_kw (ld_glob I hg hm ?_ hdb)
  refine PySem.W.callWith_KW0 (h₀ := X.base) I.ok.mod.kin hk hall ?_ hpl
  refine thn (hkw.run pos pins s σ H _ I h) fun ws s2 ⟨zs, H2, I2, rz, l1, l2, q2⟩ => ⟨I2.kIn, ?_⟩
  rw [hks]
  have a2 : ws.length = ks.length := by rw [← rz.length]; exact l2
  exact run_g (us := []) F hr gd hx I2 (hb s2 [] ws I2.kIn rfl a2) (perm_rel idx .nil rz) q2
end

/-! ### contracts over data -/
abbrev Fs := List D → Mp → KD → (Addr → List (Str × D) → Mp → Prop) → Prop
def lift (K : PySem.W.Frag) (F : Fs) : Sp := fun vs H Q E => ∃ (Z : Hp) (ds : List D) (M : Mp) (Qd : KD) (Rd : Addr → List (Str × D) → Mp → Prop), Sat K Z H M ∧ RepL K (fz Z H M) vs ds ∧ F ds M Qd Rd ∧
  (∀ v d H' M', Go K Z H M H' M' → Rep K (fz Z H' M') v d → Qd d M' → Q v H') ∧ (∀ C dx fv fs H' M', Go K Z H M H' M' → H' dx = some (.xd fv) → RepF K (fz Z H' M') fv fs → Rd C fs M' → E (.ref C) (some dx) H')
/-- the environment at a def's entry -/
def startE (n : Nat) (ds : List D) : En := ds.map some ++ List.replicate (n - ds.length) none
theorem start_rel {K : PySem.W.Frag} {H : Hp} {N : List Str} {vs : List V} {ds : List D} (r : RepL K H vs ds) : RelS K H (L2.start N vs) (startE N.length ds) := by
  unfold L2.start startE
  refine ⟨?_, fun i d e => ?_⟩
  · rw [List.length_append, List.length_append, List.length_map, List.length_map, List.length_replicate, List.length_replicate, r.len]
  · have hl := r.len
    by_cases hi : i < ds.length
    · rw [List.getElem?_append_left (by rw [List.length_map]; exact hi), List.getElem?_map] at e
      cases q : ds[i]? with
      | none =>
        rw [q] at e
        cases e
      | some d' =>
        rw [q] at e
        obtain rfl : d' = d := Option.some.inj (Option.some.inj e)
        obtain ⟨v, h1, h2⟩ := r.get q
        refine ⟨v, ?_, h2⟩
        rw [List.getElem?_append_left (by rw [List.length_map, hl]; exact hi), List.getElem?_map, h1]
        rfl
    · rw [List.getElem?_append_right (by rw [List.length_map]; omega), List.getElem?_replicate] at e
      split at e <;> cases e
/-- what a body's context is -/
structure Good (X : Cx) (P : Program) (w : World) (K : PySem.W.Frag) (mg : Str → Option Value) (base : Heap) (k : Nat) : Prop where
  prog : X.prog = P
  w : X.w = w
  K : X.K = K
  mg : X.mg = mg
  base : X.base = base
  room : Room k X.A
  gd : X.A.guards = some []
section
variable {P : Program} {w : World} {K : PySem.W.Frag} {mg : Str → Option Value} {base : Heap}
theorem ok_fn {x qual : Str} {st : Stmt} {f : Addr} {fd : FuncData} {N ps : List Str} {k : Nat} {F : Fs} (Fn : Fun K x qual st f fd) (S : FnScope N ps (defScope st)) (len : ∀ ds M Q E, F ds M Q E → ds.length = ps.length)
    (body : ∀ (cdv : Value) (A : Around) (outer : List Env) (s : Shared) (H : Hp) (E : XK), A.guards = some [] → Room k (A.deeper (envOfC qual (defScope st) s.heap.objs.size f cdv)) →
      ∃ t wr, DSs (cxOf (L2.CX P w) P w K mg base N qual (defScope st) f cdv A outer s H E) E (defBody st) t wr ∧ ∀ ds M Q R, F ds M Q R → wr { nx := fun _ M' => Q .non M', rt := Q, xr := R } (startE N.length ds) M) : FnG P w K mg base (k + 1) f fd ps (lift K F) := by
  refine fn_g Fn S (fun vs H Q E h => ?_) (fun cdv A outer s H vs Q E gd hr h => ?_)
  · obtain ⟨Z, ds, M, Qd, Rd, _, r, q, _⟩ := h
    rw [r.len]
    exact len _ _ _ _ q
  · obtain ⟨Z, ds, M, Qd, Rd, sat, r, q, kq, kr⟩ := h
    obtain ⟨t, wr, hd, hw⟩ := body cdv A outer s H E gd hr
    refine ⟨t, hd.pe, hd.sm _ _ _ _ _ _ _ ⟨sat, start_rel r⟩ (hw ds M _ _ q) ⟨fun ρ' M' σ' H' _ g z => kq _ _ _ _ g .non z, fun v d H' M' g rp z => kq v d H' M' g rp z, fun _ _ _ _ _ _ z => z.elim, fun _ _ _ _ _ _ z => z.elim, fun C dx fv fs H' M' g e1 rf z => kr C dx fv fs H' M' g e1 rf z⟩⟩
end
end L3
namespace L3
open PySem L2

/-! ### data read in full -/
/-- a list of the store, read as a value -/
def res (M : Mp) : D → D
  | .tok a => match M a with
    | some (.lst ds) => .lst ds
    | _ => .tok a
  | d => d
theorem res_rep {K : PySem.W.Frag} {Z : Hp} {H : Hp} {M : Mp} {v : V} : ∀ {d : D}, Sat K Z H M → Rep K (fz Z H M) v d → Rep K H v (res M d)
  | .non, _, r => r.up fz_sub
  | .bl _, _, r => r.up fz_sub
  | .int _, _, r => r.up fz_sub
  | .str _, _, r => r.up fz_sub
  | .ty _, _, r => r.up fz_sub
  | .tup _, _, r => r.up fz_sub
  | .lst _, _, r => r.up fz_sub
  | .tok a, S, r => by
    cases r
    show Rep K H (.ref a) (match M a with | some (.lst ds) => .lst ds | _ => .tok a)
    cases q : M a with
    | none => exact .tok a
    | some c =>
      cases c with
      | lst ds =>
        obtain ⟨vs, e, rl⟩ := S.cell a _ q
        exact .lst (.inl (.inl e)) (rl.up fz_sub)
      | aux => exact .tok a
      | drw _ => exact .tok a
      | ins _ _ => exact .tok a
/-- the items of a list, a tuple -/
def seqD (M : Mp) : D → Option (List D)
  | .tup ds => some ds
  | .lst ds => some ds
  | .tok a => match M a with
    | some (.lst ds) => some ds
    | _ => none
  | _ => none
theorem seq_of {K : PySem.W.Frag} {Z : Hp} {H : Hp} {M : Mp} {v : V} : ∀ {d : D} {ds : List D}, Sat K Z H M → Rep K (fz Z H M) v d → seqD M d = some ds → ∃ a vs, v = .ref a ∧ (SqL K H a vs ∨ SqT K H a vs) ∧ RepL K (fz Z H M) vs ds
  | .non, _, _, _, e => by cases e
  | .bl _, _, _, _, e => by cases e
  | .int _, _, _, _, e => by cases e
  | .str _, _, _, _, e => by cases e
  | .ty _, _, _, _, e => by cases e
  | .tup es, ds, S, r, e => by
    obtain rfl : es = ds := Option.some.inj e
    cases r with
    | tup hs ha => exact ⟨_, _, rfl, .inr (sqt_mono fz_sub hs), ha⟩
  | .lst es, ds, S, r, e => by
    obtain rfl : es = ds := Option.some.inj e
    cases r with
    | lst hs ha => exact ⟨_, _, rfl, .inl (fz_sub.seq hs), ha⟩
  | .tok a, ds, S, r, e => by
    cases r
    have e' : (match M a with | some (.lst ds) => some ds | _ => none) = some ds := e
    cases q : M a with
    | none =>
      rw [q] at e'
      cases e'
    | some c =>
      rw [q] at e'
      cases c with
      | lst es =>
        obtain rfl : es = ds := Option.some.inj e'
        obtain ⟨vs, e1, rl⟩ := S.cell a _ q
        exact ⟨_, _, rfl, .inl (.inl (.inl e1)), rl⟩
      | aux => cases e'
      | drw _ => cases e'
      | ins _ _ => cases e'

/-! ### plain data: equality, texts -/
mutual
def D.py : D → PyData
  | .non => .none
  | .bl b => .bool b
  | .int i => .int i
  | .str x => .str x
  | .ty _ => .none
  | .tok _ => .none
  | .tup ds => .tuple (pyL ds)
  | .lst ds => .list (pyL ds)
def pyL : List D → List PyData
  | [] => []
  | d :: ds => d.py :: pyL ds
end
/-- data without objects, so deep at most -/
def fit : Nat → D → Prop
  | _, .non => True
  | _, .bl _ => True
  | _, .int _ => True
  | _, .str x => PySem.PyData.strOk x = true
  | _, .ty _ => False
  | _, .tok _ => False
  | 0, .tup _ => False
  | 0, .lst _ => False
  | n + 1, .tup ds => ∀ d ∈ ds, fit n d
  | n + 1, .lst ds => ∀ d ∈ ds, fit n d
mutual
theorem Rep.dp {K : PySem.W.Frag} {H : Hp} : ∀ (n : Nat) (d : D) (v : V), fit n d → Rep K H v d → Dp K H v d.py
  | _, .non, _, _, r => by cases r; exact .non
  | _, .bl b, _, _, r => by cases r; exact .bl b
  | _, .int i, _, _, r => by cases r; exact .int i
  | _, .str x, _, _, r => by cases r; exact .str x
  | _, .ty _, _, f, _ => by simp [fit] at f
  | _, .tok _, _, f, _ => by simp [fit] at f
  | 0, .tup _, _, f, _ => by cases f
  | 0, .lst _, _, f, _ => by cases f
  | n + 1, .tup ds, _, f, r => by
    cases r with
    | tup hs ha => exact .tup hs (RepL.dp n ds _ f ha)
  | n + 1, .lst ds, _, f, r => by
    cases r with
    | lst hs ha => exact .lst hs (RepL.dp n ds _ f ha)
theorem RepL.dp {K : PySem.W.Frag} {H : Hp} : ∀ (n : Nat) (ds : List D) (vs : List V), (∀ d ∈ ds, fit n d) → RepL K H vs ds → DpAll K H vs (pyL ds)
  | _, [], _, _, r => by cases r; exact .nil
  | n, d :: ds, _, f, r => by
    cases r with
    | cons r1 r2 => exact .cons (Rep.dp n d _ (f d List.mem_cons_self) r1) (RepL.dp n ds _ (fun x hx => f x (List.mem_cons_of_mem _ hx)) r2)
end
mutual
theorem fit_lay : ∀ (n : Nat) (d : D), fit n d → d.py.canLay0 = true ∧ d.py.depth ≤ n
  | _, .non, _ => ⟨by simp [D.py, PyData.canLay0], by simp [D.py, PyData.depth]⟩
  | _, .bl b, _ => ⟨by simp [D.py, PyData.canLay0], by simp [D.py, PyData.depth]⟩
  | _, .int i, _ => ⟨by simp [D.py, PyData.canLay0], by simp [D.py, PyData.depth]⟩
  | _, .str x, f => by
    have f' : PySem.PyData.strOk x = true := by simpa [fit] using f
    exact ⟨by simp [D.py, PyData.canLay0, f'], by simp [D.py, PyData.depth]⟩
  | _, .ty _, f => by simp [fit] at f
  | _, .tok _, f => by simp [fit] at f
  | 0, .tup _, f => by cases f
  | 0, .lst _, f => by cases f
  | n + 1, .tup ds, f => by
    have q := fit_layL n ds f
    exact ⟨by simp [D.py, PyData.canLay0, q.1], by simp only [D.py, PyData.depth]; omega⟩
  | n + 1, .lst ds, f => by
    have q := fit_layL n ds f
    exact ⟨by simp [D.py, PyData.canLay0, q.1], by simp only [D.py, PyData.depth]; omega⟩
theorem fit_layL : ∀ (n : Nat) (ds : List D), (∀ d ∈ ds, fit n d) → PyData.canLayAll0 (pyL ds) = true ∧ PyData.depthAll (pyL ds) ≤ n
  | _, [], _ => ⟨by simp [pyL, PyData.canLayAll0], by simp [pyL, PyData.depthAll]⟩
  | n, d :: ds, f => by
    have q1 := fit_lay n d (f d List.mem_cons_self)
    have q2 := fit_layL n ds fun x hx => f x (List.mem_cons_of_mem _ hx)
    exact ⟨by simp [pyL, PyData.canLayAll0, q1.1, q2.1], by simp only [pyL, PyData.depthAll]; omega⟩
end
theorem fit_shaped {n : Nat} {d : D} (f : fit n d) (h : n ≤ 64) : SeqAt.shaped d.py = true := by
  have q := fit_lay n d f
  unfold SeqAt.shaped
  rw [q.1, Bool.true_and]
  exact decide_eq_true (by omega)
def eqD (d e : D) : Bool := PyData.eqv d.py e.py
def shown (d : D) : Str := d.py.shown
/-! how long its text is at most -/
mutual
def cost : D → Nat
  | .non => 5
  | .bl _ => 5
  | .int _ => 210
  | .str x => 10 * x.length + 4
  | .ty _ => 5
  | .tok _ => 5
  | .tup ds => costL ds + 4
  | .lst ds => costL ds + 4
def costL : List D → Nat
  | [] => 0
  | d :: ds => cost d + 2 + costL ds
end
/-- data that can be shown -/
def shw : Nat → D → Prop
  | _, .non => True
  | _, .bl _ => True
  | _, .int i => i.natAbs < 2 ^ 200
  | _, .str x => PySem.PyData.strOk x = true
  | _, .ty _ => False
  | _, .tok _ => False
  | 0, .tup _ => False
  | 0, .lst _ => False
  | n + 1, .tup ds => ∀ d ∈ ds, shw n d
  | n + 1, .lst ds => ∀ d ∈ ds, shw n d
theorem shw_fit : ∀ (n : Nat) (d : D), shw n d → fit n d
  | _, .non, _ => by simp [fit]
  | _, .bl _, _ => by simp [fit]
  | _, .int _, _ => by simp [fit]
  | _, .str x, f => by simpa [fit, shw] using f
  | _, .ty _, f => by simp [shw] at f
  | _, .tok _, f => by simp [shw] at f
  | 0, .tup _, f => by cases f
  | 0, .lst _, f => by cases f
  | n + 1, .tup ds, f => fun d hd => shw_fit n d (f d hd)
  | n + 1, .lst ds, f => fun d hd => shw_fit n d (f d hd)
theorem log200 {n : Nat} (h : n < 2 ^ 200) : n.log2 < 200 := by
  by_cases h0 : n = 0
  · subst h0
    decide
  · exact (Nat.log2_lt h0).mpr h
mutual
theorem shw_show : ∀ (n : Nat) (d : D), shw n d → d.py.showable = true ∧ d.py.hasDict = false
  | _, .non, _ => ⟨by simp [D.py, PyData.showable], by simp [D.py, PyData.hasDict]⟩
  | _, .bl b, _ => ⟨by simp [D.py, PyData.showable], by simp [D.py, PyData.hasDict]⟩
  | _, .int i, f => by
    have f' : i.natAbs < 2 ^ 200 := by simpa only [shw] using f
    have q := log200 f'
    exact ⟨by simp only [D.py, PyData.showable]; exact decide_eq_true (by omega), by simp [D.py, PyData.hasDict]⟩
  | _, .str x, f => ⟨by simp [D.py, PyData.showable], by simp [D.py, PyData.hasDict]⟩
  | _, .ty _, f => by simp [shw] at f
  | _, .tok _, f => by simp [shw] at f
  | 0, .tup _, f => by cases f
  | 0, .lst _, f => by cases f
  | n + 1, .tup ds, f => by
    have q := shw_showL n ds f
    exact ⟨by simp [D.py, PyData.showable, q.1], by simp [D.py, PyData.hasDict, q.2]⟩
  | n + 1, .lst ds, f => by
    have q := shw_showL n ds f
    exact ⟨by simp [D.py, PyData.showable, q.1], by simp [D.py, PyData.hasDict, q.2]⟩
theorem shw_showL : ∀ (n : Nat) (ds : List D), (∀ d ∈ ds, shw n d) → PyData.showableAll (pyL ds) = true ∧ PyData.hasDictAll (pyL ds) = false
  | _, [], _ => ⟨by simp [pyL, PyData.showableAll], by simp [pyL, PyData.hasDictAll]⟩
  | n, d :: ds, f => by
    have q1 := shw_show n d (f d List.mem_cons_self)
    have q2 := shw_showL n ds fun x hx => f x (List.mem_cons_of_mem _ hx)
    exact ⟨by simp [pyL, PyData.showableAll, q1.1, q2.1], by simp [pyL, PyData.hasDictAll, q1.2, q2.2]⟩
end
theorem pyL_len : ∀ ds : List D, (pyL ds).length = ds.length
  | [] => rfl
  | d :: ds => by rw [pyL, List.length_cons, List.length_cons, pyL_len ds]
theorem shownAll_len : ∀ ds : List PyData, (PyData.shownAll ds).length = ds.length
  | [] => rfl
  | d :: ds => by rw [PyData.shownAll, List.length_cons, List.length_cons, shownAll_len ds]
mutual
theorem shw_cost : ∀ (n : Nat) (d : D), shw n d → d.py.shown.length ≤ cost d
  | _, .non, _ => by decide
  | _, .bl b, _ => by cases b <;> decide
  | _, .int i, f => by
    have f' : i.natAbs < 2 ^ 200 := by simpa only [shw] using f
    have q := PySem.int_text_length_le (a := i) (k := 200) (by decide) (log200 f')
    have e : (D.int i).py.shown.length = (toString i).length := by
      show (Str.ofString (toString i)).length = _
      rw [PySem.ofString_length]
    rw [e]
    show _ ≤ 210
    omega
  | _, .str x, f => by
    have f' : PySem.PyData.strOk x = true := by simpa only [shw] using f
    have h : ∀ c ∈ x.cps.toList, c < 16 ^ 8 := fun c hc => by
      have z := (Array.all_eq_true'.mp f') c (by simpa using hc)
      have z' : c < 0x110000 := by simpa using z
      exact Nat.lt_trans z' (by decide)
    have q := PySem.StrLaws.reprText_len x h
    show (reprText x).length ≤ 10 * x.length + 4
    omega
  | _, .ty _, f => by simp [shw] at f
  | _, .tok _, f => by simp [shw] at f
  | 0, .tup _, f => by cases f
  | 0, .lst _, f => by cases f
  | n + 1, .tup ds, f => by
    have q := shw_costL n ds f
    have z := PySem.tupleText_len_le (PyData.shownAll (pyL ds))
    rw [shownAll_len, pyL_len] at z
    show (tupleText (PyData.shownAll (pyL ds))).length ≤ costL ds + 4
    omega
  | n + 1, .lst ds, f => by
    have q := shw_costL n ds f
    have z := PySem.listText_len_le (PyData.shownAll (pyL ds))
    rw [shownAll_len, pyL_len] at z
    show (listText (PyData.shownAll (pyL ds))).length ≤ costL ds + 4
    omega
theorem shw_costL : ∀ (n : Nat) (ds : List D), (∀ d ∈ ds, shw n d) → ((PyData.shownAll (pyL ds)).map (·.length)).sum + 2 * ds.length ≤ costL ds
  | _, [], _ => Nat.le_refl _
  | n, d :: ds, f => by
    have q1 := shw_cost n d (f d List.mem_cons_self)
    have q2 := shw_costL n ds fun x hx => f x (List.mem_cons_of_mem _ hx)
    simp only [pyL, PyData.shownAll, List.map_cons, List.sum_cons, List.length_cons, costL]
    omega
end
/-- repr(x), by data -/
theorem call_repr_any {X : Cx} {k : Nat} (hr : Room k X.A) (gd : X.A.guards = some []) : CallR X (.builtin "repr") (fun xs H Q => ∃ (x : V) (d : D) (n : Nat), xs = [x] ∧ Rep X.K H x d ∧ shw n d ∧ n ≤ 60 ∧ cost d ≤ 16000000 ∧ Q (.str (shown d)) H) := by
  intro pins s σ H vs us Q I r h
  obtain ⟨x, d, n, rfl, rp, sh, hn, hc, q⟩ := h
  obtain ⟨u, rfl, ru⟩ := vals1 r
  have hs := shw_show n d sh
  have hl := shw_cost n d sh
  have hz : d.py.shown.length ≤ sizeLine := by
    rw [sizeLine_eq]
    omega
  have hd := (fit_lay n d (shw_fit n d sh)).2
  have hu := hr.units
  obtain ⟨as, rd⟩ := Dp.reads I d.py x u (Rep.dp n d x (shw_fit n d sh) rp) ru
  cases d with
  | non =>
    cases rp
    cases ru
    exact P.repr_of_none ⟨.str _, H, I.tok _, ⟨_, rfl⟩, q⟩
  | bl b =>
    cases rp
    cases ru
    refine P.repr_of_bool ⟨.str _, H, I.tok _, ⟨_, rfl⟩, ?_⟩
    have e : (if b = true then Str.ofString "True" else Str.ofString "False") = shown (.bl b) := by cases b <;> rfl
    rw [e]
    exact q
  | int i =>
    cases rp
    obtain ⟨t, rfl⟩ := ru
    have sh' : i.natAbs < 2 ^ 200 := by simpa only [shw] using sh
    have q3 := log200 sh'
    exact P.repr_of_int (by omega) ⟨.str _, H, I.tok _, ⟨_, rfl⟩, q⟩
  | str y =>
    cases rp
    obtain ⟨t, rfl⟩ := ru
    exact P.repr_of_str ⟨.str _, H, I.tok _, ⟨_, rfl⟩, q⟩ hz
  | ty _ => simp [shw] at sh
  | tok _ => simp [shw] at sh
  | tup ds =>
    cases rp
    cases ru
    refine repr_of_reads' (h₀ := s.heap) rd hs.1 (fun z => by rw [hs.2] at z; cases z) gd (by omega) (fun _ _ e => e) (fun h' u' tk hk => ?_) hz
    exact ⟨.str _, H, I.kept hk, ⟨_, rfl⟩, q⟩
  | lst ds =>
    cases rp
    cases ru
    refine repr_of_reads' (h₀ := s.heap) rd hs.1 (fun z => by rw [hs.2] at z; cases z) gd (by omega) (fun _ _ e => e) (fun h' u' tk hk => ?_) hz
    exact ⟨.str _, H, I.kept hk, ⟨_, rfl⟩, q⟩
end L3
namespace L3
open PySem L2
section
variable {X : Cx} {E : XK} {e a b c : Expr} {es : List Expr} {t ta tb tc te : TE} {w wa wb wc we : WE} {pos : Pos} {k : Nat}

/-! ### names, constants -/
def wVar (i : Nat) : WE := fun ρ M Q => match ρ[i]? with
  | some (some d) => Q d M
  | _ => False
theorem sim_var {K : PySem.W.Frag} (i : Nat) : SimE K (tVar i) (wVar i) := by
  intro Z ρ M σ H Q Q' r h q
  unfold wVar at h
  split at h
  · rename_i d e
    obtain ⟨v, e1, rp⟩ := r.env.2 i d e
    exact ⟨v, e1, q v d H M r.refl rp h⟩
  · exact h.elim
theorem de_var (i : Nat) {x : Str} (hN : X.N[i]? = some x := by rfl) (hv : Vis X.env.scope x := by first | exact Or.inl rfl | exact Or.inr (Or.inl rfl) | exact Or.inr (Or.inr rfl)) (hd : (x == ("__debug__" : Str)) = false := by decide)
    (hcd : (x == ("__classdict__" : Str)) = false := by decide) : DE X (.Name x pos) (tVar i) (wVar i) := ⟨pe_var hN hv hd hcd, sim_var i⟩
def wC (d : D) : WE := fun _ M Q => Q d M
theorem sim_c {K : PySem.W.Frag} {v : V} {d : D} (h : ∀ H, Rep K H v d) : SimE K (tC v) (wC d) := fun _ _ M _ H _ _ r q z => z v d H M r.refl (h _) q
theorem de_int {i j} : DE X (.Constant (.int i) j pos) (tC (.int i)) (wC (.int i)) := ⟨pe_int, sim_c fun _ => .int i⟩
theorem de_bl {i j} : DE X (.Constant (.bool i) j pos) (tC (.bl i)) (wC (.bl i)) := ⟨pe_bl, sim_c fun _ => .bl i⟩
theorem de_non {j} : DE X (.Constant .none j pos) (tC .non) (wC .non) := ⟨pe_non, sim_c fun _ => .non⟩
theorem de_str {x j} : DE X (.Constant (.str x) j pos) (tC (.str x)) (wC (.str x)) := ⟨pe_str, sim_c fun _ => .str x⟩
/-- a name of the module that holds a value (a constant) -/
theorem de_glob {x : Str} {v : V} {d : D} {u : Value} (hg : Gl X x) (hm : X.mg x = some u) (r : RelV v u) (h : ∀ H, Rep X.K H v d) (hd : (x == ("__debug__" : Str)) = false := by decide) : DE X (.Name x pos) (tC v) (wC d) := ⟨pe_glob hg hm r hd, sim_c h⟩

/-! ### two values -/
abbrev F2 := D → D → Mp → KD → Prop
def SimR (K : PySem.W.Frag) (r : R2) (f : F2) : Prop := ∀ (Z : Hp) (x y : V) (d e : D) (H : Hp) (M : Mp) (Q : KD) (Q' : VK), Sat K Z H M → Rep K (fz Z H M) x d → Rep K (fz Z H M) y e → f d e M Q → (∀ v d' H' M', Go K Z H M H' M' → Rep K (fz Z H' M') v d' → Q d' M' → Q' v H') → r x y H Q'
def wOp (f : F2) (wa wb : WE) : WE := fun ρ M Q => wa ρ M fun d M1 => wb ρ M1 fun e M2 => f d e M2 Q
theorem sim_op {K : PySem.W.Frag} {r : R2} {f : F2} (ha : SimE K ta wa) (hb : SimE K tb wb) (hr : SimR K r f) : SimE K (tOp r ta tb) (wOp f wa wb) := by
  intro Z ρ M σ H Q Q' s h q
  refine ha Z ρ M σ H _ _ s h fun x d H1 M1 g1 r1 q1 => ?_
  refine hb Z ρ M1 σ H1 _ _ (s.go g1) q1 fun y e H2 M2 g2 r2 q2 => ?_
  exact hr Z x y d e H2 M2 Q Q' g2.sat (r1.up g2.ex) r2 q2 fun v d' H3 M3 g3 r3 q3 => q v d' H3 M3 ((g1.trans g2).trans g3) r3 q3
theorem de_op {op : Operator} {r : R2} {f : F2} (ho : OpR X (binaryOp op) r) (hs : SimR X.K r f) (ha : DE X a ta wa) (hb : DE X b tb wb) : DE X (.BinOp a op b pos) (tOp r ta tb) (wOp f wa wb) := ⟨pe_op ho ha.pe hb.pe, sim_op ha.sm hb.sm hs⟩
theorem de_cmp {op : CmpOp} {r : R2} {f : F2} (ho : OpR X (compareOp op) r) (hs : SimR X.K r f) (ha : DE X a ta wa) (hb : DE X b tb wb) (hm : behindInMarks op b = false := by first | exact nomark _ (by decide) (by decide) | rfl) : DE X (.Compare a [op] [b] pos) (tOp r ta tb) (wOp f wa wb) :=
  ⟨pe_cmpR ho ha.pe hb.pe hm, sim_op ha.sm hb.sm hs⟩
/-- a value's answer as a test -/
def wB (w : WE) : WT := fun ρ M Q => w ρ M fun d M1 => match d with
  | .bl x => Q x M1
  | _ => False
theorem sim_test {K : PySem.W.Frag} (ha : SimE K t w) : SimT K (tTest t) (wB w) := by
  intro Z ρ M σ H Q Q' s h q
  refine ha Z ρ M σ H _ _ s h fun x d H1 M1 g1 r1 q1 => ?_
  cases d with
  | bl y =>
    cases r1
    exact ⟨y, rfl, q y H1 M1 g1 q1⟩
  | _ => exact q1.elim
theorem dt_cmp {op : CmpOp} {r : R2} {f : F2} (ho : OpR X (compareOp op) r) (hs : SimR X.K r f) (ha : DE X a ta wa) (hb : DE X b tb wb) (hm : behindInMarks op b = false := by first | exact nomark _ (by decide) (by decide) | rfl) : DT X (.Compare a [op] [b] pos) (tTest (tOp r ta tb)) (wB (wOp f wa wb)) :=
  ⟨pt_cmpR ho ha.pe hb.pe hm, sim_test (sim_op ha.sm hb.sm hs)⟩
/-- a op b op' c -/
def wChain (f f' : F2) (wa wb wc : WE) : WE := fun ρ M Q => wa ρ M fun d M1 => wb ρ M1 fun e M2 => f d e M2 fun z M3 => match z with
  | .bl true => wc ρ M3 fun g M4 => f' e g M4 Q
  | .bl false => Q (.bl false) M3
  | _ => False
theorem sim_chain {K : PySem.W.Frag} {r r' : R2} {f f' : F2} (ha : SimE K ta wa) (hb : SimE K tb wb) (hc : SimE K tc wc) (hr : SimR K r f) (hr' : SimR K r' f') : SimE K (tChain r r' ta tb tc) (wChain f f' wa wb wc) := by
  intro Z ρ M σ H Q Q' s h q
  refine ha Z ρ M σ H _ _ s h fun x d H1 M1 g1 r1 q1 => ?_
  refine hb Z ρ M1 σ H1 _ _ (s.go g1) q1 fun y e H2 M2 g2 r2 q2 => ?_
  refine hr Z x y d e H2 M2 _ _ g2.sat (r1.up g2.ex) r2 q2 fun z g H3 M3 g3 r3 q3 => ?_
  have g13 := (g1.trans g2).trans g3
  cases g with
  | bl k =>
    cases r3
    refine ⟨k, rfl, ?_⟩
    cases k with
    | true =>
      rw [if_pos rfl]
      refine hc Z ρ M3 σ H3 _ _ (s.go g13) q3 fun v d4 H4 M4 g4 r4 q4 => ?_
      exact hr' Z y v e d4 H4 M4 Q Q' g4.sat ((r2.up g3.ex).up g4.ex) r4 q4 fun v5 d5 H5 M5 g5 r5 q5 => q v5 d5 H5 M5 ((g13.trans g4).trans g5) r5 q5
    | false =>
      rw [if_neg Bool.false_ne_true]
      exact q _ _ H3 M3 g13 (.bl false) q3
  | _ => exact q3.elim
theorem de_chain {op op' : CmpOp} {r r' : R2} {f f' : F2} (ho : OpR X (compareOp op) r) (hs : SimR X.K r f) (ho' : OpR X (compareOp op') r') (hs' : SimR X.K r' f') (ha : DE X a ta wa) (hb : DE X b tb wb) (hc : DE X c tc wc) (hm : lastMarks [op, op'] [b, c] = false := by with_unfolding_all rfl) :
    DE X (.Compare a [op, op'] [b, c] pos) (tChain r r' ta tb tc) (wChain f f' wa wb wc) := ⟨pe_chain ho ho' ha.pe hb.pe hc.pe hm, sim_chain ha.sm hb.sm hc.sm hs hs'⟩
theorem dt_chain {op op' : CmpOp} {r r' : R2} {f f' : F2} (ho : OpR X (compareOp op) r) (hs : SimR X.K r f) (ho' : OpR X (compareOp op') r') (hs' : SimR X.K r' f') (ha : DE X a ta wa) (hb : DE X b tb wb) (hc : DE X c tc wc) (hm : lastMarks [op, op'] [b, c] = false := by with_unfolding_all rfl) :
    DT X (.Compare a [op, op'] [b, c] pos) (tTest (tChain r r' ta tb tc)) (wB (wChain f f' wa wb wc)) := ⟨pt_chain ho ho' ha.pe hb.pe hc.pe hm, sim_test (sim_chain ha.sm hb.sm hc.sm hs hs')⟩

/-! ### arithmetic -/
def fI (C : Int → Int → Prop) (g : Int → Int → D) : F2 := fun d e M Q => match d, e with
  | .int i, .int j => C i j ∧ Q (g i j) M
  | _, _ => False
def fI0 (g : Int → Int → D) : F2 := fun d e M Q => match d, e with
  | .int i, .int j => Q (g i j) M
  | _, _ => False
theorem sim_I {K : PySem.W.Frag} {C : Int → Int → Prop} {g : Int → Int → V} {g' : Int → Int → D} (h : ∀ i j H, Rep K H (g i j) (g' i j)) : SimR K (rI C g) (fI C g') := by
  intro Z x y d e H M Q Q' S r1 r2 f q
  cases d <;> cases e <;> first | exact f.elim | skip
  cases r1
  cases r2
  exact ⟨_, _, rfl, rfl, f.1, q _ _ H M (Go.refl S) (h _ _ _) f.2⟩
theorem sim_I0 {K : PySem.W.Frag} {g : Int → Int → V} {g' : Int → Int → D} (h : ∀ i j H, Rep K H (g i j) (g' i j)) : SimR K (rI0 g) (fI0 g') := by
  intro Z x y d e H M Q Q' S r1 r2 f q
  cases d <;> cases e <;> first | exact f.elim | skip
  cases r1
  cases r2
  exact ⟨_, _, rfl, rfl, q _ _ H M (Go.refl S) (h _ _ _) f⟩
def addD : F2 := fun d e M Q => match d, e with
  | .int i, .int j => Q (.int (i + j)) M
  | .str i, .str j => i.length + j.length ≤ sizeLine ∧ Q (.str (i ++ j)) M
  | .tup i, .tup j => i.length + j.length ≤ sizeLine ∧ Q (.tup (i ++ j)) M
  | d, e => ∃ i j, (∃ a, d = .tok a ∨ d = .lst i) ∧ (∃ a, e = .tok a ∨ e = .lst j) ∧ seqD M d = some i ∧ seqD M e = some j ∧ i.length + j.length ≤ sizeLine ∧ Q (.lst (i ++ j)) M
theorem lst_of {K : PySem.W.Frag} {Z : Hp} {H : Hp} {M : Mp} {v : V} {d : D} {ds : List D} (S : Sat K Z H M) (r : Rep K (fz Z H M) v d) (h : ∃ a, d = .tok a ∨ d = .lst ds) (e : seqD M d = some ds) : ∃ a vs, v = .ref a ∧ SqL K H a vs ∧ RepL K (fz Z H M) vs ds := by
  obtain ⟨a, h⟩ := h
  rcases h with rfl | rfl
  · cases r
    have e' : (match M a with | some (.lst ds) => some ds | _ => none) = some ds := e
    cases q : M a with
    | none =>
      rw [q] at e'
      cases e'
    | some c =>
      rw [q] at e'
      cases c with
      | lst es =>
        obtain rfl : es = ds := Option.some.inj e'
        obtain ⟨vs, e1, rl⟩ := S.cell a _ q
        exact ⟨_, _, rfl, .inl (.inl e1), rl⟩
      | aux => cases e'
      | drw _ => cases e'
      | ins _ _ => cases e'
  · cases r with
    | lst hs ha => exact ⟨_, _, rfl, fz_sub.seq hs, ha⟩
/-- list + list -/
def rCatL (K : PySem.W.Frag) : R2 := fun x y H Q => ∃ l b xs zs, x = .ref l ∧ y = .ref b ∧ SqL K H l xs ∧ SqL K H b zs ∧ xs.length + zs.length ≤ sizeLine ∧ ∀ p, H p = none → Q (.ref p) (upd H p (.lst (xs ++ zs)))
theorem op_catL : OpR X (binaryOp .Add) (rCatL X.K) := by
  intro pins s σ H x y v u Q I rx ry h
  obtain ⟨l, b, xs, zs, rfl, rfl, h1, h2, hz, q⟩ := h
  cases rx
  cases ry
  obtain ⟨its, rv, p1, z1⟩ := I.list h1
  obtain ⟨its2, rv2, p2, z2⟩ := I.list h2
  have l1 := rv.length
  have l2 := rv2.length
  obtain ⟨⟨cl1, dd1, da1, sl1⟩, n1, ho1, hc1, hx1, hd1⟩ := p1
  obtain ⟨⟨cl2, dd2, da2, sl2⟩, n2, ho2, hc2, hx2, hd2⟩ := p2
  simp only at hc1 hd1 hc2 hd2
  subst hc1 hd1 hc2 hd2
  have ea : its.toArray ++ its2.toArray = (its ++ its2).toArray := by simp
  refine PySem.concat_meets ⟨_, ho1, rfl⟩ ⟨_, ho2, rfl⟩ PySem.noFill_list_add PySem.seq_list_add PySem.F.slot_list_add PySem.F.entry_list_add (PySem.F.args_list_add_2 _ _) (PyProof.Rows.list_addW l b its.toArray its2.toArray n1 n2 dd1 dd2 sl1 sl2 (by rw [List.size_toArray, List.size_toArray]; omega)) ⟨ho1, ho2, ?_⟩
  rw [ea]
  exact ⟨.ref _, _, I.lnew (t' := s.toks) (rv.append rv2) (by rw [List.length_append]; omega), rfl, q _ I.fresh⟩
theorem sim_cat {K : PySem.W.Frag} {Z : Hp} : ∀ (x y : V) (d e : D) (H : Hp) (M : Mp) (Q : KD) (Q' : VK) (i j : List D), Sat K Z H M → Rep K (fz Z H M) x d → Rep K (fz Z H M) y e → (∃ a, d = .tok a ∨ d = .lst i) → (∃ a, e = .tok a ∨ e = .lst j) → seqD M d = some i → seqD M e = some j → i.length + j.length ≤ sizeLine → Q (.lst (i ++ j)) M →
    (∀ v d' H' M', Go K Z H M H' M' → Rep K (fz Z H' M') v d' → Q d' M' → Q' v H') → rCatL K x y H Q' := by
  intro x y d e H M Q Q' i j S r1 r2 h1 h2 s1 s2 l q z
  obtain ⟨p, vs, rfl, hp, rl⟩ := lst_of S r1 h1 s1
  obtain ⟨p', ws, rfl, hp', rl'⟩ := lst_of S r2 h2 s2
  refine ⟨p, p', vs, ws, rfl, rfl, hp, hp', by rw [rl.len, rl'.len]; exact l, fun o ho => ?_⟩
  obtain ⟨g, n⟩ := Go.laid (o := .lst (vs ++ ws)) S ho
  exact z _ _ _ _ g (.lst (.inl (.inl n)) ((rl.app rl').up g.ex)) q
def rAddA (K : PySem.W.Frag) : R2 := fun x y H Q => rI0 (fun i j => .int (i + j)) x y H Q ∨ (∃ i j, x = .str i ∧ y = .str j ∧ i.length + j.length ≤ sizeLine ∧ Q (.str (i ++ j)) H) ∨ rCatL K x y H Q ∨ rCatA K x y H Q
theorem op_addA : OpR X (binaryOp .Add) (rAddA X.K) := op_add.or (op_add_str.or (op_catL.or op_catA))
theorem sim_addA {K : PySem.W.Frag} : SimR K (rAddA K) addD := by
  intro Z x y d e H M Q Q' S r1 r2 f q
  have viaL : (∃ i j, (∃ a, d = .tok a ∨ d = .lst i) ∧ (∃ a, e = .tok a ∨ e = .lst j) ∧ seqD M d = some i ∧ seqD M e = some j ∧ i.length + j.length ≤ sizeLine ∧ Q (.lst (i ++ j)) M) → rAddA K x y H Q' := fun ⟨i, j, h1, h2, s1, s2, l, z⟩ =>
    .inr (.inr (.inl (sim_cat x y d e H M Q Q' i j S r1 r2 h1 h2 s1 s2 l z q)))
  unfold addD at f
  split at f
  · cases r1
    cases r2
    exact .inl ⟨_, _, rfl, rfl, q _ _ H M (Go.refl S) (.int _) f⟩
  · cases r1
    cases r2
    exact .inr (.inl ⟨_, _, rfl, rfl, f.1, q _ _ H M (Go.refl S) (.str _) f.2⟩)
  · rename_i i j
    cases r1 with
    | @tup p vs _ h1 l1 =>
      cases r2 with
      | @tup p' ws _ h2 l2 =>
        refine .inr (.inr (.inr ⟨p, p', vs, ws, rfl, rfl, sqt_mono fz_sub h1, sqt_mono fz_sub h2, by rw [l1.len, l2.len]; exact f.1, fun en => ?_, fun _ en => ?_, fun _ _ o ho => ?_⟩))
        · subst en
          cases l1
          exact q _ _ H M (Go.refl S) (.tup h2 l2) f.2
        · subst en
          cases l2
          have z := f.2
          rw [List.append_nil] at z
          exact q _ _ H M (Go.refl S) (.tup h1 l1) z
        · obtain ⟨g, n⟩ := Go.laid (o := .tup (vs ++ ws)) S ho
          exact q _ _ _ _ g (.tup (.inl (.inl n)) ((l1.app l2).up g.ex)) f.2
  · exact viaL f
theorem de_add (ha : DE X a ta wa) (hb : DE X b tb wb) : DE X (.BinOp a .Add b pos) (tOp (rAddA X.K) ta tb) (wOp addD wa wb) := de_op op_addA sim_addA ha hb
theorem de_sub (ha : DE X a ta wa) (hb : DE X b tb wb) : DE X (.BinOp a .Sub b pos) (tOp (rI0 fun i j => .int (i - j)) ta tb) (wOp (fI0 fun i j => .int (i - j)) wa wb) := de_op op_sub (sim_I0 fun _ _ _ => .int _) ha hb
/-- products: one is not too great, or both together -/
def CM (i j : Int) : Prop := CMul i j ∨ CMulW i j
theorem op_mulM {X : Cx} : OpR X (binaryOp .Mult) (rI CM fun i j => .int (i * j)) := fun pins s σ H x y v u Q I r1 r2 ⟨i, j, e1, e2, c, q⟩ => c.elim (fun c => op_mul pins s σ H x y v u Q I r1 r2 ⟨i, j, e1, e2, c, q⟩) fun c => op_mulW pins s σ H x y v u Q I r1 r2 ⟨i, j, e1, e2, c, q⟩
theorem de_mul (ha : DE X a ta wa) (hb : DE X b tb wb) : DE X (.BinOp a .Mult b pos) (tOp (rI CM fun i j => .int (i * j)) ta tb) (wOp (fI CM fun i j => .int (i * j)) wa wb) := de_op op_mulM (sim_I fun _ _ _ => .int _) ha hb
theorem de_fdiv (ha : DE X a ta wa) (hb : DE X b tb wb) : DE X (.BinOp a .FloorDiv b pos) (tOp (rI CDivW fun i j => .int (i / j)) ta tb) (wOp (fI CDivW fun i j => .int (i / j)) wa wb) := de_op op_fdivW (sim_I fun _ _ _ => .int _) ha hb
theorem de_mod (ha : DE X a ta wa) (hb : DE X b tb wb) : DE X (.BinOp a .Mod b pos) (tOp (rI (fun _ j => 0 < j) fun i j => .int (i % j)) ta tb) (wOp (fI (fun _ j => 0 < j) fun i j => .int (i % j)) wa wb) := de_op op_mod (sim_I fun _ _ _ => .int _) ha hb
theorem de_pow (ha : DE X a ta wa) (hb : DE X b tb wb) : DE X (.BinOp a .Pow b pos) (tOp (rI CPow fun i j => .int (i ^ j.toNat)) ta tb) (wOp (fI CPow fun i j => .int (i ^ j.toNat)) wa wb) := de_op op_pow (sim_I fun _ _ _ => .int _) ha hb
def wNeg (wa : WE) : WE := fun ρ M Q => wa ρ M fun d M1 => match d with
  | .int i => Q (.int (-i)) M1
  | _ => False
theorem de_neg (ha : DE X a ta wa) : DE X (.UnaryOp .USub a pos) (tUn (rU fun i => .int (-i)) ta) (wNeg wa) := by
  refine ⟨pe_un un_neg ha.pe, fun Z ρ M σ H Q Q' s h q => ?_⟩
  refine ha.sm Z ρ M σ H _ _ s h fun x d H1 M1 g1 r1 q1 => ?_
  cases d with
  | int i =>
    cases r1
    exact ⟨i, rfl, q _ _ H1 M1 g1 (.int _) q1⟩
  | _ => exact q1.elim

/-! ### comparisons -/
def eqD2 (neg : Bool) : F2 := fun d e M Q => (∃ n, n ≤ 60 ∧ fit n (res M d) ∧ fit n (res M e)) ∧ Q (.bl (if neg then !eqD (res M d) (res M e) else eqD (res M d) (res M e))) M
theorem sim_eq {K : PySem.W.Frag} : SimR K (rEqD K) (eqD2 false) := by
  intro Z x y d e H M Q Q' S r1 r2 ⟨⟨n, hn, f1, f2⟩, f⟩ q
  exact ⟨_, _, Rep.dp n _ _ f1 (res_rep S r1), Rep.dp n _ _ f2 (res_rep S r2), fit_shaped f1 (by omega), fit_shaped f2 (by omega), q _ _ H M (Go.refl S) (.bl _) f⟩
theorem sim_ne {K : PySem.W.Frag} : SimR K (rNeD K) (eqD2 true) := by
  intro Z x y d e H M Q Q' S r1 r2 ⟨⟨n, hn, f1, f2⟩, f⟩ q
  exact ⟨_, _, Rep.dp n _ _ f1 (res_rep S r1), Rep.dp n _ _ f2 (res_rep S r2), fit_shaped f1 (by omega), fit_shaped f2 (by omega), q _ _ H M (Go.refl S) (.bl _) f⟩
theorem op_eqG (hr : Room k X.A) : OpR X (compareOp .Eq) (rEqD X.K) := op_eqD hr.units
theorem op_neG (hr : Room k X.A) : OpR X (compareOp .NotEq) (rNeD X.K) := op_neD hr.units
abbrev fLt : F2 := fI0 fun i j => .bl (decide (i < j))
abbrev fLe : F2 := fI0 fun i j => .bl (decide (i ≤ j))
abbrev fGt : F2 := fI0 fun i j => .bl (decide (j < i))
abbrev fGe : F2 := fI0 fun i j => .bl (decide (j ≤ i))
theorem sim_lt {K : PySem.W.Frag} : SimR K (rI0 fun i j => .bl (decide (i < j))) fLt := sim_I0 fun _ _ _ => .bl _
theorem sim_le {K : PySem.W.Frag} : SimR K (rI0 fun i j => .bl (decide (i ≤ j))) fLe := sim_I0 fun _ _ _ => .bl _
theorem sim_gt {K : PySem.W.Frag} : SimR K (rI0 fun i j => .bl (decide (j < i))) fGt := sim_I0 fun _ _ _ => .bl _
theorem sim_ge {K : PySem.W.Frag} : SimR K (rI0 fun i j => .bl (decide (j ≤ i))) fGe := sim_I0 fun _ _ _ => .bl _
def fIsN (neg : Bool) : F2 := fun d e M Q => match d, e with
  | .non, .non => Q (.bl (!neg)) M
  | _, .non => Q (.bl neg) M
  | _, _ => False
theorem rep_non {K : PySem.W.Frag} {H : Hp} {x : V} {d : D} (r : Rep K H x d) (h : d ≠ .non) : x ≠ .non := fun z => by
  subst z
  cases r
  exact h rfl
theorem sim_isN {K : PySem.W.Frag} : SimR K (fun x y H Q => y = .non ∧ Q (.bl (decide (x = .non))) H) (fIsN false) := by
  intro Z x y d e H M Q Q' S r1 r2 f q
  unfold fIsN at f
  split at f
  · cases r1
    cases r2
    exact ⟨rfl, q _ _ H M (Go.refl S) (.bl _) f⟩
  · rename_i h
    cases r2
    rw [decide_eq_false (rep_non r1 h)]
    exact ⟨rfl, q _ _ H M (Go.refl S) (.bl _) f⟩
  · exact f.elim
theorem sim_notN {K : PySem.W.Frag} : SimR K (fun x y H Q => y = .non ∧ Q (.bl (!decide (x = .non))) H) (fIsN true) := by
  intro Z x y d e H M Q Q' S r1 r2 f q
  unfold fIsN at f
  split at f
  · cases r1
    cases r2
    exact ⟨rfl, q _ _ H M (Go.refl S) (.bl _) f⟩
  · rename_i h
    cases r2
    rw [decide_eq_false (rep_non r1 h)]
    exact ⟨rfl, q _ _ H M (Go.refl S) (.bl _) f⟩
  · exact f.elim

/-! ### tests -/
/-- a bool's own value as a test: a name, a call, a subscript .. -/
theorem dt_val (h : DE X e t w) (he : ∀ whole, isTrue e X.env whole = (do let v ← whole; standAt e.pos; holding [v] (truthy v)) := by intro _; rfl) : DT X e (tB t) (wB w) := ⟨pt_val h.pe he, sim_test h.sm⟩
def wNot (w : WT) : WT := fun ρ M Q => w ρ M fun b M1 => Q (!b) M1
def wAnd (w u : WT) : WT := fun ρ M Q => w ρ M fun b M1 => if b = true then u ρ M1 Q else Q false M1
def wOr (w u : WT) : WT := fun ρ M Q => w ρ M fun b M1 => if b = true then Q true M1 else u ρ M1 Q
variable {tA tB' : TT} {wA wB' : WT} {rest : List Expr}
theorem dt_not (ha : DT X a tA wA) : DT X (.UnaryOp .Not a pos) (tNot tA) (wNot wA) := ⟨pt_not ha.pe, fun Z ρ M σ H Q Q' s h q => ha.sm Z ρ M σ H _ _ s h fun b H1 M1 g z => q _ H1 M1 g z⟩
theorem sim_and {K : PySem.W.Frag} (ha : SimT K tA wA) (hb : SimT K tB' wB') : SimT K (tAnd tA tB') (wAnd wA wB') := by
  intro Z ρ M σ H Q Q' s h q
  refine ha Z ρ M σ H _ _ s h fun b H1 M1 g z => ?_
  cases b with
  | true => exact hb Z ρ M1 σ H1 _ _ (s.go g) z fun b' H2 M2 g2 z2 => q b' H2 M2 (g.trans g2) z2
  | false => exact q _ H1 M1 g z
theorem sim_or {K : PySem.W.Frag} (ha : SimT K tA wA) (hb : SimT K tB' wB') : SimT K (tOr tA tB') (wOr wA wB') := by
  intro Z ρ M σ H Q Q' s h q
  refine ha Z ρ M σ H _ _ s h fun b H1 M1 g z => ?_
  cases b with
  | false => exact hb Z ρ M1 σ H1 _ _ (s.go g) z fun b' H2 M2 g2 z2 => q b' H2 M2 (g.trans g2) z2
  | true => exact q _ H1 M1 g z
theorem dw_and1 (ha : DT X a tA wA) : DW X (.BoolOp .And [a] pos) tA wA := ⟨pw_and1 ha.pe, ha.sm⟩
theorem dw_or1 (ha : DT X a tA wA) : DW X (.BoolOp .Or [a] pos) tA wA := ⟨pw_or1 ha.pe, ha.sm⟩
theorem dw_and (ha : DT X a tA wA) (hb : DW X (.BoolOp .And (b :: rest) pos) tB' wB') : DW X (.BoolOp .And (a :: b :: rest) pos) (tAnd tA tB') (wAnd wA wB') := ⟨pw_and ha.pe hb.pe, sim_and ha.sm hb.sm⟩
theorem dw_or (ha : DT X a tA wA) (hb : DW X (.BoolOp .Or (b :: rest) pos) tB' wB') : DW X (.BoolOp .Or (a :: b :: rest) pos) (tOr tA tB') (wOr wA wB') := ⟨pw_or ha.pe hb.pe, sim_or ha.sm hb.sm⟩
theorem DW.dt {t : TT} {w : WT} (h : DW X e t w) : DT X e t w := ⟨h.pe.pt, h.sm⟩
/-! .. as values -/
def wAndV (wa wb : WE) : WE := fun ρ M Q => wa ρ M fun d M1 => match d with
  | .bl true => wb ρ M1 Q
  | .bl false => Q (.bl false) M1
  | _ => False
def wOrV (wa wb : WE) : WE := fun ρ M Q => wa ρ M fun d M1 => match d with
  | .bl false => wb ρ M1 Q
  | .bl true => Q (.bl true) M1
  | _ => False
def wNotV (wa : WE) : WE := fun ρ M Q => wa ρ M fun d M1 => match d with
  | .bl b => Q (.bl (!b)) M1
  | _ => False
theorem de_one {op} (h : DE X a t w) : DE X (.BoolOp op [a] pos) t w := ⟨pe_one h.pe, h.sm⟩
theorem de_and (ha : DE X a ta wa) (hb : DE X (.BoolOp .And (b :: rest) pos) tb wb) : DE X (.BoolOp .And (a :: b :: rest) pos) (tAndV ta tb) (wAndV wa wb) := by
  refine ⟨pe_and ha.pe hb.pe, fun Z ρ M σ H Q Q' s h q => ?_⟩
  refine ha.sm Z ρ M σ H _ _ s h fun x d H1 M1 g1 r1 q1 => ?_
  cases d with
  | bl y =>
    cases r1
    cases y with
    | true => exact ⟨true, rfl, hb.sm Z ρ M1 σ H1 _ _ (s.go g1) q1 fun v d2 H2 M2 g2 r2 q2 => q v d2 H2 M2 (g1.trans g2) r2 q2⟩
    | false => exact ⟨false, rfl, q _ _ H1 M1 g1 (.bl _) q1⟩
  | _ => exact q1.elim
theorem de_or (ha : DE X a ta wa) (hb : DE X (.BoolOp .Or (b :: rest) pos) tb wb) : DE X (.BoolOp .Or (a :: b :: rest) pos) (tOrV ta tb) (wOrV wa wb) := by
  refine ⟨pe_or ha.pe hb.pe, fun Z ρ M σ H Q Q' s h q => ?_⟩
  refine ha.sm Z ρ M σ H _ _ s h fun x d H1 M1 g1 r1 q1 => ?_
  cases d with
  | bl y =>
    cases r1
    cases y with
    | false => exact ⟨false, rfl, hb.sm Z ρ M1 σ H1 _ _ (s.go g1) q1 fun v d2 H2 M2 g2 r2 q2 => q v d2 H2 M2 (g1.trans g2) r2 q2⟩
    | true => exact ⟨true, rfl, q _ _ H1 M1 g1 (.bl _) q1⟩
  | _ => exact q1.elim
theorem de_not (ha : DE X a ta wa) : DE X (.UnaryOp .Not a pos) (tNotV ta) (wNotV wa) := by
  refine ⟨pe_not ha.pe, fun Z ρ M σ H Q Q' s h q => ?_⟩
  refine ha.sm Z ρ M σ H _ _ s h fun x d H1 M1 g1 r1 q1 => ?_
  cases d with
  | bl y =>
    cases r1
    exact ⟨y, rfl, q _ _ H1 M1 g1 (.bl _) q1⟩
  | _ => exact q1.elim
def wIf (c : WT) (wa wb : WE) : WE := fun ρ M Q => c ρ M fun b M1 => if b = true then wa ρ M1 Q else wb ρ M1 Q
theorem de_if {c : Expr} (hc : DT X c tA wA) (ha : DE X a ta wa) (hb : DE X b tb wb) : DE X (.IfExp c a b pos) (tIf tA ta tb) (wIf wA wa wb) := by
  refine ⟨pe_ifExp hc.pe ha.pe hb.pe, fun Z ρ M σ H Q Q' s h q => ?_⟩
  refine hc.sm Z ρ M σ H _ _ s h fun y H1 M1 g1 q1 => ?_
  cases y with
  | true => exact ha.sm Z ρ M1 σ H1 _ _ (s.go g1) q1 fun v d2 H2 M2 g2 r2 q2 => q v d2 H2 M2 (g1.trans g2) r2 q2
  | false => exact hb.sm Z ρ M1 σ H1 _ _ (s.go g1) q1 fun v d2 H2 M2 g2 r2 q2 => q v d2 H2 M2 (g1.trans g2) r2 q2

/-! ### arguments, displays, calls -/
def wNil : WA := fun _ M Q => Q [] M
def wCons (w : WE) (r : WA) : WA := fun ρ M Q => w ρ M fun d M1 => r ρ M1 fun ds M2 => Q (d :: ds) M2
variable {tr : TA} {wr : WA}
theorem sim_nil {K : PySem.W.Frag} : SimA K tNil wNil := fun Z ρ M σ H Q Q' s h q => q [] [] H M s.refl .nil h
theorem sim_cons {K : PySem.W.Frag} (ha : SimE K te we) (hr : SimA K tr wr) : SimA K (tCons te tr) (wCons we wr) := by
  intro Z ρ M σ H Q Q' s h q
  refine ha Z ρ M σ H _ _ s h fun x d H1 M1 g1 r1 q1 => ?_
  refine hr Z ρ M1 σ H1 _ _ (s.go g1) q1 fun xs ds H2 M2 g2 r2 q2 => ?_
  exact q (x :: xs) (d :: ds) H2 M2 (g1.trans g2) (.cons (r1.up g2.ex) r2) q2
theorem da_nil : DA X [] tNil wNil := ⟨pa_nil, sim_nil⟩
theorem da_cons (ha : DE X e te we) (hr : DA X es tr wr) (hs : starEach (e :: es) X.env = (false, eval e X.env) :: starEach es X.env := by rfl) : DA X (e :: es) (tCons te tr) (wCons we wr) := ⟨pa_cons ha.pe hr.pe hs, sim_cons ha.sm hr.sm⟩
def wTup (r : WA) : WE := fun ρ M Q => r ρ M fun ds M1 => ds.length ≤ sizeLine ∧ Q (.tup ds) M1
def wLst (r : WA) : WE := fun ρ M Q => r ρ M fun ds M1 => ds.length ≤ sizeLine ∧ Q (.lst ds) M1
theorem de_tup {x1} (h : DA X es tr wr) : DE X (.Tuple es x1 pos) (tTup tr) (wTup wr) := by
  refine ⟨pe_tup h.pe, fun Z ρ M σ H Q Q' s hh q => ?_⟩
  refine h.sm Z ρ M σ H _ _ s hh fun xs ds H1 M1 g1 r1 ⟨l, q1⟩ => ⟨by rw [r1.len]; exact l, fun p hp => ?_⟩
  obtain ⟨g, n⟩ := Go.laid (o := .tup xs) g1.sat hp
  exact q _ _ _ _ (g1.trans g) (.tup (.inl (.inl n)) (r1.up g.ex)) q1
theorem de_lst (h : DA X es tr wr) : DE X (.List es pos) (tLst tr) (wLst wr) := by
  refine ⟨pe_lst h.pe, fun Z ρ M σ H Q Q' s hh q => ?_⟩
  refine h.sm Z ρ M σ H _ _ s hh fun xs ds H1 M1 g1 r1 ⟨l, q1⟩ => ⟨by rw [r1.len]; exact l, fun p hp => ?_⟩
  obtain ⟨g, n⟩ := Go.laid (o := .lst xs) g1.sat hp
  exact q _ _ _ _ (g1.trans g) (.lst (.inl (.inl n)) (r1.up g.ex)) q1
/-- a list that is to change -/
def wLstM (r : WA) : WE := fun ρ M Q => r ρ M fun ds M1 => ds.length ≤ sizeLine ∧ ∀ p, M1 p = none → Q (.tok p) (setM M1 p (.lst ds))
theorem de_lstM (h : DA X es tr wr) : DE X (.List es pos) (tLst tr) (wLstM wr) := by
  refine ⟨pe_lst h.pe, fun Z ρ M σ H Q Q' s hh q => ?_⟩
  refine h.sm Z ρ M σ H _ _ s hh fun xs ds H1 M1 g1 r1 ⟨l, q1⟩ => ⟨by rw [r1.len]; exact l, fun p hp => ?_⟩
  exact q _ _ _ _ (g1.trans (Go.putL g1.sat (.inl hp) r1)) (.tok p) (q1 p (g1.sat.free hp))
/-- f(e, ..) by its contract -/
def wCall (F : Fs) (r : WA) : WE := fun ρ M Q => r ρ M fun ds M1 => F ds M1 Q fun _ _ _ => False
theorem sim_call {K : PySem.W.Frag} {F : Fs} (ha : SimA K tr wr) : SimE K (tCallG (lift K F) [] E0 tr) (wCall F wr) := by
  intro Z ρ M σ H Q Q' s h q
  refine ha Z ρ M σ H _ _ s h fun xs ds H1 M1 g1 r1 q1 => ?_
  show lift K F (xs ++ []) H1 Q' E0
  rw [List.append_nil]
  exact ⟨Z, ds, M1, Q, _, g1.sat, r1, q1, fun v d H2 M2 g2 r2 q2 => q v d H2 M2 (g1.trans g2) r2 q2, fun _ _ _ _ _ _ _ _ _ z => z.elim⟩
variable {f : Addr} {fd : FuncData} {ps : List Str} {F : Fs} {x : Str} {p : Pos}
theorem de_call (G : FnG X.prog X.w X.K X.mg X.base k f fd ps (lift X.K F)) (hr : Room k X.A) (gd : X.A.guards = some []) (hm : X.mg x = some (.ref f)) (hk : PySem.W.keepIn X.K (.ref f) = true) (hb : Binds X.K fd ps [])
    (ha : DA X (e :: es) tr wr) (hg : Gl X x := by rfl) (hdb : (x == ("__debug__" : Str)) = false := by decide) (he : starEach (e :: es) X.env = (false, eval e X.env) :: starEach es X.env := by rfl) (hpl : (backTo pos (starEach es X.env)).any (·.1) = false := by rfl) :
    DE X (.Call (.Name x p) (e :: es) [] pos) (tCallG (lift X.K F) [] E0 tr) (wCall F wr) := ⟨pe_callG G hr gd hg hm hk hb .nil passL ha.pe hdb he hpl, sim_call ha.sm⟩
theorem de_call0 (G : FnG X.prog X.w X.K X.mg X.base k f fd ps (lift X.K F)) (hr : Room k X.A) (gd : X.A.guards = some []) (hm : X.mg x = some (.ref f)) (hk : PySem.W.keepIn X.K (.ref f) = true) (hb : Binds X.K fd ps [])
    (hg : Gl X x := by rfl) (hdb : (x == ("__debug__" : Str)) = false := by decide) : DE X (.Call (.Name x p) [] [] pos) (tCallG (lift X.K F) [] E0 tNil) (wCall F wNil) := ⟨pe_callG0 G hr gd hg hm hk hb .nil passL hdb, sim_call sim_nil⟩
end
end L3
namespace L3
open PySem L2
section
variable {X : Cx} {E : XK} {e a b c : Expr} {es : List Expr} {t ta tb tc te : TE} {w wa wb wc we : WE} {pos : Pos} {k : Nat} {tr : TA} {wr : WA}
/-! ### keywords -/
structure DK (X : Cx) (kws : List Keyword) (t : TA) (w : WA) : Prop where
  pe : PK X kws t
  sm : SimA X.K t w
variable {nm : Option Str} {kpos : Pos} {kws : List Keyword} {tk : TA} {wk : WA}
theorem dk_nil : DK X [] tNil wNil := ⟨pk_nil, sim_nil⟩
theorem dk_cons (ha : DE X e te we) (hr : DK X kws tk wk) : DK X (⟨nm, e, kpos⟩ :: kws) (tCons te tk) (wCons we wk) := ⟨pk_cons ha.pe hr.pe, sim_cons ha.sm hr.sm⟩
def permD (idx : List Nat) (ds es : List D) : List D := idx.map fun i => (ds ++ es).getD i .non
theorem rep_getD {K : PySem.W.Frag} {H : Hp} : ∀ {vs : List V} {ds : List D} (i : Nat), RepL K H vs ds → Rep K H (vs.getD i .non) (ds.getD i .non)
  | _, _, _, .nil => .non
  | _, _, 0, .cons r _ => r
  | _, _, i + 1, .cons _ q => rep_getD i q
theorem perm_repL {K : PySem.W.Frag} {H : Hp} (idx : List Nat) {vs zs : List V} {ds es : List D} (r : RepL K H vs ds) (q : RepL K H zs es) : RepL K H (perm idx vs zs) (permD idx ds es) := by
  have ra := r.app q
  unfold perm permD
  induction idx with
  | nil => exact .nil
  | cons i is ih => exact .cons (rep_getD i ra) ih
def wCallK (n m : Nat) (idx : List Nat) (F : Fs) (r rk : WA) : WE := fun ρ M Q => r ρ M fun ds M1 => rk ρ M1 fun es M2 => ds.length = n ∧ es.length = m ∧ F (permD idx ds es) M2 Q fun _ _ _ => False
theorem sim_callK {K : PySem.W.Frag} {F : Fs} {n m : Nat} {idx : List Nat} (ha : SimA K tr wr) (hk : SimA K tk wk) : SimE K (tCallGK n m idx (lift K F) E0 tr tk) (wCallK n m idx F wr wk) := by
  intro Z ρ M σ H Q Q' s h q
  refine ha Z ρ M σ H _ _ s h fun xs ds H1 M1 g1 r1 q1 => ?_
  refine hk Z ρ M1 σ H1 _ _ (s.go g1) q1 fun ys es H2 M2 g2 r2 ⟨l1, l2, q2⟩ => ⟨by rw [r1.len]; exact l1, by rw [r2.len]; exact l2, ?_⟩
  exact ⟨Z, _, M2, Q, _, g2.sat, perm_repL idx (r1.up g2.ex) r2, q2, fun v d H3 M3 g3 r3 q3 => q v d H3 M3 ((g1.trans g2).trans g3) r3 q3, fun _ _ _ _ _ _ _ _ _ z => z.elim⟩
variable {f : Addr} {fd : FuncData} {ps : List Str} {F : Fs} {x : Str} {p : Pos}
theorem de_callK {n : Nat} {ks : List Str} {idx : List Nat} (G : FnG X.prog X.w X.K X.mg X.base k f fd ps (lift X.K F)) (hr : Room k X.A) (gd : X.A.guards = some []) (hm : X.mg x = some (.ref f)) (hk : PySem.W.keepIn X.K (.ref f) = true) (hb : KB X.K fd ps n ks idx)
    (ha : DA X (e :: es) tr wr) (hkw : DK X kws tk wk) (hg : Gl X x := by rfl) (hall : (backToKw pos (keywordEach kws X.env)).all (·.1.isSome) = true := by rfl) (hks : (backToKw pos (keywordEach kws X.env)).filterMap (·.1) = ks := by rfl)
    (hdb : (x == ("__debug__" : Str)) = false := by decide) (he : starEach (e :: es) X.env = (false, eval e X.env) :: starEach es X.env := by rfl)
    (hpl : ((backTo pos (starEach (e :: es) X.env)).any (·.1) || (backToKw pos (keywordEach kws X.env)).any (·.1.isNone)) = false := by rfl) :
    DE X (.Call (.Name x p) (e :: es) kws pos) (tCallGK n ks.length idx (lift X.K F) E0 tr tk) (wCallK n ks.length idx F wr wk) := ⟨pe_callGK G hr gd hg hm hk hb passL ha.pe hkw.pe hall hks hdb he hpl, sim_callK ha.sm hkw.sm⟩
theorem de_callK0 {ks : List Str} {idx : List Nat} (G : FnG X.prog X.w X.K X.mg X.base k f fd ps (lift X.K F)) (hr : Room k X.A) (gd : X.A.guards = some []) (hm : X.mg x = some (.ref f)) (hk : PySem.W.keepIn X.K (.ref f) = true) (hb : KB X.K fd ps 0 ks idx)
    (hkw : DK X kws tk wk) (hg : Gl X x := by rfl) (hall : (backToKw pos (keywordEach kws X.env)).all (·.1.isSome) = true := by rfl) (hks : (backToKw pos (keywordEach kws X.env)).filterMap (·.1) = ks := by rfl)
    (hdb : (x == ("__debug__" : Str)) = false := by decide)
    (hpl : ((backTo pos (starEach [] X.env)).any (·.1) || (backToKw pos (keywordEach kws X.env)).any (·.1.isNone)) = false := by rfl) :
    DE X (.Call (.Name x p) [] kws pos) (tCallGK 0 ks.length idx (lift X.K F) E0 tNil tk) (wCallK 0 ks.length idx F wNil wk) := ⟨pe_callGK0 G hr gd hg hm hk hb passL hkw.pe hall hks hdb hpl, sim_callK sim_nil hkw.sm⟩

/-! ### places of lists, tuples, texts -/
def ixD : F2 := fun d e M Q => match d, e with
  | .str z, .int i => z.length ≤ sizeLine ∧ ∃ c, atI z.cps.toList i = some c ∧ Q (.str ⟨#[c]⟩) M
  | d, .int i => ∃ ds x, seqD M d = some ds ∧ atI ds i = some x ∧ Q x M
  | _, _ => False
theorem atI_len {α β : Type} {xs : List α} {ys : List β} {i : Int} {x : α} (h : atI xs i = some x) (l : xs.length = ys.length) : ∃ (y : β) (j : Nat), atI ys i = some y ∧ ys[j]? = some y ∧ xs[j]? = some x := by
  unfold atI at h ⊢
  rw [l] at h
  cases q : ixN ys.length i with
  | none =>
    rw [q] at h
    cases h
  | some j =>
    rw [q] at h
    have h' : xs[j]? = some x := h
    have hj : j < ys.length := by
      rw [← l]
      exact (List.getElem?_eq_some_iff.mp h').1
    exact ⟨ys[j], j, List.getElem?_eq_getElem hj, List.getElem?_eq_getElem hj, h'⟩
theorem sim_ix {K : PySem.W.Frag} : SimR K (rIx K) ixD := by
  intro Z x y d e H M Q Q' S r1 r2 f q
  unfold ixD at f
  split at f
  · cases r1
    cases r2
    obtain ⟨l, c, ha, z⟩ := f
    exact .inr (.inr ⟨_, _, c, rfl, rfl, l, ha, q _ _ H M (Go.refl S) (.str _) z⟩)
  · cases r2
    obtain ⟨ds, x', hs, ha, z⟩ := f
    obtain ⟨a, vs, rfl, hv, rl⟩ := seq_of S r1 hs
    obtain ⟨v, j, a1, a2, a3⟩ := atI_len ha rl.len.symm
    obtain ⟨v', b1, b2⟩ := rl.get a3
    rw [a2] at b1
    cases b1
    rcases hv with hv | hv
    · exact .inl ⟨a, vs, _, v, rfl, rfl, hv, a1, q _ _ H M (Go.refl S) b2 z⟩
    · exact .inr (.inl ⟨a, vs, _, v, rfl, rfl, hv, a1, q _ _ H M (Go.refl S) b2 z⟩)
  · exact f.elim
theorem de_ix (ha : DE X a ta wa) (hb : DE X b tb wb) (hs : PlainIx b := by intro _ _; rfl) : DE X (.Subscript a b pos) (tOp (rIx X.K) ta tb) (wOp ixD wa wb) := ⟨pe_ix ix_seq ha.pe hb.pe hs, sim_op ha.sm hb.sm sim_ix⟩

/-! ### slices -/
abbrev WO := En → Mp → (Option Int → Mp → Prop) → Prop
def SimO (K : PySem.W.Frag) (t : TO) (w : WO) : Prop := ∀ (Z : Hp) (ρ : En) (M : Mp) (σ : L2.St) (H : Hp) (Q : Option Int → Mp → Prop) (Q' : Option Int → Hp → Prop), R3 K Z ρ M σ H → w ρ M Q → (∀ b H' M', Go K Z H M H' M' → Q b M' → Q' b H') → t σ H Q'
structure DO (X : Cx) (e : Option Expr) (t : TO) (w : WO) : Prop where
  pe : PO X e t
  sm : SimO X.K t w
def wNoP : WO := fun _ M Q => Q none M
def wPart (w : WE) : WO := fun ρ M Q => w ρ M fun d M1 => match d with
  | .int i => Q (some i) M1
  | _ => False
theorem do_none : DO X none tNoPart wNoP := ⟨po_none, fun Z ρ M σ H Q Q' s h q => q _ H M s.refl h⟩
theorem do_some (h : DE X e te we) : DO X (some e) (tPart te) (wPart we) := by
  refine ⟨po_some h.pe, fun Z ρ M σ H Q Q' s hh q => ?_⟩
  refine h.sm Z ρ M σ H _ _ s hh fun x d H1 M1 g1 r1 q1 => ?_
  cases d with
  | int i =>
    cases r1
    exact ⟨i, rfl, q _ H1 M1 g1 q1⟩
  | _ => exact q1.elim
def cutD (xs : List D) (lo hi : Option Int) : List D := (xs.drop (HT.sIx xs.length 0 lo)).take (HT.sIx xs.length xs.length hi - HT.sIx xs.length 0 lo)
theorem cut_rep {K : PySem.W.Frag} {H : Hp} {vs : List V} {ds : List D} (r : RepL K H vs ds) (lo hi : Option Int) : RepL K H (cutV vs lo hi) (cutD ds lo hi) := by
  unfold cutV cutD
  rw [r.len]
  exact (r.drop _).take _
def slD : D → Option Int → Option Int → Mp → KD → Prop := fun d lo hi M Q => match d with
  | .tup ds => Q (.tup (cutD ds lo hi)) M
  | .str z => z.length ≤ sizeLine ∧ Q (.str (cutS z lo hi)) M
  | d => ∃ ds, (∃ a, d = .tok a ∨ d = .lst ds) ∧ seqD M d = some ds ∧ Q (.lst (cutD ds lo hi)) M
def rSlU (K : PySem.W.Frag) : V → Option Int → Option Int → Hp → VK → Prop := fun x lo hi H Q => rSlL K x lo hi H Q ∨ rSlA K x lo hi H Q ∨ rSlS x lo hi H Q
theorem sl_any : SlR X (rSlU X.K) := sl_list.or (sl_tupA.or sl_str)
def wSl (w : WE) (wl wh : WO) : WE := fun ρ M Q => w ρ M fun d M1 => wl ρ M1 fun l M2 => wh ρ M2 fun u M3 => slD d l u M3 Q
theorem sim_sl {K : PySem.W.Frag} {tl th : TO} {wl wh : WO} (h : SimE K te we) (hl : SimO K tl wl) (hh : SimO K th wh) : SimE K (tSl (rSlU K) te tl th) (wSl we wl wh) := by
  intro Z ρ M σ H Q Q' s hw q
  refine h Z ρ M σ H _ _ s hw fun x d H1 M1 g1 r1 q1 => ?_
  refine hl Z ρ M1 σ H1 _ _ (s.go g1) q1 fun lo H2 M2 g2 q2 => ?_
  refine hh Z ρ M2 σ H2 _ _ (s.go (g1.trans g2)) q2 fun hi H3 M3 g3 q3 => ?_
  have g := (g1.trans g2).trans g3
  have r3 := (r1.up g2.ex).up g3.ex
  unfold slD at q3
  split at q3
  · rename_i ds
    cases r3 with
    | @tup a vs _ hs rl =>
      refine .inr (.inl ⟨a, vs, rfl, sqt_mono fz_sub hs, fun ⟨e1, e2⟩ => ?_, fun _ p hp => ?_⟩)
      · have e : cutD ds lo hi = ds := by
          unfold cutD
          rw [← rl.len, e1, e2, Nat.sub_zero, List.drop_zero, rl.len, List.take_length]
        rw [e] at q3
        exact q _ _ H3 M3 g (.tup hs rl) q3
      · obtain ⟨g4, n⟩ := Go.laid (o := .tup (cutV vs lo hi)) g3.sat hp
        exact q _ _ _ _ (g.trans g4) (.tup (.inl (.inl n)) ((cut_rep rl lo hi).up g4.ex)) q3
  · rename_i z
    cases r3
    exact .inr (.inr ⟨z, rfl, q3.1, q _ _ H3 M3 g (.str _) q3.2⟩)
  · obtain ⟨ds, hd, hs, z⟩ := q3
    obtain ⟨a, vs, rfl, ha, rl⟩ := lst_of g3.sat r3 hd hs
    refine .inl ⟨a, vs, rfl, ha, fun p hp => ?_⟩
    obtain ⟨g4, n⟩ := Go.laid (o := .lst (cutV vs lo hi)) g3.sat hp
    exact q _ _ _ _ (g.trans g4) (.lst (.inl (.inl n)) ((cut_rep rl lo hi).up g4.ex)) z
theorem de_slice {lo hi : Option Expr} {tl th : TO} {wl wh : WO} {p2 : Pos} (he : DE X e te we) (hl : DO X lo tl wl) (hu : DO X hi th wh) : DE X (.Subscript e (.Slice lo hi none p2) pos) (tSl (rSlU X.K) te tl th) (wSl we wl wh) := ⟨pe_slice sl_any he.pe hl.pe hu.pe, sim_sl he.sm hl.sm hu.sm⟩
end
end L3
namespace L3
open PySem L2
section
variable {X : Cx} {E : XK} {e a b c : Expr} {es : List Expr} {t ta tb tc te : TE} {w wa wb wc we : WE} {pos : Pos} {k : Nat} {tr : TA} {wr : WA} {st : Stmt} {rest : List Stmt} {ts tu : TS} {ws wu : WS} {tA : TT} {wA : WT}
/-! ### truth of any value -/
def truD : D → Mp → Option Bool
  | .non, _ => some false
  | .bl b, _ => some b
  | .int i, _ => some (i != 0)
  | .str x, _ => if x.length ≤ sizeLine then some ((x.length : Int) != 0) else none
  | .tup ds, _ => some (!ds.isEmpty)
  | .lst ds, _ => some (!ds.isEmpty)
  | .tok a, M => match M a with
    | some (.lst ds) => some (!ds.isEmpty)
    | _ => none
  | .ty _, _ => none
def wTru (w : WE) : WT := fun ρ M Q => w ρ M fun d M1 => match truD d M1 with
  | some b => Q b M1
  | none => False
theorem rep_empty {K : PySem.W.Frag} {H : Hp} {vs : List V} {ds : List D} (r : RepL K H vs ds) : vs.isEmpty = ds.isEmpty := by
  cases r <;> rfl
theorem tru_of {K : PySem.W.Frag} {Z H : Hp} {M : Mp} {v : V} : ∀ {d : D} {b : Bool}, Sat K Z H M → Rep K (fz Z H M) v d → truD d M = some b → TruV K v H b
  | .non, b, _, r, e => by cases r; cases e; rfl
  | .bl x, b, _, r, e => by cases r; cases e; rfl
  | .int i, b, _, r, e => by cases r; cases e; rfl
  | .str x, b, _, r, e => by
    cases r
    have e' : (if x.length ≤ sizeLine then some ((x.length : Int) != 0) else none) = some b := e
    by_cases h : x.length ≤ sizeLine
    · rw [if_pos h] at e'
      cases e'
      exact ⟨h, rfl⟩
    · rw [if_neg h] at e'
      cases e'
  | .tup ds, b, S, r, e => by
    cases e
    cases r with
    | tup hs rl => exact .inr (.inl ⟨_, sqt_mono fz_sub hs, by rw [rep_empty rl]⟩)
  | .lst ds, b, S, r, e => by
    cases e
    cases r with
    | lst hs rl => exact .inl ⟨_, fz_sub.seq hs, by rw [rep_empty rl]⟩
  | .ty _, b, _, _, e => by cases e
  | .tok a, b, S, r, e => by
    cases r
    have e' : (match M a with | some (.lst ds) => some (!ds.isEmpty) | _ => none) = some b := e
    cases q : M a with
    | none =>
      rw [q] at e'
      cases e'
    | some c =>
      rw [q] at e'
      cases c with
      | lst ds =>
        cases e'
        obtain ⟨vs, e1, rl⟩ := S.cell a _ q
        exact .inl ⟨vs, .inl (.inl e1), by rw [rep_empty rl]⟩
      | aux => cases e'
      | drw _ => cases e'
      | ins _ _ => cases e'
theorem dt_tru (h : DE X e t w) (he : ∀ whole, isTrue e X.env whole = (do let v ← whole; standAt e.pos; holding [v] (truthy v)) := by intro _; rfl) : DT X e (fun σ H Q => t σ H fun x H' => ∃ k, TruV X.K x H' k ∧ Q k H') (wTru w) := by
  refine ⟨pt_truth h.pe he, fun Z ρ M σ H Q Q' s hw q => ?_⟩
  refine h.sm Z ρ M σ H _ _ s hw fun x d H1 M1 g1 r1 q1 => ?_
  cases z : truD d M1 with
  | none =>
    rw [z] at q1
    exact q1.elim
  | some b =>
    rw [z] at q1
    exact ⟨b, tru_of g1.sat r1 z, q b H1 M1 g1 q1⟩

/-! ### blocks and small statements -/
def wNext : WS := fun D ρ M => D.nx ρ M
def wSeq (w u : WS) : WS := fun D ρ M => w { D with nx := u D } ρ M
theorem sim_seq {K : PySem.W.Frag} (h1 : SimS K E ts ws) (h2 : SimS K E tu wu) : SimS K E (tSeq ts tu) (wSeq ws wu) := by
  intro Z D3 ρ M σ H D r h en
  refine h1 Z _ ρ M σ H _ r h ⟨fun ρ' M' σ' H' r' g n => ?_, en.rt, en.bk, en.ct, en.xr⟩
  exact h2 Z D3 ρ' M' σ' H' D r' n (en.go g)
theorem dss_nil : DSs X E [] tNext wNext := ⟨pss_nil, fun Z D3 ρ M σ H D r h en => en.nx ρ M σ H r r.refl h⟩
theorem dss_cons (h1 : DS X E st ts ws) (h2 : DSs X E rest tu wu) : DSs X E (st :: rest) (tSeq ts tu) (wSeq ws wu) := ⟨pss_cons h1.pe h2.pe, sim_seq h1.sm h2.sm⟩
theorem dss_one (h1 : DS X E st ts ws) : DSs X E [st] ts ws := ⟨pss_one h1.pe, h1.sm⟩
theorem ds_pass : DS X E (.Pass pos) tNext wNext := ⟨ps_pass, fun Z D3 ρ M σ H D r h en => en.nx ρ M σ H r r.refl h⟩
def wBreak : WS := fun D ρ M => D.bk ρ M
def wCont : WS := fun D ρ M => D.ct ρ M
theorem ds_break : DS X E (.Break pos) tBreak wBreak := ⟨ps_break, fun Z D3 ρ M σ H D r h en => en.bk ρ M σ H r r.refl h⟩
theorem ds_cont : DS X E (.Continue pos) tCont wCont := ⟨ps_continue, fun Z D3 ρ M σ H D r h en => en.ct ρ M σ H r r.refl h⟩
def wDrop (w : WE) : WS := fun D ρ M => w ρ M fun _ M1 => D.nx ρ M1
theorem ds_expr (he : DE X e te we) (hs : swapsWith e none pos.line X.env = pure false := by rfl) : DS X E (.Expr e pos) (tDrop te) (wDrop we) :=
  ⟨ps_expr he.pe hs, fun Z D3 ρ M σ H D r h en => he.sm Z ρ M σ H _ _ r h fun v d H1 M1 g r1 q => en.nx ρ M1 σ H1 (r.go g) g q⟩
def wRet (w : WE) : WS := fun D ρ M => w ρ M D.rt
theorem ds_ret (he : DE X e te we) : DS X E (.Return (some e) pos) (tRet te) (wRet we) := ⟨ps_ret he.pe, fun Z D3 ρ M σ H D r h en => he.sm Z ρ M σ H _ _ r h fun v d H1 M1 g r1 q => en.rt v d H1 M1 g r1 q⟩
/-- a list of the store is handed back: it never changes again -/
def wRetF (w : WE) : WS := fun D ρ M => w ρ M fun d M1 => match d with
  | .tok a => match M1 a with
    | some (.lst ds) => D.rt (.lst ds) (delM M1 a)
    | _ => False
  | _ => False
theorem ds_retF (he : DE X e te we) : DS X E (.Return (some e) pos) (tRet te) (wRetF we) := by
  refine ⟨ps_ret he.pe, fun Z D3 ρ M σ H D r h en => he.sm Z ρ M σ H _ _ r h fun v d H1 M1 g r1 q => ?_⟩
  cases d with
  | tok a =>
    cases r1
    dsimp only at q
    cases z : M1 a with
    | none =>
      rw [z] at q
      exact q.elim
    | some c =>
      rw [z] at q
      cases c with
      | lst ds =>
        obtain ⟨g2, vs, e1, rl⟩ := Go.frozen g.sat z
        exact en.rt _ _ H1 _ (g.trans g2) (.lst (.inl (.inl e1)) rl) q
      | aux => exact q.elim
      | drw _ => exact q.elim
      | ins _ _ => exact q.elim
  | _ => exact q.elim
def wRetN : WS := fun D _ M => D.rt .non M
theorem ds_retN : DS X E (.Return none pos) tRetN wRetN := ⟨ps_retN, fun Z D3 ρ M σ H D r h en => en.rt _ _ H M r.refl .non h⟩
def wIfS (c : WT) (w u : WS) : WS := fun D ρ M => c ρ M fun b M1 => if b = true then w D ρ M1 else u D ρ M1
theorem ds_if {c : Expr} {p q : List Stmt} (hc : DT X c tA wA) (hp : DSs X E p ts ws) (hq : DSs X E q tu wu) : DS X E (.If c p q pos) (tIfS tA ts tu) (wIfS wA ws wu) := by
  refine ⟨ps_if hc.pe hp.pe hq.pe, fun Z D3 ρ M σ H D r h en => hc.sm Z ρ M σ H _ _ r h fun b H1 M1 g z => ?_⟩
  cases b with
  | true => exact hp.sm Z D3 ρ M1 σ H1 D (r.go g) z (en.go g)
  | false => exact hq.sm Z D3 ρ M1 σ H1 D (r.go g) z (en.go g)

/-! ### targets -/
abbrev WG := D → En → Mp → (En → Mp → Prop) → Prop
abbrev WGs := List D → En → Mp → (En → Mp → Prop) → Prop
def SimG (K : PySem.W.Frag) (t : TG) (w : WG) : Prop := ∀ (Z : Hp) (v : V) (d : D) (ρ : En) (M : Mp) (σ : L2.St) (H : Hp) (Q : En → Mp → Prop) (Q' : L2.St → Hp → Prop), R3 K Z ρ M σ H → Rep K (fz Z H M) v d → w d ρ M Q → (∀ ρ' M' σ' H', R3 K Z ρ' M' σ' H' → Go K Z H M H' M' → Q ρ' M' → Q' σ' H') → t v σ H Q'
def SimGs (K : PySem.W.Frag) (t : TGs) (w : WGs) : Prop := ∀ (Z : Hp) (v : List V) (d : List D) (ρ : En) (M : Mp) (σ : L2.St) (H : Hp) (Q : En → Mp → Prop) (Q' : L2.St → Hp → Prop), R3 K Z ρ M σ H → RepL K (fz Z H M) v d → w d ρ M Q → (∀ ρ' M' σ' H', R3 K Z ρ' M' σ' H' → Go K Z H M H' M' → Q ρ' M' → Q' σ' H') → t v σ H Q'
structure DG (X : Cx) (e : Expr) (t : TG) (w : WG) : Prop where
  pe : PG X e t
  sm : SimG X.K t w
structure DGs (X : Cx) (e : List Expr) (t : TGs) (w : WGs) : Prop where
  pe : PGs X e t
  sm : SimGs X.K t w
def wgName (i : Nat) : WG := fun d ρ M Q => Q (ρ.set i (some d)) M
theorem sim_gname {K : PySem.W.Frag} (i : Nat) : SimG K (gName i) (wgName i) := fun Z v d ρ M σ H Q Q' r rp h q => q _ M _ H ⟨r.sat, r.env.set i rp⟩ r.refl h
theorem dg_name (i : Nat) {x : Str} (hN : X.N.Nodup) (hi : X.N[i]? = some x := by rfl) (hx : Loc X.env.scope x := by first | exact .inl rfl | exact .inr rfl) (hf : X.fn x = true ∨ X.env.scope.names.lookup x = some .local := by first | exact .inl rfl | exact .inr rfl) : DG X (.Name x pos) (gName i) (wgName i) := ⟨pg_name hN hi hx hf, sim_gname i⟩
def wgNil : WGs := fun ds ρ M Q => ds = [] ∧ Q ρ M
def wgCons (w : WG) (u : WGs) : WGs := fun ds ρ M Q => match ds with
  | [] => False
  | d :: r => w d ρ M fun ρ' M' => u r ρ' M' Q
variable {tg : TG} {wg : WG} {tgs : TGs} {wgs : WGs}
theorem dgs_nil : DGs X [] gNil wgNil := ⟨pgs_nil, fun Z v d ρ M σ H Q Q' r rp h q => by
  obtain ⟨rfl, h⟩ := h
  cases rp
  exact ⟨rfl, q ρ M σ H r r.refl h⟩⟩
theorem dgs_cons (h1 : DG X e tg wg) (h2 : DGs X es tgs wgs) (hs : (assignEach (e :: es) X.env).map (·.2) = assign e X.env :: (assignEach es X.env).map (·.2) := by rfl) : DGs X (e :: es) (gCons tg tgs) (wgCons wg wgs) := by
  refine ⟨pgs_cons h1.pe h2.pe hs, fun Z v d ρ M σ H Q Q' r rp h q => ?_⟩
  cases rp with
  | nil => exact h.elim
  | cons r1 r2 =>
    refine ⟨_, _, rfl, h1.sm Z _ _ ρ M σ H _ _ r r1 h fun ρ1 M1 σ1 H1 s1 g1 z => ?_⟩
    exact h2.sm Z _ _ ρ1 M1 σ1 H1 _ _ s1 (r2.up g1.ex) z fun ρ2 M2 σ2 H2 s2 g2 z2 => q ρ2 M2 σ2 H2 s2 (g1.trans g2) z2
def wgTup (n : Nat) (w : WGs) : WG := fun d ρ M Q => match d with
  | .tup ds => ds.length = n ∧ w ds ρ M Q
  | _ => False
theorem sim_gtup {K : PySem.W.Frag} {n : Nat} (h : SimGs K tgs wgs) : SimG K (gTup K n tgs) (wgTup n wgs) := by
  intro Z v d ρ M σ H Q Q' r rp hw q
  cases d with
  | tup ds =>
    cases rp with
    | tup hs rl => exact ⟨_, _, rfl, sqt_mono fz_sub hs, by rw [rl.len]; exact hw.1, h Z _ _ ρ M σ H _ _ r rl hw.2 q⟩
  | _ => exact hw.elim
theorem dg_tup {es : List Expr} {k : Nat} {n : Nat} (hc : X.calm = true) (h : DGs X es tgs wgs) (hn : (assignEach es X.env).length = n := by rfl) (hst : (assignEach es X.env).findIdx? (·.1) = none := by rfl) : DG X (.Tuple es k pos) (gTup X.K n tgs) (wgTup n wgs) := ⟨pg_tup hc h.pe hn hst, sim_gtup h.sm⟩
/-- o[i] = v of a list of the store -/
def setD (o i v : D) (M : Mp) (Q : Mp → Prop) : Prop := match o, i with
  | .tok a, .int n => ∃ ds j, M a = some (.lst ds) ∧ ixN ds.length n = some j ∧ Q (setM M a (.lst (ds.set j v)))
  | _, _ => False
def wgSub (wo wi : WE) : WG := fun d ρ M Q => wo ρ M fun o M1 => wi ρ M1 fun i M2 => setD o i d M2 fun M3 => Q ρ M3
theorem dg_sub {o i : Expr} {to ti : TE} {wo wi : WE} (ho : DE X o to wo) (hi : DE X i ti wi) (ha : ∀ v, assign (.Subscript o i pos) X.env v = (do
      let ov ← holding [v] (eval o X.env)
      let iv ← holding [v, ov] (eval i X.env)
      standAt pos
      holding [v, ov, iv] (setItem ov iv v)
      release [v, ov, iv] []) := by intro _; rfl) : DG X (.Subscript o i pos) (gSub to ti rSetL) (wgSub wo wi) := by
  refine ⟨pg_sub ho.pe hi.pe set_list ha, fun Z v d ρ M σ H Q Q' r rp hw q => ?_⟩
  refine ho.sm Z ρ M σ H _ _ r hw fun x d1 H1 M1 g1 r1 q1 => ?_
  refine hi.sm Z ρ M1 σ H1 _ _ (r.go g1) q1 fun y d2 H2 M2 g2 r2 q2 => ?_
  unfold setD at q2
  split at q2
  · rename_i a n
    obtain ⟨ds, j, hm, hj, z⟩ := q2
    have r1' := r1.up g2.ex
    cases r1'
    cases r2
    obtain ⟨vs, e1, rl⟩ := g2.sat.cell a _ hm
    have g3 := Go.putL (p := a) g2.sat (.inr ⟨ds, hm⟩) (RepL.set ((rp.up g1.ex).up g2.ex) j rl)
    exact ⟨a, vs, n, j, rfl, rfl, e1, by rw [rl.len]; exact hj, q ρ _ σ _ (r.go ((g1.trans g2).trans g3)) ((g1.trans g2).trans g3) z⟩
  · exact q2.elim
def wAsg (w : WE) (g : WG) : WS := fun D ρ M => w ρ M fun d M1 => g d ρ M1 D.nx
theorem sim_asg {K : PySem.W.Frag} (he : SimE K te we) (hg : SimG K tg wg) : SimS K E (tAsg te tg) (wAsg we wg) := by
  intro Z D3 ρ M σ H D r h en
  refine he Z ρ M σ H _ _ r h fun v d H1 M1 g1 r1 q1 => ?_
  exact hg Z v d ρ M1 σ H1 _ _ (r.go g1) r1 q1 fun ρ2 M2 σ2 H2 s2 g2 z => en.nx ρ2 M2 σ2 H2 s2 (g1.trans g2) z
theorem ds_set (i : Nat) {x : Str} {pos' : Pos} (hN : X.N.Nodup) (he : DE X e te we) (hi : X.N[i]? = some x := by rfl) (hx : Loc X.env.scope x := by first | exact .inl rfl | exact .inr rfl) (hs : swapsWith e (some (.Name x pos')) pos.line X.env = pure false := by rfl)
    (hf : X.fn x = true ∨ X.env.scope.names.lookup x = some .local := by first | exact .inl rfl | exact .inr rfl) : DS X E (.Assign [.Name x pos'] e pos) (tAsg te (gName i)) (wAsg we (wgName i)) := ⟨ps_set hN hi hx he.pe hs hf, sim_asg he.sm (sim_gname i)⟩
theorem ds_asg {tgt : Expr} (he : DE X e te we) (hg : DG X tgt tg wg) (hs : swapsWithSole [tgt] e pos.line X.env = pure false := by rfl) (hw : swappedStores [tgt] e X.env = pure none := by rfl)
    (h1 : (assignEach [tgt] X.env).map (·.2) = [assign tgt X.env] := by rfl) : DS X E (.Assign [tgt] e pos) (tAsg te tg) (wAsg we wg) := ⟨ps_asg he.pe hg.pe hs hw h1, sim_asg he.sm hg.sm⟩
/-- a, b = x, y -/
def wPar (i j : Nat) (w : WA) : WS := fun D ρ M => w ρ M fun ds M1 => match ds with
  | [d, e] => D.nx ((ρ.set i (some d)).set j (some e)) M1
  | _ => False
theorem ds_par (i j : Nat) {x y : Str} {a b : Expr} {px py pt : Pos} {kt k2 pt2} (hc : X.calm = true) (hN : X.N.Nodup) (ha : DA X [a, b] tr wr) (hi : X.N[i]? = some x := by rfl) (hj : X.N[j]? = some y := by rfl) (hij : i ≠ j := by decide)
    (hx : X.env.scope.names.lookup x = some .local := by rfl) (hy : X.env.scope.names.lookup y = some .local := by rfl)
    (hw : swappedStores [.Tuple [.Name x px, .Name y py] kt pt] (.Tuple [a, b] k2 pt2) X.env = pure (some [x, y]) := by rfl)
    (hs : swapsWithSole [.Tuple [.Name x px, .Name y py] kt pt] (.Tuple [a, b] k2 pt2) pos.line X.env = pure false := by rfl) :
    DS X E (.Assign [.Tuple [.Name x px, .Name y py] kt pt] (.Tuple [a, b] k2 pt2) pos) (tPar i j tr) (wPar i j wr) := by
  refine ⟨ps_par hc hN hi hj hij hx hy ha.pe hw hs, fun Z D3 ρ M σ H D r h en => ?_⟩
  refine ha.sm Z ρ M σ H _ _ r h fun vs ds H1 M1 g1 r1 q1 => ?_
  cases r1 with
  | nil => exact q1.elim
  | cons r1 r2 =>
    cases r2 with
    | nil => exact q1.elim
    | cons r2 r3 =>
      cases r3 with
      | nil => exact ⟨_, _, rfl, en.nx _ M1 _ H1 ⟨g1.sat, (((r.go g1).env.set i r1).set j r2)⟩ g1 q1⟩
      | cons _ _ => exact q1.elim
def wPar3 (i j l : Nat) (w : WA) : WS := fun D ρ M => w ρ M fun ds M1 => match ds with
  | [d, e, f] => D.nx (((ρ.set i (some d)).set j (some e)).set l (some f)) M1
  | _ => False
theorem ds_par3 (i j l : Nat) {x y z : Str} {a b c : Expr} {px py pz pt : Pos} {kt k2 pt2} (hc : X.calm = true) (hN : X.N.Nodup) (ha : DA X [a, b, c] tr wr) (hi : X.N[i]? = some x := by rfl) (hj : X.N[j]? = some y := by rfl) (hl : X.N[l]? = some z := by rfl) (hij : i ≠ j := by decide) (hil : i ≠ l := by decide) (hjl : j ≠ l := by decide)
    (hx : X.env.scope.names.lookup x = some .local := by rfl) (hy : X.env.scope.names.lookup y = some .local := by rfl) (hz : X.env.scope.names.lookup z = some .local := by rfl)
    (hw : swappedStores [.Tuple [.Name x px, .Name y py, .Name z pz] kt pt] (.Tuple [a, b, c] k2 pt2) X.env = pure (some [x, y, z]) := by rfl)
    (hs : swapsWithSole [.Tuple [.Name x px, .Name y py, .Name z pz] kt pt] (.Tuple [a, b, c] k2 pt2) pos.line X.env = pure false := by rfl) :
    DS X E (.Assign [.Tuple [.Name x px, .Name y py, .Name z pz] kt pt] (.Tuple [a, b, c] k2 pt2) pos) (tPar3 i j l tr) (wPar3 i j l wr) := by
  refine ⟨ps_par3 hc hN hi hj hl hij hil hjl hx hy hz ha.pe hw hs, fun Z D3 ρ M σ H D r h en => ?_⟩
  refine ha.sm Z ρ M σ H _ _ r h fun vs ds H1 M1 g1 r1 q1 => ?_
  cases r1 with
  | nil => exact q1.elim
  | cons r1 r2 =>
    cases r2 with
    | nil => exact q1.elim
    | cons r2 r3 =>
      cases r3 with
      | nil => exact q1.elim
      | cons r3 r4 =>
        cases r4 with
        | nil => exact ⟨_, _, _, rfl, en.nx _ M1 _ H1 ⟨g1.sat, ((((r.go g1).env.set i r1).set j r2).set l r3)⟩ g1 q1⟩
        | cons _ _ => exact q1.elim
/-- x += e -/
def wAug (i : Nat) (w : WE) (f : F2) : WS := fun D ρ M => match ρ[i]? with
  | some (some d) => w ρ M fun e M1 => f d e M1 fun z M2 => D.nx (ρ.set i (some z)) M2
  | _ => False
theorem ip_int {op : Operator} {g : Int → Int → Int} (h : PIp X op (ipI g)) : PIp X op (rI0 fun i j => .int (g i j)) := fun pins s σ H x y v u Q I r1 r2 ⟨i, j, e1, e2, q⟩ => h pins s σ H x y v u Q I r1 r2 ⟨i, j, e1, e2, q⟩
theorem ds_augI (i : Nat) {x : Str} {op : Operator} {g : Int → Int → Int} {pos' : Pos} (hN : X.N.Nodup) (he : DE X e te we) (ho : PIp X op (ipI g)) (hi : X.N[i]? = some x := by rfl) (hx : Loc X.env.scope x := by first | exact .inl rfl | exact .inr rfl)
    (hf : X.fn x = true ∨ X.env.scope.names.lookup x = some .local := by first | exact .inl rfl | exact .inr rfl) : DS X E (.AugAssign (.Name x pos') op e pos) (tAug i te (rI0 fun i j => .int (g i j))) (wAug i we (fI0 fun i j => .int (g i j))) := by
  refine ⟨ps_aug hN hi hx he.pe (ip_int ho) hf, fun Z D3 ρ M σ H D r h en => ?_⟩
  unfold wAug at h
  split at h
  · rename_i d e1
    obtain ⟨v, e2, rp⟩ := r.env.2 i d e1
    refine ⟨v, e2, he.sm Z ρ M σ H _ _ r h fun y d2 H1 M1 g1 r1 q1 => ?_⟩
    refine sim_I0 (g := fun i j => .int (g i j)) (fun _ _ _ => .int _) Z v y d d2 H1 M1 _ _ g1.sat (rp.up g1.ex) r1 q1 fun z d3 H2 M2 g2 r2 q2 => ?_
    exact en.nx _ M2 _ H2 ⟨g2.sat, ((r.go (g1.trans g2)).env.set i r2)⟩ (g1.trans g2) q2
  · exact h.elim
end
end L3
namespace L3
open PySem L2
section
variable {X : Cx} {E : XK} {e a b c : Expr} {es : List Expr} {t ta tb tc te : TE} {w wa wb wc we : WE} {pos : Pos} {k : Nat} {tr : TA} {wr : WA} {st : Stmt} {rest : List Stmt} {ts tu : TS} {ws wu : WS} {tA : TT} {wA : WT} {tg : TG} {wg : WG} {tgt : Expr}
/-! ### what is walked -/
/-- the iterator yields the data ds, one by one, as long as Ok holds of the store -/
def Walks3 (K : PySem.W.Frag) (Z : Hp) (H : Hp) (M : Mp) (J : It) (ds : List D) (Ok : Mp → Prop) : Prop := ∀ (Z2 H2 : Hp) (M2 : Mp), Sat K Z2 H2 M2 → Same (fz Z H M) (fz Z2 H2 M2) → Ok M2 →
  (∀ (i : Nat) (d : D), ds[i]? = some d → J.go i H2 ∧ ∀ x H3, J.yld i H2 x H3 → Go K Z2 H2 M2 H3 M2 ∧ Rep K (fz Z2 H3 M2) x d) ∧ ∀ i, ds.length ≤ i → J.stop i H2
abbrev WI := En → Mp → (List D → (Mp → Prop) → Mp → Prop) → Prop
def SimI (K : PySem.W.Frag) (t : TI) (w : WI) : Prop := ∀ (Z : Hp) (ρ : En) (M : Mp) (σ : L2.St) (H : Hp) (R : List D → (Mp → Prop) → Mp → Prop) (R' : It → Hp → Prop), R3 K Z ρ M σ H → w ρ M R → (∀ J ds Ok H' M', Go K Z H M H' M' → Walks3 K Z H' M' J ds Ok → R ds Ok M' → R' J H') → t σ H R'
structure DI (X : Cx) (tgt e : Expr) (t : TI) (w : WI) : Prop where
  pe : PI X tgt e t
  sm : SimI X.K t w
def AnyM : Mp → Prop := fun _ => True
/-- a list, a tuple -/
def iSeq (K : PySem.W.Frag) (tl : TE) : TI := fun σ H R => tl σ H fun x J => ∃ p, x = .ref p ∧ (((∃ xs, SqL K J p xs) ∧ R (Itl K p) J) ∨ ((∃ xs, SqT K J p xs) ∧ R (Itt K p) J))
theorem pi_seq {l : Expr} {tl : TE} (hl : PE X l tl) : PI X tgt l (iSeq X.K tl) := by
  constructor
  intro pins s σ H R I h
  refine thn (hl.run pins s σ H _ I h) fun v s1 ⟨x, H1, I1, r1, p, e, q1⟩ => ?_
  subst e
  cases r1
  rcases q1 with ⟨⟨xs, hq⟩, q⟩ | ⟨⟨xs, hq⟩, q⟩
  · obtain ⟨its, rv, pl, hz⟩ := I1.list hq
    refine wpAny_pyIter_list pl.isList ?_
    refine ⟨s1.heap.objs.size, [s1.heap.objs.size], _, _, H1, rfl, I1.kept (t' := s1.toks) fun b o e => Heap.get?_push_of_some _ e, turn_list p _, ⟨_, Heap.get?_push_size _ rfl, rfl, rfl⟩, fun b hb => ?_, q⟩
    obtain rfl : b = s1.heap.objs.size := by simpa using hb
    exact I1.fpOk (Nat.le_refl _) (I1.hok.fresh (Nat.le_refl _))
  · obtain ⟨its, rv, pl, hz⟩ := I1.tuple hq
    refine wpAny_pyIter_tuple (show s1.heap.IsTuple p its.toArray from pl) ?_
    refine ⟨s1.heap.objs.size, [s1.heap.objs.size], _, _, H1, rfl, I1.kept (t' := s1.toks) fun b o e => Heap.get?_push_of_some _ e, turn_tuple p _, ⟨_, Heap.get?_push_size _ rfl, rfl, rfl⟩, fun b hb => ?_, q⟩
    obtain rfl : b = s1.heap.objs.size := by simpa using hb
    exact I1.fpOk (Nat.le_refl _) (I1.hok.fresh (Nat.le_refl _))
def wiSeq (w : WE) : WI := fun ρ M R => w ρ M fun d M1 => match d with
  | .tup ds => R ds AnyM M1
  | .lst ds => R ds AnyM M1
  | .tok p => ∃ ds, M1 p = some (.lst ds) ∧ R ds (fun M2 => M2 p = some (.lst ds)) M1
  | _ => False
theorem walks_l {K : PySem.W.Frag} {Z H : Hp} {M : Mp} {p : Addr} {vs : List V} {ds : List D} (h : SqL K (fz Z H M) p vs) (r : RepL K (fz Z H M) vs ds) : Walks3 K Z H M (Itl K p) ds AnyM := by
  intro Z2 H2 M2 S ex _
  have hq : SqL K H2 p vs := (ex.trans fz_sub).seq h
  refine ⟨fun i d e => ?_, fun i hi => ⟨vs, hq, by rw [r.len]; exact hi⟩⟩
  obtain ⟨v, e1, rp⟩ := r.get e
  refine ⟨⟨vs, v, hq, e1⟩, fun x H3 ⟨e2, y⟩ => ?_⟩
  subst e2
  obtain rfl : x = v := Option.some.inj ((y vs hq).symm.trans e1)
  exact ⟨Go.refl S, rp.up ex⟩
theorem walks_t {K : PySem.W.Frag} {Z H : Hp} {M : Mp} {p : Addr} {vs : List V} {ds : List D} (h : SqT K (fz Z H M) p vs) (r : RepL K (fz Z H M) vs ds) : Walks3 K Z H M (Itt K p) ds AnyM := by
  intro Z2 H2 M2 S ex _
  have hq : SqT K H2 p vs := sqt_mono (ex.trans fz_sub) h
  refine ⟨fun i d e => ?_, fun i hi => ⟨vs, hq, by rw [r.len]; exact hi⟩⟩
  obtain ⟨v, e1, rp⟩ := r.get e
  refine ⟨⟨vs, v, hq, e1⟩, fun x H3 ⟨e2, y⟩ => ?_⟩
  subst e2
  obtain rfl : x = v := Option.some.inj ((y vs hq).symm.trans e1)
  exact ⟨Go.refl S, rp.up ex⟩
theorem walks_m {K : PySem.W.Frag} {Z H : Hp} {M : Mp} {p : Addr} {ds : List D} : Walks3 K Z H M (Itl K p) ds (fun M2 => M2 p = some (.lst ds)) := by
  intro Z2 H2 M2 S ex ok
  obtain ⟨vs, e0, r⟩ := S.cell p _ ok
  have hq : SqL K H2 p vs := .inl (.inl e0)
  refine ⟨fun i d e => ?_, fun i hi => ⟨vs, hq, by rw [r.len]; exact hi⟩⟩
  obtain ⟨v, e1, rp⟩ := r.get e
  refine ⟨⟨vs, v, hq, e1⟩, fun x H3 ⟨e2, y⟩ => ?_⟩
  subst e2
  have e3 := y vs hq
  obtain rfl : x = v := Option.some.inj (e3.symm.trans e1)
  exact ⟨Go.refl S, rp⟩
theorem di_seq (h : DE X e te we) : DI X tgt e (iSeq X.K te) (wiSeq we) := by
  refine ⟨pi_seq h.pe, fun Z ρ M σ H R R' s hw q => ?_⟩
  refine h.sm Z ρ M σ H _ _ s hw fun x d H1 M1 g1 r1 q1 => ?_
  cases d with
  | tup ds =>
    cases r1 with
    | tup hs rl => exact ⟨_, rfl, .inr ⟨⟨_, sqt_mono fz_sub hs⟩, q _ _ _ H1 M1 g1 (walks_t hs rl) q1⟩⟩
  | lst ds =>
    cases r1 with
    | lst hs rl => exact ⟨_, rfl, .inl ⟨⟨_, fz_sub.seq hs⟩, q _ _ _ H1 M1 g1 (walks_l hs rl) q1⟩⟩
  | tok p =>
    cases r1
    obtain ⟨ds, hm, z⟩ := q1
    obtain ⟨vs, e1, rl⟩ := g1.sat.cell p _ hm
    exact ⟨_, rfl, .inl ⟨⟨vs, .inl (.inl e1)⟩, q _ _ _ H1 M1 g1 walks_m z⟩⟩
  | _ => exact q1.elim
/-- range(n), range(a, b) -/
def intsD (lo : Int) (n : Nat) : List D := (List.range n).map fun (i : Nat) => D.int (lo + (i : Int))
theorem walks_r {K : PySem.W.Frag} {Z H : Hp} {M : Mp} (lo : Int) (n : Nat) : Walks3 K Z H M (Itr lo n) (intsD lo n) AnyM := by
  intro Z2 H2 M2 S ex _
  refine ⟨fun i d e => ?_, fun i hi => ?_⟩
  · have hi : i < n := by
      have z := (List.getElem?_eq_some_iff.mp e).1
      unfold intsD at z
      rw [List.length_map, List.length_range] at z
      exact z
    have ed : d = .int (lo + (i : Int)) := by
      unfold intsD at e
      rw [List.getElem?_map, List.getElem?_range hi] at e
      exact (Option.some.inj e).symm
    subst ed
    refine ⟨hi, fun x H3 ⟨e1, e2⟩ => ?_⟩
    subst e1
    subst e2
    exact ⟨Go.refl S, .int _⟩
  · unfold intsD at hi
    rw [List.length_map, List.length_range] at hi
    exact hi
def wiRange1 (w : WA) : WI := fun ρ M R => w ρ M fun ds M1 => match ds with
  | [.int j] => j < 2 ^ 62 ∧ -(2 ^ 62) ≤ j ∧ R (intsD 0 j.toNat) AnyM M1
  | _ => False
theorem di_range1 {p : Pos} (hm : X.mg "range" = none) (ha : DA X [a] tr wr) (hg : Gl X "range" := by rfl) (hs : starEach [a] X.env = [(false, eval a X.env)] := by rfl) : DI X tgt (.Call (.Name "range" p) [a] [] pos) (iRng1 tr) (wiRange1 wr) := by
  refine ⟨pi_range1 hg hm ha.pe hs, fun Z ρ M σ H R R' s hw q => ?_⟩
  refine ha.sm Z ρ M σ H _ _ s hw fun xs ds H1 M1 g1 r1 q1 => ?_
  unfold wiRange1 at hw
  split at q1
  · cases r1 with
    | cons r1 r2 =>
      cases r1
      cases r2
      exact ⟨_, rfl, q1.2.1, q1.1, q _ _ _ H1 M1 g1 (walks_r _ _) q1.2.2⟩
  · exact q1.elim
def wiRange2 (w : WA) : WI := fun ρ M R => w ρ M fun ds M1 => match ds with
  | [.int i, .int j] => (-(2 ^ 62) ≤ i ∧ i < 2 ^ 62 ∧ -(2 ^ 62) ≤ j ∧ j < 2 ^ 62) ∧ R (intsD i (j - i).toNat) AnyM M1
  | _ => False
theorem di_range2 {p : Pos} (hm : X.mg "range" = none) (ha : DA X [a, b] tr wr) (hg : Gl X "range" := by rfl) (hs : starEach [a, b] X.env = [(false, eval a X.env), (false, eval b X.env)] := by rfl) (hs2 : starEach [b] X.env = [(false, eval b X.env)] := by rfl) : DI X tgt (.Call (.Name "range" p) [a, b] [] pos) (iRng2 tr) (wiRange2 wr) := by
  refine ⟨pi_range2 hg hm ha.pe hs hs2, fun Z ρ M σ H R R' s hw q => ?_⟩
  refine ha.sm Z ρ M σ H _ _ s hw fun xs ds H1 M1 g1 r1 q1 => ?_
  split at q1
  · cases r1 with
    | cons r1 r2 =>
      cases r1
      cases r2 with
      | cons r2 r3 =>
        cases r2
        cases r3
        exact ⟨_, _, rfl, q1.1, q _ _ _ H1 M1 g1 (walks_r _ _) q1.2⟩
  · exact q1.elim
/-- a text, sign by sign -/
def signs (x : Str) : List D := x.cps.toList.map fun c => D.str ⟨#[c]⟩
def wiStr (w : WE) : WI := fun ρ M R => w ρ M fun d M1 => match d with
  | .str x => R (signs x) AnyM M1
  | _ => False
theorem walks_s {K : PySem.W.Frag} {Z H : Hp} {M : Mp} (x : Str) : Walks3 K Z H M (Its x) (signs x) AnyM := by
  intro Z2 H2 M2 S ex _
  refine ⟨fun i d e => ?_, fun i hi => ?_⟩
  · unfold signs at e
    rw [List.getElem?_map] at e
    cases q : x.cps.toList[i]? with
    | none =>
      rw [q] at e
      cases e
    | some c =>
      rw [q] at e
      obtain rfl : D.str ⟨#[c]⟩ = d := Option.some.inj e
      have hi : i < x.cps.size := by
        have z := (List.getElem?_eq_some_iff.mp q).1
        rw [Array.length_toList] at z
        exact z
      refine ⟨hi, fun y H3 ⟨e1, c', hc, e2⟩ => ?_⟩
      subst e1
      subst e2
      have e3 : x.cps[i]? = some c := by
        rw [← Array.getElem?_toList]
        exact q
      rw [e3] at hc
      cases hc
      exact ⟨Go.refl S, .str _⟩
  · unfold signs at hi
    rw [List.length_map, Array.length_toList] at hi
    exact hi
theorem di_str (h : DE X e te we) : DI X tgt e (iStr te) (wiStr we) := by
  refine ⟨pi_str h.pe, fun Z ρ M σ H R R' s hw q => ?_⟩
  refine h.sm Z ρ M σ H _ _ s hw fun x d H1 M1 g1 r1 q1 => ?_
  cases d with
  | str y =>
    cases r1
    exact ⟨y, rfl, q _ _ _ H1 M1 g1 (walks_s y) q1⟩
  | _ => exact q1.elim

/-! ### for -/
def wLoop (g : WG) (wb : WS) (Ok : Mp → Prop) (D3 : Ends3) : List D → En → Mp → Prop
  | [], ρ, M => Ok M ∧ D3.nx ρ M
  | d :: ds, ρ, M => Ok M ∧ g d ρ M fun ρ1 M1 => wb { D3 with nx := wLoop g wb Ok D3 ds, ct := wLoop g wb Ok D3 ds, bk := D3.nx } ρ1 M1
def wFor (wi : WI) (g : WG) (wb : WS) : WS := fun D3 ρ M => wi ρ M fun ds Ok M1 => wLoop g wb Ok D3 ds ρ M1
theorem sim_for {ti : TI} {wi : WI} (K : PySem.W.Frag) (hi : SimI K ti wi) (hg : SimG K tg wg) (hb : SimS K E ts ws) : SimS K E (tFor ti tg ts) (wFor wi wg ws) := by
  intro Z D3 ρ M σ H D r h en
  refine hi Z ρ M σ H _ _ r h fun J ds Ok H1 M1 g1 wk q1 => ?_
  refine ⟨fun i m σ' H' => m + i = ds.length ∧ ∃ ρ' M', R3 K Z ρ' M' σ' H' ∧ Go K Z H1 M1 H' M' ∧ wLoop wg ws Ok D3 (ds.drop i) ρ' M', ⟨ds.length, rfl, ρ, M1, r.go g1, Go.refl g1.sat, q1⟩, fun i m σ' H' ⟨em, ρ', M', r', g', l⟩ => ?_⟩
  by_cases hlt : i < ds.length
  · have e : ds.drop i = ds[i] :: ds.drop (i + 1) := List.drop_eq_getElem_cons hlt
    rw [e] at l
    obtain ⟨ok, l⟩ := l
    obtain ⟨go, yl⟩ := (wk Z H' M' g'.sat g'.ex ok).1 i ds[i] (List.getElem?_eq_getElem hlt)
    refine .inr ⟨go, fun σ2 H2 => ∃ ρ2 M2, R3 K Z ρ2 M2 σ2 H2 ∧ Go K Z H1 M1 H2 M2 ∧ wLoop wg ws Ok D3 (ds.drop (i + 1)) ρ2 M2, fun σ2 H2 ⟨ρ2, M2, r2, g2, l2⟩ => ⟨m - 1, by omega, by omega, ρ2, M2, r2, g2, l2⟩, fun x H3 hy => ?_⟩
    obtain ⟨g3, rp⟩ := yl x H3 hy
    refine hg Z x _ ρ' M' σ' H3 _ _ (r'.go g3) rp l fun ρ4 M4 σ4 H4 r4 g4 z => ?_
    have g14 := (g'.trans g3).trans g4
    refine hb Z _ ρ4 M4 σ4 H4 _ r4 z ⟨fun ρ5 M5 σ5 H5 r5 g5 z5 => ⟨ρ5, M5, r5, g14.trans g5, z5⟩, fun v d H5 M5 g5 rp5 z5 => en.rt v d H5 M5 ((g1.trans g14).trans g5) rp5 z5,
      fun ρ5 M5 σ5 H5 r5 g5 z5 => en.nx ρ5 M5 σ5 H5 r5 ((g1.trans g14).trans g5) z5, fun ρ5 M5 σ5 H5 r5 g5 z5 => ⟨ρ5, M5, r5, g14.trans g5, z5⟩, fun C dx fv fs H5 M5 g5 e5 rf5 z5 => en.xr C dx fv fs H5 M5 ((g1.trans g14).trans g5) e5 rf5 z5⟩
  · have e : ds.drop i = [] := List.drop_eq_nil_of_le (by omega)
    rw [e] at l
    exact .inl ⟨(wk Z H' M' g'.sat g'.ex l.1).2 i (by omega), en.nx ρ' M' σ' H' r' (g1.trans g') l.2⟩
theorem ds_for {ti : TI} {wi : WI} {body : List Stmt} (hp : PassesOwn (model X.prog X.w) X.A X.env X.xe) (hc : X.calm = true) (hi : DI X tgt e ti wi) (hg : DG X tgt tg wg) (hb : DSs X E body ts ws) (hs : ∀ x, foldedSetIterable e X.env x = pure x := by intro _; rfl) :
    DS X E (.For tgt e body [] pos) (tFor ti tg ts) (wFor wi wg ws) := ⟨ps_for hp hc hi.pe hg.pe hb.pe hs, sim_for X.K hi.sm hg.sm hb.sm⟩

/-! ### while -/
def wWhile (c : WT) (wb : WS) : WS := fun D3 ρ M => ∃ W : Nat → En → Mp → Prop, (∃ m, W m ρ M) ∧ ∀ m ρ M, W m ρ M →
  c ρ M fun b M1 => if b = true then wb { D3 with nx := fun ρ' M' => ∃ m', m' < m ∧ W m' ρ' M', ct := fun ρ' M' => ∃ m', m' < m ∧ W m' ρ' M', bk := D3.nx } ρ M1 else D3.nx ρ M1
theorem ds_while {body : List Stmt} {c : Expr} (hp : PassesOwn (model X.prog X.w) X.A X.env X.xe) (hc : DT X c tA wA) (hb : DSs X E body ts ws) : DS X E (.While c body [] pos) (tWhile tA ts) (wWhile wA ws) := by
  refine ⟨ps_while hp hc.pe hb.pe, fun Z D3 ρ M σ H D r h en => ?_⟩
  obtain ⟨W, ⟨m0, w0⟩, turn⟩ := h
  refine ⟨fun m σ' H' => ∃ ρ' M', R3 X.K Z ρ' M' σ' H' ∧ Go X.K Z H M H' M' ∧ W m ρ' M', ⟨m0, ρ, M, r, r.refl, w0⟩, fun m σ' H' ⟨ρ', M', r', g', w'⟩ => ?_⟩
  refine hc.sm Z ρ' M' σ' H' _ _ r' (turn m ρ' M' w') fun b H1 M1 g1 z => ?_
  cases b with
  | true =>
    rw [if_pos rfl] at z ⊢
    refine ⟨fun σ2 H2 => ∃ m', m' < m ∧ ∃ ρ2 M2, R3 X.K Z ρ2 M2 σ2 H2 ∧ Go X.K Z H M H2 M2 ∧ W m' ρ2 M2, fun _ _ z2 => z2, ?_⟩
    have g := g'.trans g1
    exact hb.sm Z _ ρ' M1 σ' H1 _ (r'.go g1) z ⟨fun ρ5 M5 σ5 H5 r5 g5 ⟨m', l, z5⟩ => ⟨m', l, ρ5, M5, r5, g.trans g5, z5⟩, fun v d H5 M5 g5 rp5 z5 => en.rt v d H5 M5 (g.trans g5) rp5 z5,
      fun ρ5 M5 σ5 H5 r5 g5 z5 => en.nx ρ5 M5 σ5 H5 r5 (g.trans g5) z5, fun ρ5 M5 σ5 H5 r5 g5 ⟨m', l, z5⟩ => ⟨m', l, ρ5, M5, r5, g.trans g5, z5⟩, fun C dx fv fs H5 M5 g5 e5 rf5 z5 => en.xr C dx fv fs H5 M5 (g.trans g5) e5 rf5 z5⟩
  | false =>
    rw [if_neg Bool.false_ne_true] at z ⊢
    exact en.nx ρ' M1 σ' H1 (r'.go g1) (g'.trans g1) z
end
end L3
namespace L3
open PySem L2
section
variable {X : Cx} {E : XK} {e a b c elt iter tgt : Expr} {es ifs : List Expr} {t ta tb tc te : TE} {w wa wb wc we : WE} {pos : Pos} {k : Nat} {tr : TA} {wr : WA} {tt : TT} {wt : WT} {tg : TG} {wg : WG} {ti : TI} {wi : WI}
/-! ### comprehensions -/
def wipeE (ρ : En) : List Nat → En
  | [] => ρ
  | v :: vs => (wipeE ρ vs).set v none
theorem wipe_rel {K : PySem.W.Frag} {H : Hp} {σ : L2.St} {ρ : En} (r : RelS K H σ ρ) : ∀ vs : List Nat, RelS K H (wipe σ vs) (wipeE ρ vs)
  | [] => r
  | v :: vs => by
    have ih := wipe_rel r vs
    refine ⟨by show ((wipe σ vs).set v none).length = ((wipeE ρ vs).set v none).length; rw [List.length_set, List.length_set]; exact ih.1, fun i d q => ?_⟩
    have q' : ((wipeE ρ vs).set v none)[i]? = some (some d) := q
    by_cases hi : v = i
    · subst hi
      rw [List.getElem?_set_self'] at q'
      cases z : (wipeE ρ vs)[v]? with
      | none =>
        rw [z] at q'
        cases q'
      | some o =>
        rw [z] at q'
        cases q'
    · rw [List.getElem?_set_ne hi] at q'
      obtain ⟨u, h1, h2⟩ := ih.2 i d q'
      exact ⟨u, by show ((wipe σ vs).set v none)[i]? = _; rw [List.getElem?_set_ne hi]; exact h1, h2⟩
theorem wipe_set {σ : L2.St} {j : Nat} {o : Option V} : ∀ {vs : List Nat}, j ∈ vs → wipe (σ.set j o) vs = wipe σ vs
  | v :: vs, h => by
    show (wipe (σ.set j o) vs).set v none = (wipe σ vs).set v none
    by_cases hm : j ∈ vs
    · rw [wipe_set hm]
    · have hj : j = v := (List.mem_cons.mp h).resolve_right hm
      subst hj
      have cm : ∀ (us : List Nat), wipe (σ.set j o) us = wipe σ us ∨ wipe (σ.set j o) us = (wipe σ us).set j o := fun us => by
        induction us with
        | nil => exact .inr rfl
        | cons u us ih =>
          rcases ih with h1 | h1
          · left
            show (wipe (σ.set j o) us).set u none = (wipe σ us).set u none
            rw [h1]
          · by_cases hu : u = j
            · subst hu
              left
              show (wipe (σ.set u o) us).set u none = (wipe σ us).set u none
              rw [h1, List.set_set]
            · right
              show (wipe (σ.set j o) us).set u none = ((wipe σ us).set u none).set j o
              rw [h1, List.set_comm _ _ (Ne.symm hu)]
      rcases cm vs with h1 | h1
      · rw [h1]
      · rw [h1, List.set_set]
/-- the target stores into the block's own slots alone -/
def KeepG (vs : List Nat) (tg : TG) : Prop := ∀ (v : V) (σ0 σ : L2.St) (H : Hp) (Q : L2.St → Hp → Prop), wipe σ vs = σ0 → tg v σ H Q → tg v σ H fun σ2 H2 => wipe σ2 vs = σ0 ∧ Q σ2 H2
def KeepGs (vs : List Nat) (tg : TGs) : Prop := ∀ (v : List V) (σ0 σ : L2.St) (H : Hp) (Q : L2.St → Hp → Prop), wipe σ vs = σ0 → tg v σ H Q → tg v σ H fun σ2 H2 => wipe σ2 vs = σ0 ∧ Q σ2 H2
theorem keep_name {vs : List Nat} {j : Nat} (h : j ∈ vs := by decide) : KeepG vs (gName j) := fun v σ0 σ H Q e q => ⟨by rw [wipe_set h]; exact e, q⟩
theorem keep_nil {vs : List Nat} : KeepGs vs gNil := fun v σ0 σ H Q e q => ⟨q.1, e, q.2⟩
theorem keep_cons {vs : List Nat} {t : TG} {u : TGs} (h1 : KeepG vs t) (h2 : KeepGs vs u) (mono : ∀ v σ H (Q Q' : L2.St → Hp → Prop), (∀ s J, Q s J → Q' s J) → t v σ H Q → t v σ H Q') : KeepGs vs (gCons t u) := fun v σ0 σ H Q e q => by
  obtain ⟨x, r, e1, q⟩ := q
  refine ⟨x, r, e1, ?_⟩
  exact mono x σ H _ _ (fun s J z => h2 r σ0 s J Q z.1 z.2) (h1 x σ0 σ H _ e q)
theorem mono_name {j : Nat} : ∀ v σ H (Q Q' : L2.St → Hp → Prop), (∀ s J, Q s J → Q' s J) → gName j v σ H Q → gName j v σ H Q' := fun _ _ _ _ _ h q => h _ _ q
theorem keep_tup {vs : List Nat} {K : PySem.W.Frag} {n : Nat} {u : TGs} (h : KeepGs vs u) : KeepG vs (gTup K n u) := fun v σ0 σ H Q e q => by
  obtain ⟨p, xs, e1, h1, h2, q⟩ := q
  exact ⟨p, xs, e1, h1, h2, h xs σ0 σ H Q e q⟩
structure DTs (X : Cx) (ifs : List Expr) (t : TT) (w : WT) : Prop where
  pe : PTs X ifs t
  sm : SimT X.K t w
def wYes : WT := fun _ M Q => Q true M
theorem dts_nil : DTs X [] tYes wYes := ⟨pts_nil, fun Z ρ M σ H Q Q' s h q => q true H M s.refl h⟩
theorem dts_one (h : DT X e tt wt) : DTs X [e] tt wt := ⟨pts_one h.pe, h.sm⟩
def wLcL (g : WG) (wt : WT) (we : WE) (Ok : Mp → Prop) (ρ : En) : List D → List D → Mp → KD → Prop
  | [], acc, M, Q => Ok M ∧ Q (.lst acc) M
  | d :: ds, acc, M, Q => Ok M ∧ acc.length < sizeLine ∧ g d ρ M fun ρ1 M1 => wt ρ1 M1 fun b M2 => if b = true then we ρ1 M2 fun y M3 => wLcL g wt we Ok ρ ds (acc ++ [y]) M3 Q else wLcL g wt we Ok ρ ds acc M2 Q
def wLc (wi : WI) (g : WG) (wt : WT) (we : WE) (vs : List Nat) : WE := fun ρ M Q => wi ρ M fun ds Ok M1 => wLcL g wt we Ok (wipeE ρ vs) ds [] M1 Q
theorem sim_lc {K : PySem.W.Frag} {vs : List Nat} (hi : SimI K ti wi) (hg : SimG K tg wg) (ht : SimT K tt wt) (he : SimE K te we) (kp : KeepG vs tg) : SimE K (tLc ti tg tt te vs) (wLc wi wg wt we vs) := by
  intro Z ρ M σ H Q Q' r h q
  refine hi Z ρ M σ H _ _ r h fun J ds Ok H1 M1 g1 wk q1 => ?_
  intro D hD
  have m1 := g1.sat.free hD
  have z1 := g1.sat.freeZ hD
  have f1 : fz Z H1 M1 D = none := by
    rw [fz_none m1 z1]
    exact hD
  have s0 := Sat.swap (Z' := upd Z D (.lst [])) (H' := upd H1 D (.lst [])) g1.sat m1 f1 (fun b hb => upd_ne hb) (fun b hb => upd_ne hb) (fun o e => by rw [upd_same] at e ⊢; exact e)
  refine ⟨fun i m H' => m + i = ds.length ∧ ∃ (acc : List L3.D) (va : List V) (M' : Mp), Sat K (upd Z D (.lst va)) H' M' ∧ Same (fz Z H1 M1) (fz (upd Z D (.lst va)) H' M') ∧ RepL K (fz (upd Z D (.lst va)) H' M') va acc ∧ wLcL wg wt we Ok (wipeE ρ vs) (ds.drop i) acc M' Q,
    ⟨ds.length, rfl, [], [], M1, s0.1, s0.2, .nil, q1⟩, fun i m H' ⟨em, acc, va, M', S, ex, ra, l⟩ => ?_⟩
  have zd : upd Z D (.lst va) D = some (.lst va) := upd_same
  by_cases hlt : i < ds.length
  · have e : ds.drop i = ds[i] :: ds.drop (i + 1) := List.drop_eq_getElem_cons hlt
    rw [e] at l
    obtain ⟨ok, hacc, l⟩ := l
    obtain ⟨go, yl⟩ := (wk _ H' M' S ex ok).1 i ds[i] (List.getElem?_eq_getElem hlt)
    refine .inr ⟨go, fun H2 => ∃ (acc : List L3.D) (va : List V) (M' : Mp), Sat K (upd Z D (.lst va)) H2 M' ∧ Same (fz Z H1 M1) (fz (upd Z D (.lst va)) H2 M') ∧ RepL K (fz (upd Z D (.lst va)) H2 M') va acc ∧ wLcL wg wt we Ok (wipeE ρ vs) (ds.drop (i + 1)) acc M' Q,
      fun H2 z => ⟨m - 1, by omega, by omega, z⟩, fun x H3 hy => ?_⟩
    obtain ⟨g3, rp⟩ := yl x H3 hy
    have r3 : R3 K (upd Z D (.lst va)) (wipeE ρ vs) M' (wipe σ vs) H3 := ⟨g3.sat, (wipe_rel (r.env.up g1.ex) vs).up (ex.trans g3.ex)⟩
    have ww : wipe (wipe σ vs) vs = wipe σ vs := by
      have idem : ∀ us : List Nat, (∀ u ∈ us, u ∈ vs) → wipe (wipe σ us) vs = wipe σ vs := fun us => by
        induction us with
        | nil => intro _; rfl
        | cons u us ih =>
          intro hu
          show wipe ((wipe σ us).set u none) vs = _
          rw [wipe_set (hu u List.mem_cons_self)]
          exact ih fun y hy => hu y (List.mem_cons_of_mem _ hy)
      exact idem vs fun u hu => hu
    refine kp x _ _ H3 _ ww ?_
    refine hg _ x _ _ M' _ H3 _ _ r3 rp l fun ρ4 M4 σ4 H4 r4 g4 z => ?_
    refine ht _ ρ4 M4 σ4 H4 _ _ r4 z fun b H5 M5 g5 z5 => ?_
    have g35 := (g3.trans g4).trans g5
    cases b with
    | true =>
      rw [if_pos rfl] at z5 ⊢
      refine he _ ρ4 M5 σ4 H5 _ _ (r4.go g5) z5 fun y d H6 M6 g6 r6 z6 => ?_
      have g36 := g35.trans g6
      have h6 := g36.sat.zed D _ zd
      refine ⟨va, h6.1, by rw [ra.len]; exact hacc, ?_⟩
      have s6 := Sat.swap (Z' := upd Z D (.lst (va ++ [y]))) (H' := upd H6 D (.lst (va ++ [y]))) g36.sat h6.2 (fz_hid zd) (fun b hb => upd_ne hb) (fun b hb => by rw [upd_ne hb, upd_ne hb]) (fun o e => by rw [upd_same] at e ⊢; exact e)
      exact ⟨acc ++ [d], va ++ [y], M6, s6.1, (ex.trans g36.ex).trans s6.2, ((ra.up g36.ex).up s6.2).app (.cons (r6.up s6.2) .nil), z6⟩
    | false =>
      rw [if_neg Bool.false_ne_true] at z5 ⊢
      exact ⟨acc, va, M5, g35.sat, ex.trans g35.ex, ra.up g35.ex, z5⟩
  · have e : ds.drop i = [] := List.drop_eq_nil_of_le (by omega)
    rw [e] at l
    have hd := S.zed D _ zd
    have s2 := Sat.swap (Z' := Z) (H' := H') S hd.2 (fz_hid zd) (fun b hb => rfl) (fun b hb => by rw [upd_ne hb]) (fun o e => by rw [z1] at e; cases e)
    refine .inl ⟨(wk _ H' M' S ex l.1).2 i (by omega), ?_⟩
    exact q _ _ H' M' ⟨s2.1, (g1.ex.trans ex).trans s2.2⟩ (.lst (.inl (.inl (fz_to hd.2 z1 hd.1))) (ra.up s2.2)) l.2
theorem de_lc0 {scope : Scope} {own : List (Str × Nat)} (hc : X.calm = true) (hN : X.N.Nodup) (hi : DI X tgt iter ti wi) (ok : BlkOk X.N X.env.scope scope own)
    (hg : ∀ (s : Shared) (H : Hp) (C : Addr) (cl : List (Str × Addr)) (fp : List Addr), DG (X.blk s H scope (compEnvC scope cl C X.env) fp) tgt tg wg) (ht : ∀ (s : Shared) (H : Hp) (C : Addr) (cl : List (Str × Addr)) (fp : List Addr), DTs (X.blk s H scope (compEnvC scope cl C X.env) fp) ifs tt wt)
    (he : ∀ (s : Shared) (H : Hp) (C : Addr) (cl : List (Str × Addr)) (fp : List Addr), DE (X.blk s H scope (compEnvC scope cl C X.env) fp) elt te we) (kp : KeepG (own.map (·.2)) tg) (hs : ∀ x, foldedSetIterable iter X.env x = pure x := by intro _; rfl) :
    DE X (.ListComp elt [⟨tgt, iter, ifs, 0⟩] scope pos) (tLc ti tg tt te (own.map (·.2))) (wLc wi wg wt we (own.map (·.2))) :=
  ⟨pe_lc hc hN hi.pe ok (fun s H C cl fp => (hg s H C cl fp).pe) (fun s H C cl fp => (ht s H C cl fp).pe) (fun s H C cl fp => (he s H C cl fp).pe) hs, sim_lc hi.sm (hg X.s_0 X.H_0 0 [] []).sm (ht X.s_0 X.H_0 0 [] []).sm (he X.s_0 X.H_0 0 [] []).sm kp⟩
/-- name = [..] on one line -/
theorem ds_setLc0 (i : Nat) {y : Str} {py : Pos} {scope : Scope} {own : List (Str × Nat)} {spos : Pos} (hc : X.calm = true) (hN : X.N.Nodup)
    (hi : DI X tgt iter ti wi) (ok : BlkOk X.N X.env.scope scope own)
    (hg : ∀ (s : Shared) (H : Hp) (C : Addr) (cl : List (Str × Addr)) (fp : List Addr), DG (X.blk s H scope (compEnvC scope cl C X.env) fp) tgt tg wg) (ht : ∀ (s : Shared) (H : Hp) (C : Addr) (cl : List (Str × Addr)) (fp : List Addr), DTs (X.blk s H scope (compEnvC scope cl C X.env) fp) ifs tt wt)
    (he : ∀ (s : Shared) (H : Hp) (C : Addr) (cl : List (Str × Addr)) (fp : List Addr), DE (X.blk s H scope (compEnvC scope cl C X.env) fp) elt te we) (kp : KeepG (own.map (·.2)) tg)
    (hsw : swapsWith (.ListComp elt [⟨tgt, iter, ifs, 0⟩] scope pos) (some (.Name y py)) spos.line X.env = pure true) (hy : X.N[i]? = some y := by rfl) (hyl : X.env.scope.names.lookup y = some .local := by rfl) (hs : ∀ x, foldedSetIterable iter X.env x = pure x := by intro _; rfl) :
    DS X E (.Assign [.Name y py] (.ListComp elt [⟨tgt, iter, ifs, 0⟩] scope pos) spos) (tAsg (tLc ti tg tt te (own.map (·.2))) (gName i)) (wAsg (wLc wi wg wt we (own.map (·.2))) (wgName i)) :=
  ⟨ps_setLc hc hN hy hyl hsw hi.pe ok (fun s H C cl fp => (hg s H C cl fp).pe) (fun s H C cl fp => (ht s H C cl fp).pe) (fun s H C cl fp => (he s H C cl fp).pe) hs, sim_asg (sim_lc hi.sm (hg X.s_0 X.H_0 0 [] []).sm (ht X.s_0 X.H_0 0 [] []).sm (he X.s_0 X.H_0 0 [] []).sm kp) (sim_gname i)⟩

section
variable {scope : Scope} {own : List (Str × Nat)} {gF : Shared → Hp → Addr → List (Str × Addr) → List Addr → TG} {tF : Shared → Hp → Addr → List (Str × Addr) → List Addr → TT} {eF : Shared → Hp → Addr → List (Str × Addr) → List Addr → TE}
theorem de_lc (hc : X.calm = true) (hN : X.N.Nodup) (hi : DI X tgt iter ti wi) (ok : BlkOk X.N X.env.scope scope own)
    (hg : ∀ (s : Shared) (H : Hp) (C : Addr) (cl : List (Str × Addr)) (fp : List Addr), DG (X.blk s H scope (compEnvC scope cl C X.env) fp) tgt (gF s H C cl fp) wg) (ht : ∀ (s : Shared) (H : Hp) (C : Addr) (cl : List (Str × Addr)) (fp : List Addr), DTs (X.blk s H scope (compEnvC scope cl C X.env) fp) ifs (tF s H C cl fp) wt)
    (he : ∀ (s : Shared) (H : Hp) (C : Addr) (cl : List (Str × Addr)) (fp : List Addr), DE (X.blk s H scope (compEnvC scope cl C X.env) fp) elt (eF s H C cl fp) we) (kp : KeepG (own.map (·.2)) (gF X.s_0 X.H_0 0 [] [])) (hs : ∀ x, foldedSetIterable iter X.env x = pure x := by intro _; rfl)
    (qg : ∀ s H C cl fp, gF s H C cl fp = gF X.s_0 X.H_0 0 [] [] := by intros; rfl) (qt : ∀ s H C cl fp, tF s H C cl fp = tF X.s_0 X.H_0 0 [] [] := by intros; rfl) (qe : ∀ s H C cl fp, eF s H C cl fp = eF X.s_0 X.H_0 0 [] [] := by intros; rfl) :
    DE X (.ListComp elt [⟨tgt, iter, ifs, 0⟩] scope pos) (tLc ti (gF X.s_0 X.H_0 0 [] []) (tF X.s_0 X.H_0 0 [] []) (eF X.s_0 X.H_0 0 [] []) (own.map (·.2))) (wLc wi wg wt we (own.map (·.2))) :=
  de_lc0 hc hN hi ok (fun s H C cl fp => qg s H C cl fp ▸ hg s H C cl fp) (fun s H C cl fp => qt s H C cl fp ▸ ht s H C cl fp) (fun s H C cl fp => qe s H C cl fp ▸ he s H C cl fp) kp hs
theorem ds_setLc (i : Nat) {y : Str} {py : Pos} {spos : Pos} (hc : X.calm = true) (hN : X.N.Nodup) (hi : DI X tgt iter ti wi) (ok : BlkOk X.N X.env.scope scope own)
    (hg : ∀ (s : Shared) (H : Hp) (C : Addr) (cl : List (Str × Addr)) (fp : List Addr), DG (X.blk s H scope (compEnvC scope cl C X.env) fp) tgt (gF s H C cl fp) wg) (ht : ∀ (s : Shared) (H : Hp) (C : Addr) (cl : List (Str × Addr)) (fp : List Addr), DTs (X.blk s H scope (compEnvC scope cl C X.env) fp) ifs (tF s H C cl fp) wt)
    (he : ∀ (s : Shared) (H : Hp) (C : Addr) (cl : List (Str × Addr)) (fp : List Addr), DE (X.blk s H scope (compEnvC scope cl C X.env) fp) elt (eF s H C cl fp) we) (kp : KeepG (own.map (·.2)) (gF X.s_0 X.H_0 0 [] []))
    (hsw : swapsWith (.ListComp elt [⟨tgt, iter, ifs, 0⟩] scope pos) (some (.Name y py)) spos.line X.env = pure true) (hy : X.N[i]? = some y := by rfl) (hyl : X.env.scope.names.lookup y = some .local := by rfl) (hs : ∀ x, foldedSetIterable iter X.env x = pure x := by intro _; rfl)
    (qg : ∀ s H C cl fp, gF s H C cl fp = gF X.s_0 X.H_0 0 [] [] := by intros; rfl) (qt : ∀ s H C cl fp, tF s H C cl fp = tF X.s_0 X.H_0 0 [] [] := by intros; rfl) (qe : ∀ s H C cl fp, eF s H C cl fp = eF X.s_0 X.H_0 0 [] [] := by intros; rfl) :
    DS X E (.Assign [.Name y py] (.ListComp elt [⟨tgt, iter, ifs, 0⟩] scope pos) spos) (tAsg (tLc ti (gF X.s_0 X.H_0 0 [] []) (tF X.s_0 X.H_0 0 [] []) (eF X.s_0 X.H_0 0 [] []) (own.map (·.2))) (gName i)) (wAsg (wLc wi wg wt we (own.map (·.2))) (wgName i)) :=
  ds_setLc0 i hc hN hi ok (fun s H C cl fp => qg s H C cl fp ▸ hg s H C cl fp) (fun s H C cl fp => qt s H C cl fp ▸ ht s H C cl fp) (fun s H C cl fp => qe s H C cl fp ▸ he s H C cl fp) kp hsw hy hyl hs
end
/-! ### built-in functions -/
abbrev FC := List D → Mp → KD → Prop
def SimC (K : PySem.W.Frag) (r : List V → Hp → VK → Prop) (f : FC) : Prop := ∀ (Z : Hp) (xs : List V) (ds : List D) (H : Hp) (M : Mp) (Q : KD) (Q' : VK), Sat K Z H M → RepL K (fz Z H M) xs ds → f ds M Q → (∀ v d' H' M', Go K Z H M H' M' → Rep K (fz Z H' M') v d' → Q d' M' → Q' v H') → r xs H Q'
def wCB (f : FC) (r : WA) : WE := fun ρ M Q => r ρ M fun ds M1 => f ds M1 Q
theorem sim_CB {K : PySem.W.Frag} {r : List V → Hp → VK → Prop} {f : FC} (ha : SimA K tr wr) (hs : SimC K r f) : SimE K (tCB r tr) (wCB f wr) := by
  intro Z ρ M σ H Q Q' s h q
  refine ha Z ρ M σ H _ _ s h fun xs ds H1 M1 g1 r1 q1 => ?_
  exact hs Z xs ds H1 M1 Q Q' g1.sat r1 q1 fun v d H2 M2 g2 r2 q2 => q v d H2 M2 (g1.trans g2) r2 q2
theorem de_callB {x : Str} {p : Pos} {id : String} {r : List V → Hp → VK → Prop} {f : FC} (hc : CallR X (.builtin id) r) (hs : SimC X.K r f) (hm : X.mg x = none) (hv : bootBuiltins x = some (.builtin id)) (ha : DA X (e :: es) tr wr) (hg : Gl X x := by rfl) (hn : x ≠ "__name__" := by decide) (hdb : (x == ("__debug__" : Str)) = false := by decide)
    (he : starEach (e :: es) X.env = (false, eval e X.env) :: starEach es X.env := by rfl) (hpl : (backTo pos (starEach es X.env)).any (·.1) = false := by rfl) : DE X (.Call (.Name x p) (e :: es) [] pos) (tCB r tr) (wCB f wr) := ⟨pe_callB hc hg hm hv ha.pe hn hdb he hpl, sim_CB ha.sm hs⟩
theorem de_callTy {x : Str} {p : Pos} {T : String} {r : List V → Hp → VK → Prop} {f : FC} (hc : CallR X (.type T) r) (hs : SimC X.K r f) (hm : X.mg x = none) (hv : bootBuiltins x = some (.type T)) (ha : DA X (e :: es) tr wr) (hg : Gl X x := by rfl) (hn : x ≠ "__name__" := by decide) (hdb : (x == ("__debug__" : Str)) = false := by decide)
    (he : starEach (e :: es) X.env = (false, eval e X.env) :: starEach es X.env := by rfl) (hpl : (backTo pos (starEach es X.env)).any (·.1) = false := by rfl) : DE X (.Call (.Name x p) (e :: es) [] pos) (tCB r tr) (wCB f wr) := ⟨pe_callTy hc hg hm hv ha.pe hn hdb he hpl, sim_CB ha.sm hs⟩
/-- repr -/
def fRepr : FC := fun ds M Q => match ds with
  | [d] => (∃ n, n ≤ 60 ∧ shw n (res M d)) ∧ cost (res M d) ≤ 16000000 ∧ Q (.str (shown (res M d))) M
  | _ => False
theorem sim_repr {K : PySem.W.Frag} : SimC K (fun xs H Q => ∃ (x : V) (d : D) (n : Nat), xs = [x] ∧ Rep K H x d ∧ shw n d ∧ n ≤ 60 ∧ cost d ≤ 16000000 ∧ Q (.str (shown d)) H) fRepr := by
  intro Z xs ds H M Q Q' S r f q
  unfold fRepr at f
  split at f
  · cases r with
    | cons r1 r2 =>
      cases r2
      obtain ⟨⟨n, hn, hs⟩, hc, z⟩ := f
      exact ⟨_, _, n, rfl, res_rep S r1, hs, hn, hc, q _ _ H M (Go.refl S) (.str _) z⟩
  · exact f.elim
/-- len -/
def fLen : FC := fun ds M Q => match ds with
  | [.str x] => x.length ≤ sizeLine ∧ Q (.int (x.length : Int)) M
  | [d] => ∃ es, seqD M d = some es ∧ Q (.int (es.length : Int)) M
  | _ => False
def rLenA (K : PySem.W.Frag) : List V → Hp → VK → Prop := fun xs H Q => (∃ p ys, xs = [.ref p] ∧ (SqL K H p ys ∨ SqT K H p ys) ∧ Q (.int ys.length) H) ∨ ∃ z, xs = [.str z] ∧ z.length ≤ sizeLine ∧ Q (.int z.length) H
theorem call_lenA : CallR X (.builtin "len") (rLenA X.K) := call_len_seq.or call_len_str
theorem sim_len {K : PySem.W.Frag} : SimC K (rLenA K) fLen := by
  intro Z xs ds H M Q Q' S r f q
  unfold fLen at f
  split at f
  · cases r with
    | cons r1 r2 =>
      cases r2
      cases r1
      exact .inr ⟨_, rfl, f.1, q _ _ H M (Go.refl S) (.int _) f.2⟩
  · cases r with
    | cons r1 r2 =>
      cases r2
      obtain ⟨es, hs, z⟩ := f
      obtain ⟨p, vs, rfl, hv, rl⟩ := seq_of S r1 hs
      refine .inl ⟨p, vs, rfl, hv, q _ _ H M (Go.refl S) ?_ z⟩
      rw [rl.len]
      exact .int _
  · exact f.elim
/-- int(x) of an int, a bool -/
def fInt : FC := fun ds M Q => match ds with
  | [.int i] => Q (.int i) M
  | [.bl b] => Q (.int (if b then 1 else 0)) M
  | _ => False
theorem sim_int {K : PySem.W.Frag} : SimC K (fun xs H Q => (∃ i, xs = [.int i] ∧ Q (.int i) H) ∨ ∃ k, xs = [.bl k] ∧ Q (.int (if k then 1 else 0)) H) fInt := by
  intro Z xs ds H M Q Q' S r f q
  unfold fInt at f
  split at f
  · cases r with
    | cons r1 r2 =>
      cases r2
      cases r1
      exact .inl ⟨_, rfl, q _ _ H M (Go.refl S) (.int _) f⟩
  · cases r with
    | cons r1 r2 =>
      cases r2
      cases r1
      exact .inr ⟨_, rfl, q _ _ H M (Go.refl S) (.int _) f⟩
  · exact f.elim
def fAbs : FC := fun ds M Q => match ds with
  | [.int i] => Q (.int (if i < 0 then -i else i)) M
  | _ => False
theorem sim_abs {K : PySem.W.Frag} : SimC K (fun xs H Q => ∃ i, xs = [.int i] ∧ Q (.int (if i < 0 then -i else i)) H) fAbs := by
  intro Z xs ds H M Q Q' S r f q
  unfold fAbs at f
  split at f
  · cases r with
    | cons r1 r2 =>
      cases r2
      cases r1
      exact ⟨_, rfl, q _ _ H M (Go.refl S) (.int _) f⟩
  · exact f.elim
def f2I (g : Int → Int → Int) : FC := fun ds M Q => match ds with
  | [.int i, .int j] => Q (.int (g i j)) M
  | _ => False
theorem sim_2I {K : PySem.W.Frag} {g : Int → Int → Int} : SimC K (fun xs H Q => ∃ i j, xs = [.int i, .int j] ∧ Q (.int (g i j)) H) (f2I g) := by
  intro Z xs ds H M Q Q' S r f q
  unfold f2I at f
  split at f
  · cases r with
    | cons r1 r2 =>
      cases r2 with
      | cons r2 r3 =>
        cases r3
        cases r1
        cases r2
        exact ⟨_, _, rfl, q _ _ H M (Go.refl S) (.int _) f⟩
  · exact f.elim
/-- tuple(x), list(x) of a list or a tuple -/
def fTuple : FC := fun ds M Q => match ds with
  | [d] => ∃ es, seqD M d = some es ∧ Q (.tup es) M
  | _ => False
theorem sim_tuple {K : PySem.W.Frag} : SimC K (fun xs H Q => ∃ p ys, xs = [.ref p] ∧ ((SqL K H p ys ∧ ∀ l, H l = none → Q (.ref l) (upd H l (.tup ys))) ∨ (SqT K H p ys ∧ Q (.ref p) H))) fTuple := by
  intro Z xs ds H M Q Q' S r f q
  unfold fTuple at f
  split at f
  · cases r with
    | cons r1 r2 =>
      cases r2
      obtain ⟨es, hs, z⟩ := f
      cases hd : ‹D› with
      | tup us =>
        subst hd
        obtain rfl : us = es := Option.some.inj hs
        cases r1 with
        | tup h1 rl => exact ⟨_, _, rfl, .inr ⟨sqt_mono fz_sub h1, q _ _ H M (Go.refl S) (.tup h1 rl) z⟩⟩
      | lst us =>
        subst hd
        obtain ⟨p, vs, rfl, hv, rl⟩ := lst_of S r1 ⟨0, .inr (by obtain rfl : us = es := Option.some.inj hs; rfl)⟩ hs
        refine ⟨p, vs, rfl, .inl ⟨hv, fun l hl => ?_⟩⟩
        obtain ⟨g, n⟩ := Go.laid (o := .tup vs) S hl
        exact q _ _ _ _ g (.tup (.inl (.inl n)) (rl.up g.ex)) z
      | tok p0 =>
        subst hd
        obtain ⟨p, vs, rfl, hv, rl⟩ := lst_of S r1 ⟨p0, .inl rfl⟩ hs
        refine ⟨p, vs, rfl, .inl ⟨hv, fun l hl => ?_⟩⟩
        obtain ⟨g, n⟩ := Go.laid (o := .tup vs) S hl
        exact q _ _ _ _ g (.tup (.inl (.inl n)) (rl.up g.ex)) z
      | non => subst hd; cases hs
      | bl _ => subst hd; cases hs
      | int _ => subst hd; cases hs
      | str _ => subst hd; cases hs
      | ty _ => subst hd; cases hs
  · exact f.elim
def fList : FC := fun ds M Q => match ds with
  | [d] => ∃ es, seqD M d = some es ∧ Q (.lst es) M
  | _ => False
def rListA (K : PySem.W.Frag) : List V → Hp → VK → Prop := fun xs H Q => ∃ p ys, xs = [.ref p] ∧ (SqL K H p ys ∨ SqT K H p ys) ∧ ∀ l, H l = none → Q (.ref l) (upd H l (.lst ys))
theorem sim_list {K : PySem.W.Frag} : SimC K (rListA K) fList := by
  intro Z xs ds H M Q Q' S r f q
  unfold fList at f
  split at f
  · cases r with
    | cons r1 r2 =>
      cases r2
      obtain ⟨es, hs, z⟩ := f
      obtain ⟨p, vs, rfl, hv, rl⟩ := seq_of S r1 hs
      refine ⟨p, vs, rfl, hv, fun l hl => ?_⟩
      obtain ⟨g, n⟩ := Go.laid (o := .lst vs) S hl
      exact q _ _ _ _ g (.lst (.inl (.inl n)) (rl.up g.ex)) z
  · exact f.elim
def fListM : FC := fun ds M Q => match ds with
  | [d] => ∃ es, seqD M d = some es ∧ ∀ p, M p = none → Q (.tok p) (setM M p (.lst es))
  | _ => False
theorem sim_listM {K : PySem.W.Frag} : SimC K (rListA K) fListM := by
  intro Z xs ds H M Q Q' S r f q
  unfold fListM at f
  split at f
  · cases r with
    | cons r1 r2 =>
      cases r2
      obtain ⟨es, hs, z⟩ := f
      obtain ⟨p, vs, rfl, hv, rl⟩ := seq_of S r1 hs
      refine ⟨p, vs, rfl, hv, fun l hl => ?_⟩
      exact q _ _ _ _ (Go.putL S (.inl hl) rl) (.tok l) (z l (S.free hl))
  · exact f.elim
/-- sum, any, all of lists -/
def fSum : FC := fun ds M Q => match ds with
  | [d] => ∃ ns : List Int, (∃ a, d = .tok a ∨ d = .lst (ns.map .int)) ∧ seqD M d = some (ns.map .int) ∧ Q (.int ns.sum) M
  | _ => False
theorem sim_sum {K : PySem.W.Frag} : SimC K (rSum K) fSum := by
  intro Z xs ds H M Q Q' S r f q
  unfold fSum at f
  split at f
  · cases r with
    | cons r1 r2 =>
      cases r2
      obtain ⟨ns, hd, hs, z⟩ := f
      obtain ⟨p, vs, rfl, hv, rl⟩ := lst_of S r1 hd hs
      obtain rfl := rl.ints
      exact ⟨p, ns, rfl, hv, q _ _ H M (Go.refl S) (.int _) z⟩
  · exact f.elim
def fBls (g : List Bool → Bool) : FC := fun ds M Q => match ds with
  | [d] => ∃ ns : List Bool, (∃ a, d = .tok a ∨ d = .lst (ns.map .bl)) ∧ seqD M d = some (ns.map .bl) ∧ Q (.bl (g ns)) M
  | _ => False
theorem sim_any {K : PySem.W.Frag} : SimC K (rAny K) (fBls fun bs => bs.any id) := by
  intro Z xs ds H M Q Q' S r f q
  unfold fBls at f
  split at f
  · cases r with
    | cons r1 r2 =>
      cases r2
      obtain ⟨ns, hd, hs, z⟩ := f
      obtain ⟨p, vs, rfl, hv, rl⟩ := lst_of S r1 hd hs
      obtain rfl := rl.bls
      exact ⟨p, ns, rfl, hv, q _ _ H M (Go.refl S) (.bl _) z⟩
  · exact f.elim
theorem sim_all {K : PySem.W.Frag} : SimC K (rAll K) (fBls fun bs => bs.all id) := by
  intro Z xs ds H M Q Q' S r f q
  unfold fBls at f
  split at f
  · cases r with
    | cons r1 r2 =>
      cases r2
      obtain ⟨ns, hd, hs, z⟩ := f
      obtain ⟨p, vs, rfl, hv, rl⟩ := lst_of S r1 hd hs
      obtain rfl := rl.bls
      exact ⟨p, ns, rfl, hv, q _ _ H M (Go.refl S) (.bl _) z⟩
  · exact f.elim
/-- the greatest, the least of a list of ints -/
def fMost (le : Int → Int → Prop) : FC := fun ds M Q => match ds with
  | [d] => ∃ ns : List Int, (∃ a, d = .tok a ∨ d = .lst (ns.map .int)) ∧ seqD M d = some (ns.map .int) ∧ 0 < ns.length ∧ ∀ m, m ∈ ns → (∀ y ∈ ns, le y m) → Q (.int m) M
  | _ => False
theorem sim_max {K : PySem.W.Frag} : SimC K (rMax K) (fMost fun y m => y ≤ m) := by
  intro Z xs ds H M Q Q' S r f q
  unfold fMost at f
  split at f
  · cases r with
    | cons r1 r2 =>
      cases r2
      obtain ⟨ns, hd, hs, hl, z⟩ := f
      obtain ⟨p, vs, rfl, hv, rl⟩ := lst_of S r1 hd hs
      obtain rfl := rl.ints
      exact ⟨p, ns, rfl, hv, hl, fun m h1 h2 => q _ _ H M (Go.refl S) (.int _) (z m h1 h2)⟩
  · exact f.elim
theorem sim_min {K : PySem.W.Frag} : SimC K (rMin K) (fMost fun y m => m ≤ y) := by
  intro Z xs ds H M Q Q' S r f q
  unfold fMost at f
  split at f
  · cases r with
    | cons r1 r2 =>
      cases r2
      obtain ⟨ns, hd, hs, hl, z⟩ := f
      obtain ⟨p, vs, rfl, hv, rl⟩ := lst_of S r1 hd hs
      obtain rfl := rl.ints
      exact ⟨p, ns, rfl, hv, hl, fun m h1 h2 => q _ _ H M (Go.refl S) (.int _) (z m h1 h2)⟩
  · exact f.elim
/-- sorted of a list of ints -/
def fSorted : FC := fun ds M Q => match ds with
  | [d] => ∃ ns : List Int, (∃ a, d = .tok a ∨ d = .lst (ns.map .int)) ∧ seqD M d = some (ns.map .int) ∧ ns.length < 64 ∧ ∀ ms : List Int, ms.Perm ns → ms.Pairwise (· ≤ ·) → Q (.lst (ms.map .int)) M
  | _ => False
theorem sim_sorted {K : PySem.W.Frag} : SimC K (rSorted K) fSorted := by
  intro Z xs ds H M Q Q' S r f q
  unfold fSorted at f
  split at f
  · cases r with
    | cons r1 r2 =>
      cases r2
      obtain ⟨ns, hd, hs, hl, z⟩ := f
      obtain ⟨p, vs, rfl, hv, rl⟩ := lst_of S r1 hd hs
      obtain rfl := rl.ints
      refine ⟨p, ns, rfl, hv, hl, fun ms l h1 h2 hl => ?_⟩
      obtain ⟨g, n⟩ := Go.laid (o := .lst (ms.map V.int)) S hl
      exact q _ _ _ _ g (.lst (.inl (.inl n)) (.ofInts ms)) (z ms h1 h2)
  · exact f.elim
end
end L3
namespace L3
open PySem L2
/-! ### the law's own call -/
theorem law_g {P : Program} {w : World} {K : PySem.W.Frag} {mg mb : Str → Option Value} {k : Nat} {fa a : Addr} {fd : FuncData} {x : Str} {sp : Sp} {s1 : Shared} {vs : List Value} {ns : List Int}
    (KX : K.In s1.heap) (hns : s1.heap.Ns mainGlobals mg) (hb : s1.heap.Ns builtinsNs mb) (hbb : ∀ x : Str, x ≠ "__name__" → mb x = bootBuiltins x) (hlim : s1.heap.NoLimit) (hg : s1.gens = #[])
    (ha : s1.heap.get? a = some { cls := .type "list", data := .seq vs.toArray }) (hi : PyProof.Rows.IntsAre vs ns) (hl : ns.length ≤ sizeLine) (hr : Room k callerA)
    (F : ∀ base : Heap, K.In base → base.Ns mainGlobals mg → FnG P w K mg base k fa fd [x] sp) (hbind : ∀ (s : Shared) (u : Value), BindsTo s fd ⟨[u], []⟩ [(x, u)])
    (hsp : ∀ H : Hp, SqL K H a (ns.map V.int) → sp [.ref a] H (fun v _ => v = .bl true) fun _ _ _ => False) :
    codeAny (model P w) callerA (.call (.ref fa) ⟨[.ref a], []⟩) (fun r s' => r = .ok (.ret (.bool true)) ∧ OldK s1.heap s'.heap ∧ s'.os = s1.os ∧ PyProof.Rows.AllBare s'.gens) s1 := by
  have vals := vals_ints hi
  have hlen := hi.length
  have main : ∀ H : Hp, Only H → SqL K H a (ns.map V.int) → HOk P w H s1.heap → (∀ b, H b ≠ none → b = a) → (H a ≠ none → K.lookup a = none) →
      codeAny (model P w) callerA (.call (.ref fa) ⟨[.ref a], []⟩) (fun r s' => r = .ok (.ret (.bool true)) ∧ OldK s1.heap s'.heap ∧ s'.os = s1.os ∧ PyProof.Rows.AllBare s'.gens) s1 := by
    intro H only sq hok hA hK
    have eqa : ∀ {b : Addr} {u : HO}, H b = some u → b = a := fun {b u} q => hA b (by rw [q]; exact fun z => nomatch z)
    have free : ∀ {b : Addr} {o : Obj}, s1.heap.get? b = some o → o ≠ { cls := .type "list", data := .seq vs.toArray } → H b = none := fun {b o} e d => by
      cases q : H b with
      | none => rfl
      | some u =>
        have e' := eqa q
        subst e'
        rw [ha] at e
        exact absurd (Option.some.inj e).symm d
    have nsK : ∀ {b : Addr} {m : Str → Option Value}, s1.heap.Ns b m → (hidT s1.heap H).Ns b m := fun {b m} ⟨o, es, ep, e, d, r⟩ =>
      ⟨o, es, ep, hidT_get e (free e fun z => by rw [z] at d; exact nomatch d), d, r⟩
    have kin : K.In (hidT s1.heap H) := fun b o e => hidT_get (KX b o e) (by
      cases q : H b with
      | none => rfl
      | some u =>
        have e' := eqa q
        subst e'
        rw [hK (by rw [q]; exact fun z => nomatch z)] at e
        exact nomatch e)
    have md : Mod K mg (hidT s1.heap H) := ⟨kin, nsK hns, ⟨mb, nsK hb, hbb⟩, hlim.elim fun mc h => ⟨mc, nsK h.1, h.2⟩⟩
    have e0 : Env0 P w K mg (hidT s1.heap H) callerA [] s1 H := ⟨rfl, md, fun b o e => of_hidT e, Nat.le_of_eq (hidT_size _ _), trivial, fun b z => absurd z List.not_mem_nil, hok, .of_eq hg⟩
    refine codeAny_mono ((F _ kin (nsK hns)).run callerA [] s1 H ⟨[.ref a], []⟩ [.ref a] [.ref a] _ _ rfl hr e0 (hbind s1 (.ref a)) (.cons rfl .nil) (hsp H sq)) fun r s' h => ?_
    cases r with
    | error e =>
      obtain ⟨_, _, _, _, _, _, _, _, _, _, _, _, z⟩ := h
      exact z.elim
    | ok fl =>
      cases fl with
      | next => exact h.elim
      | brk => exact h.elim
      | cont => exact h.elim
      | ret u =>
        obtain ⟨v, H', os, bare, un, hok', rv, q⟩ := h
        subst q
        obtain rfl : u = Value.bool true := rv
        refine ⟨rfl, OldK.of_keep fun b o e => ?_, os, bare⟩
        cases q : H b with
        | none => exact un.keep b o e q List.not_mem_nil List.not_mem_nil
        | some u =>
          rcases only b with z | ⟨ob, xs, z⟩
          · rw [q] at z
            exact nomatch z
          · have e1 := (hok b _ z).1
            have e2 := (hok' b _ (un.frzs b ob _ z)).1
            rw [e] at e1
            rw [Option.some.inj e1]
            exact e2
  cases hk : K.lookup a with
  | some o =>
    have e := KX a o hk
    rw [ha] at e
    cases e
    exact main (fun _ => none) (fun _ => .inl rfl) (.inr ⟨_, vs.toArray, _, hk, rfl, rfl, rfl, by rw [List.size_toArray, hlen]; exact hl, by simpa using vals⟩) (fun _ _ z => nomatch z) (fun _ z => absurd rfl z) fun z => absurd rfl z
  | none =>
    refine main (fun b => if b = a then some (.frz { cls := .type "list", data := .seq vs.toArray } (.lst (ns.map V.int))) else none) (fun b => ?_) (.inl (.inr ⟨{ cls := .type "list", data := .seq vs.toArray }, if_pos rfl⟩)) (fun b u z => ?_) (fun b z => ?_) fun _ => hk
    · rcases Decidable.em (b = a) with e | e
      · exact .inr ⟨_, _, if_pos e⟩
      · exact .inl (if_neg e)
    · rcases Decidable.em (b = a) with e | e
      · have z' := (if_pos e).symm.trans z
        cases z'
        rw [e]
        exact ⟨ha, by rw [List.length_map]; exact hl, vs, _, vals, ha⟩
      · have z' := (if_neg e).symm.trans z
        cases z'
    · rcases Decidable.em (b = a) with e | e
      · exact e
      · exact absurd (if_neg e) z
theorem walk_g {l : PySem.W.OpenLaw} {n k : Nat} {q : Program} {loose : List Str} {XP : (Str → Option Value) → Heap → Prop} {YP : World → Heap → Prop} {d : DefRec} {K : Params → PySem.W.Frag} {sp : World → Sp} {x : Str}
    (hn : l.most = some n) (hn2 : n ≤ sizeLine) (hdf : d.params.defaults = []) (hr : Room k callerA) (hY : ∀ (w : World) (h : Heap), YP w h → (K w.params).In h)
    (F : ∀ (w : World) (mg : Str → Option Value) (fa : Addr) (h : Heap), (K w.params).In h → h.Ns mainGlobals mg → mg d.name = some (.ref fa) →
      ∃ fd : FuncData, (∀ (s : Shared) (u : Value), BindsTo s fd ⟨[u], []⟩ [(x, u)]) ∧ ∀ base : Heap, (K w.params).In base → base.Ns mainGlobals mg → FnG l.prog w (K w.params) mg base k fa fd [x] (sp w))
    (hsp : ∀ (w : World) (H : Hp) (a : Addr) (ns : List Int), ns.length ≤ n → SqL (K w.params) H a (ns.map V.int) → sp w [.ref a] H (fun v _ => v = .bl true) fun _ _ _ => False) :
    PySem.W.WalkO q loose XP YP l.row.toRowW d [] (fun f vs => PySem.call f vs) := by
  refine Att.attach_call hn hdf fun w s0 s1 mg mb fa o pm cd doc a vs ns G Y ho hd hcd hmg hobj hints hlen hg => ?_
  obtain ⟨fd, hb, hF⟩ := F w mg fa _ (hY w _ Y) G.T.g hmg
  exact law_g (hY w _ Y) G.T.g G.T.b G.T.builtins G.T.nolimit hg hobj hints (Nat.le_trans hlen hn2) hr hF hb fun H hS => hsp w H a ns hlen hS

/-! ### a def of the text with its contract -/
structure Has (P : Program) (w : World) (K : PySem.W.Frag) (mg : Str → Option Value) (base : Heap) (k : Nat) (x : Str) (st : Stmt) (ps : List Str) (F : Fs) : Prop where
  ex : ∃ (f : Addr) (fd : FuncData), FnG P w K mg base k f fd ps (lift K F) ∧ mg x = some (.ref f) ∧ Fun K x x st f fd ∧ Binds K fd ps []
section
variable {X : Cx} {E : XK} {e a b c : Expr} {es : List Expr} {t ta tb tc te : TE} {w wa wb wc we : WE} {pos p : Pos} {k : Nat} {tr tk : TA} {wr wk : WA} {x : Str} {st : Stmt} {ps : List Str} {F : Fs} {kws : List Keyword}
theorem de_h (h : Has X.prog X.w X.K X.mg X.base k x st ps F) (hr : Room k X.A) (gd : X.A.guards = some []) (ha : DA X (e :: es) tr wr) (hg : Gl X x := by rfl) (hdb : (x == ("__debug__" : Str)) = false := by decide)
    (he : starEach (e :: es) X.env = (false, eval e X.env) :: starEach es X.env := by rfl) (hpl : (backTo pos (starEach es X.env)).any (·.1) = false := by rfl) : DE X (.Call (.Name x p) (e :: es) [] pos) (tCallG (lift X.K F) [] E0 tr) (wCall F wr) := by
  obtain ⟨f, fd, G, hm, Fn, hb⟩ := h.ex
  exact de_call G hr gd hm Fn.kp hb ha hg hdb he hpl
theorem de_h0 (h : Has X.prog X.w X.K X.mg X.base k x st ps F) (hr : Room k X.A) (gd : X.A.guards = some []) (hg : Gl X x := by rfl) (hdb : (x == ("__debug__" : Str)) = false := by decide) : DE X (.Call (.Name x p) [] [] pos) (tCallG (lift X.K F) [] E0 tNil) (wCall F wNil) := by
  obtain ⟨f, fd, G, hm, Fn, hb⟩ := h.ex
  exact de_call0 G hr gd hm Fn.kp hb hg hdb
/-- how a call with keywords binds: shown by «fun _ _ _ _ _ _ us ws h1 h2 => match us, ws, h1, h2 with | [_], [_, _], _, _ => rfl» -/
def Kw (x : Str) (st : Stmt) (ps : List Str) (n : Nat) (ks : List Str) (idx : List Nat) : Prop := ∀ (kV doc pm : Value) (an : Option Addr) (cdv ct : Value) (us ws : List Value), us.length = n → ws.length = ks.length →
  bindArgs (PySem.W.fnOf x x (defArgs st) (defBody st) (defScope st) .none kV doc pm an cdv ct) ⟨us, ks.zip ws⟩ = pure (ps.zip (permU idx us ws))
theorem kb_of {K : PySem.W.Frag} {f : Addr} {fd : FuncData} {n : Nat} {ks : List Str} {idx : List Nat} (Fn : Fun K x x st f fd) (h : Kw x st ps n ks idx) : KB K fd ps n ks idx := by
  obtain ⟨oc, od, kV, doc, pm, an, cdv, ct, osl, rfl, lk, hcd⟩ := Fn.ex
  exact fun s us ws _ h1 h2 => .of_eq (h kV doc pm an cdv ct us ws h1 h2)
theorem de_hk {n : Nat} {ks : List Str} {idx : List Nat} (h : Has X.prog X.w X.K X.mg X.base k x st ps F) (hr : Room k X.A) (gd : X.A.guards = some []) (kb : Kw x st ps n ks idx) (ha : DA X (e :: es) tr wr) (hkw : DK X kws tk wk) (hg : Gl X x := by rfl)
    (hall : (backToKw pos (keywordEach kws X.env)).all (·.1.isSome) = true := by rfl) (hks : (backToKw pos (keywordEach kws X.env)).filterMap (·.1) = ks := by rfl)
    (hdb : (x == ("__debug__" : Str)) = false := by decide) (he : starEach (e :: es) X.env = (false, eval e X.env) :: starEach es X.env := by rfl)
    (hpl : ((backTo pos (starEach (e :: es) X.env)).any (·.1) || (backToKw pos (keywordEach kws X.env)).any (·.1.isNone)) = false := by rfl) :
    DE X (.Call (.Name x p) (e :: es) kws pos) (tCallGK n ks.length idx (lift X.K F) E0 tr tk) (wCallK n ks.length idx F wr wk) := by
  obtain ⟨f, fd, G, hm, Fn, hb⟩ := h.ex
  exact de_callK G hr gd hm Fn.kp (kb_of Fn kb) ha hkw hg hall hks hdb he hpl
theorem de_hk0 {ks : List Str} {idx : List Nat} (h : Has X.prog X.w X.K X.mg X.base k x st ps F) (hr : Room k X.A) (gd : X.A.guards = some []) (kb : Kw x st ps 0 ks idx) (hkw : DK X kws tk wk) (hg : Gl X x := by rfl)
    (hall : (backToKw pos (keywordEach kws X.env)).all (·.1.isSome) = true := by rfl) (hks : (backToKw pos (keywordEach kws X.env)).filterMap (·.1) = ks := by rfl)
    (hdb : (x == ("__debug__" : Str)) = false := by decide)
    (hpl : ((backTo pos (starEach [] X.env)).any (·.1) || (backToKw pos (keywordEach kws X.env)).any (·.1.isNone)) = false := by rfl) :
    DE X (.Call (.Name x p) [] kws pos) (tCallGK 0 ks.length idx (lift X.K F) E0 tNil tk) (wCallK 0 ks.length idx F wNil wk) := by
  obtain ⟨f, fd, G, hm, Fn, hb⟩ := h.ex
  exact de_callK0 G hr gd hm Fn.kp (kb_of Fn kb) hkw hg hall hks hdb hpl
end
theorem Has.mk' {P : Program} {w : World} {K : PySem.W.Frag} {mg : Str → Option Value} {base : Heap} {k : Nat} {x : Str} {st : Stmt} {ps : List Str} {F : Fs} {f : Addr} {fd : FuncData} (Fn : Fun K x x st f fd) (hm : mg x = some (.ref f)) (G : FnG P w K mg base k f fd ps (lift K F))
    (hb : ∀ (kV doc pm : Value) (an : Option Addr) (cdv ct : Value) (us : List Value), us.length = ps.length → bindArgs (PySem.W.fnOf x x (defArgs st) (defBody st) (defScope st) .none kV doc pm an cdv ct) ⟨us, []⟩ = pure (ps.zip us)) : Has P w K mg base k x st ps F := ⟨f, fd, G, hm, Fn, Fn.binds hb⟩

/-! ### the draws -/
def drawF : Fs := fun ds M Q _ => ∃ a a0 n, ds = [.tok a, .int n] ∧ M a = some (.drw a0) ∧ 0 < n ∧ n.natAbs.log2 < 9000 ∧ ∀ k, 0 ≤ k → k < n → Q (.int k) M
/-- one of a list's or tuple's items -/
def pickF : Fs := fun ds M Q _ => ∃ a a0 d es, ds = [.tok a, d] ∧ M a = some (.drw a0) ∧ seqD M d = some es ∧ 0 < es.length ∧ es.length ≤ 1000000 ∧ ∀ x ∈ es, Q x M
end L3
namespace L3
open PySem L2
theorem call_isqrt {X : Cx} : CallR X (.builtin "math.isqrt") (fun xs H Q => ∃ a : Int, xs = [.int a] ∧ 0 ≤ a ∧ a < 2 ^ 13000 ∧ Q (.int (Float64.isqrt a.toNat : Nat)) H) := by
  intro pins s σ H xs us Q I r h
  obtain ⟨a, rfl, h0, h1, q⟩ := h
  cases r with
  | cons r1 r2 =>
    cases r2
    obtain ⟨t, rfl⟩ := r1
    have hl : a.toNat.log2 < 13000 := by
      by_cases z : a.toNat = 0
      · rw [z]
        decide
      · rw [Nat.log2_lt z]
        have e : (a.toNat : Int) = a := Int.toNat_of_nonneg h0
        have e2 : (a.toNat : Int) < ((2 ^ 13000 : Nat) : Int) := by
          rw [e]
          exact_mod_cast h1
        exact_mod_cast e2
    refine PySem.Flt.call_fn_gives PySem.W.MGF.kind_isqrt PySem.W.MGF.plain_isqrt PySem.W.MGF.entry_isqrt (PySem.W.MGF.args_isqrt _) (PySem.W.mg_run_isqrt a t (by omega) (by omega) (by omega)) ?_
    exact ⟨.int _, H, I.tok _, ⟨_, rfl⟩, q⟩
def fIsq : FC := fun ds M Q => match ds with
  | [.int a] => 0 ≤ a ∧ a < 2 ^ 13000 ∧ Q (.int (Float64.isqrt a.toNat : Nat)) M
  | _ => False
theorem sim_isq {K : PySem.W.Frag} : SimC K (fun xs H Q => ∃ a : Int, xs = [.int a] ∧ 0 ≤ a ∧ a < 2 ^ 13000 ∧ Q (.int (Float64.isqrt a.toNat : Nat)) H) fIsq := by
  intro Z xs ds H M Q Q' S r f q
  unfold fIsq at f
  split at f
  · cases r with
    | cons r1 r2 =>
      cases r2
      cases r1
      exact ⟨_, rfl, f.1, f.2.1, q _ _ H M (Go.refl S) (.int _) f.2.2⟩
  · exact f.elim
section
variable {X : Cx} {e : Expr} {es : List Expr} {pos p : Pos} {tr : TA} {wr : WA}
/-- a function of another module of Python, taken by name -/
theorem de_callMB {x : Str} {id : String} {r : List V → Hp → VK → Prop} {g : FC} (hc : CallR X (.builtin id) r) (hs : SimC X.K r g) (hm : X.mg x = some (.builtin id)) (ha : DA X (e :: es) tr wr) (hg : Gl X x := by rfl) (hdb : (x == ("__debug__" : Str)) = false := by decide)
    (he : starEach (e :: es) X.env = (false, eval e X.env) :: starEach es X.env := by rfl) (hpl : (backTo pos (starEach es X.env)).any (·.1) = false := by rfl) : DE X (.Call (.Name x p) (e :: es) [] pos) (tCB r tr) (wCB g wr) := ⟨pe_callBfun hc hg hm ha.pe hdb he hpl, sim_CB ha.sm hs⟩
end
end L3
namespace L3
open PySem L2
def fIsB : F2 := fun d e M Q => match d, e with
  | .bl a, .bl b => Q (.bl (decide (a = b))) M
  | _, _ => False
theorem sim_isB {K : PySem.W.Frag} : SimR K rIsB fIsB := by
  intro Z x y d e H M Q Q' S r1 r2 f q
  unfold fIsB at f
  split at f
  · cases r1
    cases r2
    exact ⟨_, _, rfl, rfl, q _ _ H M (Go.refl S) (.bl _) f⟩
  · exact f.elim
end L3
namespace L3
open PySem L2
/-! ### what the draws need -/
theorem ix_l {K : PySem.W.Frag} {a : Addr} {xs : List V} {k : Int} {y : V} {H : Hp} {Q : VK} (h : H a = some (.lst xs)) (e : atI xs k = some y) (q : Q y H) : rIx K (.ref a) (.int k) H Q :=
  .inl ⟨a, xs, k, y, rfl, rfl, .inl (.inl h), e, q⟩
theorem ne_nil {K : PySem.W.Frag} {a p : Addr} {cs : List Int} {H : Hp} {Q : VK} (h : H a = some (.lst (cs.map V.int))) (hp : H p = some (.lst [])) (q : Q (.bl (decide (cs ≠ []))) H) : rNeD K (.ref a) (.ref p) H Q := by
  have r1 : Rep K H (.ref a) (.lst (cs.map .int)) := .lst (.inl (.inl h)) (.ofInts cs)
  have r2 : Rep K H (.ref p) (.lst []) := .lst (.inl (.inl hp)) .nil
  have f1 : fit 2 (.lst (cs.map .int)) := by
    simp [fit]
  have f2 : fit 2 (.lst []) := by
    simp [fit]
  refine ⟨_, _, Rep.dp 2 _ _ f1 r1, Rep.dp 2 _ _ f2 r2, fit_shaped f1 (by omega), fit_shaped f2 (by omega), ?_⟩
  cases cs with
  | nil => exact q
  | cons c cs => exact q
theorem eq_int {K : PySem.W.Frag} {i j : Int} {H : Hp} {Q : VK} (q : Q (.bl (decide (i = j))) H) : rEqD K (.int i) (.int j) H Q := by
  have f1 : ∀ i : Int, fit 1 (.int i) := fun i => by simp [fit]
  refine ⟨_, _, Rep.dp 1 _ _ (f1 i) (.int i), Rep.dp 1 _ _ (f1 j) (.int j), fit_shaped (f1 i) (by omega), fit_shaped (f1 j) (by omega), ?_⟩
  have e : PyData.eqv (D.py (.int i)) (D.py (.int j)) = decide (i = j) := by
    simp only [D.py, PyData.eqv]
    rfl
  rw [e]
  exact q
theorem at_last {cs : List Int} {c : Int} : atI ((cs ++ [c]).map V.int) (-1) = some (.int c) := by
  have e : ixN ((cs ++ [c]).map V.int).length (-1) = some cs.length := by
    unfold ixN
    simp
    omega
  unfold atI
  rw [e]
  simp
theorem pop_last {a : Addr} {cs : List Int} {c : Int} {H : Hp} {Q : VK} (h : H a = some (.lst ((cs ++ [c]).map V.int))) (q : Q (.int c) (upd H a (.lst (cs.map V.int)))) : rPop (.ref a) [] H Q := by
  refine ⟨a, _, .int c, rfl, rfl, h, by simp, ?_⟩
  rw [List.map_append]
  simpa using q
/-- what stands of the draws -/
structure Dr (H0 : Hp) (a a0 : Addr) (cs : List Int) (s : Int) (H : Hp) : Prop where
  keep : ∀ b o, b ≠ a → b ≠ a0 → H0 b = some o → H b = some o
  ha : H a = some (.lst [.ref a0, .int s])
  h0 : H a0 = some (.lst (cs.map V.int))
  lo : 0 ≤ s
  hi : s < 4294967296
  len : cs.length ≤ 100
  pos : ∀ c ∈ cs, 0 ≤ c
theorem Dr.new {H0 : Hp} {a a0 p : Addr} {cs : List Int} {s : Int} {H : Hp} {o : HO} (h : Dr H0 a a0 cs s H) (hp : H p = none) : Dr H0 a a0 cs s (upd H p o) :=
  ⟨fun b u h1 h2 e => by rw [upd_ne (ne_of_none (h.keep b u h1 h2 e) hp)]; exact h.keep b u h1 h2 e, by rw [upd_ne (ne_of_none h.ha hp)]; exact h.ha, by rw [upd_ne (ne_of_none h.h0 hp)]; exact h.h0, h.lo, h.hi, h.len, h.pos⟩
theorem Dr.ne {H0 : Hp} {a a0 : Addr} {cs : List Int} {s : Int} {H : Hp} (h : Dr H0 a a0 cs s H) : a ≠ a0 := fun e => by
  have z := h.ha
  rw [e, h.h0] at z
  have z2 := HO.lst.inj (Option.some.inj z)
  cases cs with
  | nil => cases z2
  | cons c cs => cases z2
theorem Dr.put {H0 : Hp} {a a0 : Addr} {cs cs' : List Int} {s : Int} {H : Hp} (h : Dr H0 a a0 cs s H) (l : cs'.length ≤ 100) (p : ∀ c ∈ cs', 0 ≤ c) : Dr H0 a a0 cs' s (upd H a0 (.lst (cs'.map V.int))) :=
  ⟨fun b u h1 h2 e => by rw [upd_ne h2]; exact h.keep b u h1 h2 e, by rw [upd_ne h.ne]; exact h.ha, upd_same, h.lo, h.hi, l, p⟩
theorem Dr.stir {H0 : Hp} {a a0 : Addr} {cs : List Int} {s s' : Int} {H : Hp} (h : Dr H0 a a0 cs s H) (l : 0 ≤ s') (u : s' < 4294967296) : Dr H0 a a0 cs s' (upd H a (.lst [.ref a0, .int s'])) :=
  ⟨fun b u h1 h2 e => by rw [upd_ne h1]; exact h.keep b u h1 h2 e, upd_same, by rw [upd_ne h.ne.symm]; exact h.h0, l, u, h.len, h.pos⟩
theorem Dr.ok {H0 : Hp} {a a0 : Addr} {cs : List Int} {s : Int} {H : Hp} (h : Dr H0 a a0 cs s H) : DrawOk H a a0 := ⟨cs, s, h.ha, h.h0, h.lo, h.hi, h.len, h.pos⟩
/-- [xs[::-1], s]: new draws -/
def wDrw (we : WE) (i : Nat) : WE := fun ρ M Q => we ρ M fun d M1 => ∃ (cs : List Int) (s : Int), d = .lst (cs.map .int) ∧ ρ[i]? = some (some (.int s)) ∧ cs.length ≤ 100 ∧ (∀ c ∈ cs, 0 ≤ c) ∧ 0 ≤ s ∧ s < 4294967296 ∧ ∀ p q, M1 p = none → M1 q = none → p ≠ q → Q (.tok q) (setM (setM M1 p .aux) q (.drw p))
section
variable {X : Cx} {e : Expr} {te : TE} {we : WE} {k : Nat} {p1 p2 p3 p4 p5 pos : Pos} {x : Str}
theorem sim_drw {K : PySem.W.Frag} (i : Nat) (he : SimE K te we) : SimE K (tLst (tCons (tRevL K te) (tCons (tVar i) tNil))) (wDrw we i) := by
  intro Z ρ M σ H Q Q' r h q
  refine he Z ρ M σ H _ _ r h fun x d H1 M1 g1 r1 q1 => ?_
  obtain ⟨cs, s, rfl, hi, hl, hpos, s0, s1, q2⟩ := q1
  cases r1 with
  | lst hs rl =>
    obtain rfl := rl.ints
    refine ⟨_, _, rfl, fz_sub.seq hs, fun p hp => ?_⟩
    obtain ⟨v, e1, rv⟩ := r.env.2 i _ hi
    cases rv
    refine ⟨.int s, e1, (by show 2 ≤ sizeLine; decide), fun o ho => ?_⟩
    have npo : p ≠ o := fun z => by
      subst z
      rw [upd_same] at ho
      cases ho
    have ho1 : H1 o = none := by
      rw [upd_ne npo.symm] at ho
      exact ho
    have m1p := g1.sat.free hp
    have m1o := g1.sat.free ho1
    have z1p := g1.sat.freeZ hp
    have z1o := g1.sat.freeZ ho1
    -- the two new lists
    have up : ∀ b u, H1 b = some u → upd (upd H1 p (.lst ((cs.map V.int).reverse))) o (.lst [.ref p, .int s]) b = some u := fun b u e => by
      rw [upd_ne (ne_of_none e ho1), upd_ne (ne_of_none e hp)]
      exact e
    have mo : ∀ b c, b ≠ p → b ≠ o → M1 b = c → setM (setM M1 p .aux) o (.drw p) b = c := fun b c h1 h2 e => by
      rw [setM_ne h2, setM_ne h1]
      exact e
    have mp : setM (setM M1 p .aux) o (.drw p) p = some .aux := by
      rw [setM_ne npo, setM_same]
    have ex : Same (fz Z H1 M1) (fz Z (upd (upd H1 p (.lst ((cs.map V.int).reverse))) o (.lst [.ref p, .int s])) (setM (setM M1 p .aux) o (.drw p))) := fun b u e => by
      obtain ⟨e1, e2, e3⟩ := fz_is e
      exact fz_to (mo b _ (ne_of_none e3 hp) (ne_of_none e3 ho1) e1) e2 (up b u e3)
    have aux : ∀ b, M1 b = some .aux → setM (setM M1 p .aux) o (.drw p) b = some .aux ∧ ∀ u, H1 b = some u → upd (upd H1 p (.lst ((cs.map V.int).reverse))) o (.lst [.ref p, .int s]) b = some u := fun b e => by
      refine ⟨mo b _ (fun z => ?_) (fun z => ?_) e, up b⟩
      · rw [z, m1p] at e
        cases e
      · rw [z, m1o] at e
        cases e
    have er : (cs.map V.int).reverse = cs.reverse.map V.int := by rw [List.map_reverse]
    have sat : Sat K Z (upd (upd H1 p (.lst ((cs.map V.int).reverse))) o (.lst [.ref p, .int s])) (setM (setM M1 p .aux) o (.drw p)) := by
      refine ⟨fun b c hb => ?_, fun b u hb => ?_⟩
      · by_cases h1 : b = o
        · subst h1
          rw [setM_same] at hb
          cases hb
          exact ⟨mp, cs.reverse, s, upd_same, by rw [upd_ne npo, upd_same, er], s0, s1, by rw [List.length_reverse]; exact hl, fun c hc => hpos c (List.mem_reverse.mp hc)⟩
        · by_cases h2 : b = p
          · subst h2
            rw [mp] at hb
            cases hb
            exact ⟨_, by rw [upd_ne npo, upd_same]⟩
          · rw [setM_ne h1, setM_ne h2] at hb
            exact (g1.sat.cell b c hb).same ex (up b) aux
      · obtain ⟨e1, e2⟩ := g1.sat.zed b u hb
        exact ⟨up b u e1, mo b _ (ne_of_none e1 hp) (ne_of_none e1 ho1) e2⟩
    exact q _ _ _ _ ⟨sat, g1.ex.trans ex⟩ (.tok o) (q2 p o m1p m1o npo)
theorem de_drw (i : Nat) (he : DE X e te we) (hN : X.N[i]? = some x := by rfl) (hv : Vis X.env.scope x := by first | exact Or.inl rfl | exact Or.inr (Or.inl rfl) | exact Or.inr (Or.inr rfl)) (hd : (x == ("__debug__" : Str)) = false := by decide)
    (hcd : (x == ("__classdict__" : Str)) = false := by decide) (h1 : starEach [(.Subscript e (.Slice none none (some (.UnaryOp .USub (.Constant (.int 1) k p1) p2)) p3) p4), (.Name x p5)] X.env = (false, eval (.Subscript e (.Slice none none (some (.UnaryOp .USub (.Constant (.int 1) k p1) p2)) p3) p4) X.env) :: starEach [(.Name x p5)] X.env := by rfl)
    (h2 : starEach [(.Name x p5)] X.env = (false, eval (.Name x p5) X.env) :: starEach [] X.env := by rfl) :
    DE X (.List [(.Subscript e (.Slice none none (some (.UnaryOp .USub (.Constant (.int 1) k p1) p2)) p3) p4), (.Name x p5)] pos) (tLst (tCons (tRevL X.K te) (tCons (tVar i) tNil))) (wDrw we i) :=
  ⟨pe_lst (pa_cons (pe_revL he.pe) (pa_cons (pe_var hN hv hd hcd) pa_nil h2) h1), sim_drw i he.sm⟩
end
/-! ### equality: plain values first -/
def rEqV (K : PySem.W.Frag) : R2 := fun x y H Q => rEq x y H Q ∨ rEqD K x y H Q
def rNeV (K : PySem.W.Frag) : R2 := fun x y H Q => rNe x y H Q ∨ rNeD K x y H Q
theorem op_eqV {X : Cx} {k : Nat} (hr : Room k X.A) : OpR X (compareOp .Eq) (rEqV X.K) := op_eq.or (op_eqG hr)
theorem op_neV {X : Cx} {k : Nat} (hr : Room k X.A) : OpR X (compareOp .NotEq) (rNeV X.K) := op_ne.or (op_neG hr)
def eqS : D → D → Option Bool
  | .int i, .int j => some (decide (i = j))
  | .str i, .str j => some (decide (i = j))
  | .bl i, .bl j => some (decide (i = j))
  | _, _ => none
def eqV (neg : Bool) : F2 := fun d e M Q => match eqS d e with
  | some b => Q (.bl (if neg then !b else b)) M
  | none => eqD2 neg d e M Q
theorem eqS_rep {K : PySem.W.Frag} {H : Hp} {x y : V} {d e : D} {b : Bool} (r1 : Rep K H x d) (r2 : Rep K H y e) (h : eqS d e = some b) : scal x y = true ∧ decide (x = y) = b := by
  unfold eqS at h
  split at h
  · cases r1
    cases r2
    refine ⟨rfl, ?_⟩
    rw [← Option.some.inj h]
    exact decide_eq_decide.mpr ⟨fun z => by cases z; rfl, fun z => by rw [z]⟩
  · cases r1
    cases r2
    refine ⟨rfl, ?_⟩
    rw [← Option.some.inj h]
    exact decide_eq_decide.mpr ⟨fun z => by cases z; rfl, fun z => by rw [z]⟩
  · cases r1
    cases r2
    refine ⟨rfl, ?_⟩
    rw [← Option.some.inj h]
    exact decide_eq_decide.mpr ⟨fun z => by cases z; rfl, fun z => by rw [z]⟩
  · cases h
theorem sim_eqV {K : PySem.W.Frag} : SimR K (rEqV K) (eqV false) := by
  intro Z x y d e H M Q Q' S r1 r2 f q
  unfold eqV at f
  split at f
  · rename_i b h
    obtain ⟨h1, h2⟩ := eqS_rep r1 r2 h
    refine .inl ⟨h1, ?_⟩
    rw [h2]
    exact q _ _ H M (Go.refl S) (.bl _) f
  · exact .inr (sim_eq Z x y d e H M Q Q' S r1 r2 f q)
theorem sim_neV {K : PySem.W.Frag} : SimR K (rNeV K) (eqV true) := by
  intro Z x y d e H M Q Q' S r1 r2 f q
  unfold eqV at f
  split at f
  · rename_i b h
    obtain ⟨h1, h2⟩ := eqS_rep r1 r2 h
    refine .inl ⟨h1, ?_⟩
    rw [h2]
    exact q _ _ H M (Go.refl S) (.bl _) f
  · exact .inr (sim_ne Z x y d e H M Q Q' S r1 r2 f q)
end L3
namespace L3
open PySem L2
theorem max_stepK {prog : Program} {w : World} {A : Around} {R : Result → Shared → Prop} {I : Addr} {fp wr : List Addr} {n : Nat} {P : Nat → Value → Prop} {St : Nat → Heap → Prop} {kw : List (Str × Value)}
    (W : Walks prog w A.in1 I fp wr n P St) (bt : Nat → Nat → Bool) (C : CmpOf prog w A.in1 .Gt P bt) (S : Addr) (hS : S ∉ fp) :
    ∀ (k j : Nat) (s : Shared) (vb : Value) (c : Nat), n - (j + 1) = k → j + 1 ≤ n → St (j + 1) s.heap → P (argBest bt j) vb → s.heap.get? S = some { cls := .type "list", data := .seq #[vb, vb] c } →
      (∀ (v : Value) (h' : Heap) (tk : Nat), P (argBest bt (n - 1)) v → (∀ (b : Addr) (o : Obj), b ∉ wr → b ≠ S → s.heap.get? b = some o → h'.get? b = some o) → R (.ok (.ret v)) { heap := h', gens := s.gens, drawn := s.drawn, toks := tk, os := s.os }) →
      codeAny (model prog w) A (.builtin "max.loop" { pos := [.ref I, .none, .ref S], kw := kw }) R s := by
  have hSw : S ∉ wr := fun z => hS (W.sub S z)
  intro k
  induction k with
  | zero =>
    intro j s vb c hk hj hSt hP hget q
    obtain rfl : n = j + 1 := by omega
    refine codeAny_builtin PySem.F.entry_max_loop ?_
    refine wpAny_bind (wpAny_seqItems hget rfl ?_)
    refine wpAny_bind ?_
    refine wpAny_tryCatch (W.done s _ _ hSt fun h' tk keep => ?_)
    refine wpAny_bind (wpAny_updateSeq (keep S _ hSw hget) rfl ?_)
    refine wpAny_bind (wpAny_letGo ?_)
    refine wpAny_pure ?_
    exact q vb _ tk hP fun b o hb hbs e => by
      show (Heap.update h' S _).get? b = some o
      rw [Heap.get?_update_ne _ _ _ _ hbs]
      exact keep b o hb e
  | succ k ih =>
    intro j s vb c hk hj hSt hP hget q
    refine codeAny_builtin PySem.F.entry_max_loop ?_
    refine wpAny_bind (wpAny_seqItems hget rfl ?_)
    refine wpAny_bind ?_
    refine wpAny_tryCatch (W.item (j + 1) s _ _ (by omega) hSt fun v h' tk hv hSt' keep => ?_)
    refine wpAny_bind (wpAny_pure ?_)
    refine wpAny_bind ?_
    refine wpAny_tryCatch (wpAny_holding (wpAny_bind (C (j + 1) (argBest bt j) v vb _ _ _ hv hP ?_)))
    refine wpAny_bind (wpAny_holding (wpAny_truthy_bool ?_))
    refine wpAny_bind (wpAny_letGo ?_)
    refine wpAny_pure ?_
    have eb : argBest bt (j + 1) = if bt (j + 1) (argBest bt j) then j + 1 else argBest bt j := rfl
    cases hb : bt (j + 1) (argBest bt j) with
    | true =>
      rw [hb, if_pos rfl] at eb
      refine wpAny_bind (wpAny_updateSeq (keep S _ hSw hget) rfl ?_)
      refine wpAny_bind (wpAny_letGo ?_)
      refine wpAny_pure ⟨rfl, ?_⟩
      refine ih (j + 1) _ v _ (by omega) (by omega) (W.frame _ _ _ hSt' fun b hbf o e => ?_) (by rw [eb]; exact hv) (Heap.get?_update_self _ (keep S _ hSw hget) rfl) fun v2 h2 tk2 hp2 keep2 => ?_
      · rw [Heap.get?_update_ne _ _ _ _ (fun z : b = S => hS (by rw [← z]; exact hbf))]
        exact e
      · exact q v2 h2 tk2 hp2 fun b o hbw hbs e => keep2 b o hbw hbs (by
          show (Heap.update h' S _).get? b = some o
          rw [Heap.get?_update_ne _ _ _ _ hbs]
          exact keep b o hbw e)
    | false =>
      rw [hb, if_neg Bool.false_ne_true] at eb
      refine wpAny_bind (wpAny_letGo ?_)
      refine wpAny_pure ⟨rfl, ?_⟩
      exact ih (j + 1) _ vb _ (by omega) (by omega) hSt' (by rw [eb]; exact hP) (keep S _ hSw hget) fun v2 h2 tk2 hp2 keep2 => q v2 h2 tk2 hp2 fun b o hbw hbs e => keep2 b o hbw hbs (keep b o hbw e)
/-- the first turn: something is there -/
theorem max_firstK {prog : Program} {w : World} {A : Around} {R : Result → Shared → Prop} {I : Addr} {fp wr : List Addr} {n : Nat} {P : Nat → Value → Prop} {St : Nat → Heap → Prop} {kw : List (Str × Value)}
    (W : Walks prog w A.in1 I fp wr n P St) (bt : Nat → Nat → Bool) (C : CmpOf prog w A.in1 .Gt P bt) (S : Addr) (hS : S ∉ fp) (hn : 0 < n) {s : Shared} {c : Nat} (hSt : St 0 s.heap)
    (hget : s.heap.get? S = some { cls := .type "list", data := .seq #[] c })
    (q : ∀ (v : Value) (h' : Heap) (tk : Nat), P (argBest bt (n - 1)) v → (∀ (b : Addr) (o : Obj), b ∉ wr → b ≠ S → s.heap.get? b = some o → h'.get? b = some o) → R (.ok (.ret v)) { heap := h', gens := s.gens, drawn := s.drawn, toks := tk, os := s.os }) :
    codeAny (model prog w) A (.builtin "max.loop" { pos := [.ref I, .none, .ref S], kw := kw }) R s := by
  have hSw : S ∉ wr := fun z => hS (W.sub S z)
  refine codeAny_builtin PySem.F.entry_max_loop ?_
  refine wpAny_bind (wpAny_seqItems hget rfl ?_)
  refine wpAny_bind ?_
  refine wpAny_tryCatch (W.item 0 s _ _ hn hSt fun v h' tk hv hSt' keep => ?_)
  refine wpAny_bind (wpAny_pure ?_)
  refine wpAny_bind (wpAny_updateSeq (keep S _ hSw hget) rfl ?_)
  refine wpAny_pure ⟨rfl, ?_⟩
  refine max_stepK W bt C S hS _ 0 _ v _ rfl hn (W.frame _ _ _ hSt' fun b hbf o e => ?_) hv (Heap.get?_update_self _ (keep S _ hSw hget) rfl) fun v2 h2 tk2 hp2 keep2 => ?_
  · rw [Heap.get?_update_ne _ _ _ _ (fun z : b = S => hS (by rw [← z]; exact hbf))]
    exact e
  · exact q v2 h2 tk2 hp2 fun b o hbw hbs e => keep2 b o hbw hbs (by
      show (Heap.update h' S _).get? b = some o
      rw [Heap.get?_update_ne _ _ _ _ hbs]
      exact keep b o hbw e)
/-- nothing is there: the default -/
theorem max_noneK {prog : Program} {w : World} {A : Around} {R : Result → Shared → Prop} {I : Addr} {fp wr : List Addr} {P : Nat → Value → Prop} {St : Nat → Heap → Prop} {x : Str} {d : Value} {kw : List (Str × Value)}
    (W : Walks prog w A.in1 I fp wr 0 P St) (S : Addr) {s : Shared} {c : Nat} (hSt : St 0 s.heap) (hget : s.heap.get? S = some { cls := .type "list", data := .seq #[] c })
    (q : ∀ (h' : Heap) (tk : Nat), (∀ (b : Addr) (o : Obj), b ∉ wr → s.heap.get? b = some o → h'.get? b = some o) → R (.ok (.ret d)) { heap := h', gens := s.gens, drawn := s.drawn, toks := tk, os := s.os }) :
    codeAny (model prog w) A (.builtin "max.loop" { pos := [.ref I, .none, .ref S], kw := (x, d) :: kw }) R s := by
  refine codeAny_builtin PySem.F.entry_max_loop ?_
  refine wpAny_bind (wpAny_seqItems hget rfl ?_)
  refine wpAny_bind ?_
  refine wpAny_tryCatch (W.done s _ _ hSt fun h' tk keep => ?_)
  refine wpAny_bind (wpAny_rule ?_)
  exact wpAny_pure (q h' tk keep)
theorem best_le (bt : Nat → Nat → Bool) : ∀ m, argBest bt m ≤ m
  | 0 => Nat.le_refl 0
  | m + 1 => by
    have ih := best_le bt m
    have e : argBest bt (m + 1) = if bt (m + 1) (argBest bt m) then m + 1 else argBest bt m := rfl
    rw [e]
    split <;> omega
theorem best_gt (f : Nat → Int) : ∀ m i, i ≤ m → f i ≤ f (argBest (fun i j => decide (f i > f j)) m)
  | 0, i, h => by
    obtain rfl : i = 0 := by omega
    exact Int.le_refl _
  | m + 1, i, h => by
    have e : argBest (fun i j => decide (f i > f j)) (m + 1) = if decide (f (m + 1) > f (argBest (fun i j => decide (f i > f j)) m)) = true then m + 1 else argBest (fun i j => decide (f i > f j)) m := rfl
    rw [e]
    rcases Nat.lt_or_ge i (m + 1) with z | z
    · have ih := best_gt f m i (by omega)
      split
      · rename_i h2
        have := of_decide_eq_true h2
        omega
      · exact ih
    · obtain rfl : i = m + 1 := by omega
      split
      · exact Int.le_refl _
      · rename_i h2
        have h3 : ¬ (f (m + 1) > f (argBest (fun i j => decide (f i > f j)) m)) := fun z => h2 (decide_eq_true z)
        omega
theorem aok_max (a d : Value) : argsOk "max" { pos := [a], kw := [("default", d)] } := by
  unfold argsOk
  rfl
theorem bind_max (d : Value) : Builtin.Builtins.bindParams "max" ["key", "default"] 0 { kw := [("default", d)] } = pure [none, some d] := by
  rfl
/-- max(xs, default=d) of a list of ints -/
def rMaxDf (K : PySem.W.Frag) : List V → List V → Hp → VK → Prop := fun xs zs H Q => ∃ (a : Addr) (ns : List Int) (d : V), xs = [.ref a] ∧ zs = [d] ∧ SqL K H a (ns.map V.int) ∧ (ns = [] → Q d H) ∧ ∀ m, m ∈ ns → (∀ y ∈ ns, y ≤ m) → Q (.int m) H
theorem cr_maxDf {X : Cx} (hc : X.calm = true) : CallRK X (.builtin "max") ["default"] (rMaxDf X.K) := by
  intro pins s σ H xs zs us ws Q I r1 r2 h
  obtain ⟨a, ns, d, rfl, rfl, hS, q0, q1⟩ := h
  cases r1 with
  | cons ra r1 =>
  cases r1
  cases r2 with
  | cons rd r2 =>
  cases r2
  rename_i ua ud
  cases ra
  obtain ⟨its, rv, pl, hz⟩ := I.list hS
  have hd : X.A.handled = none := I.ok.hd hc
  have il := pl.isList
  refine PyProof.Rows.kmb_tree PySem.F.kind_max PySem.F.plain_max PySem.F.entry_max (aok_max _ _) ?_
  refine wpAny_bind ?_
  rw [show Builtin.Builtins.bindParams "max" ["key", "default"] 0 { kw := ({ pos := [Value.ref a], kw := [Str.ofString "default"].zip [ud] } : Args).kw } = pure [none, some ud] from rfl]
  refine wpAny_pure ?_
  refine wpAny_bind (wpAny_pure ?_)
  refine wpAny_bind (wpAny_pyIter_list il ?_)
  refine wpAny_bind (wpAny_newList ?_)
  refine wpAny_pure ⟨rfl, ?_⟩
  have fr : ∀ b o, s.heap.get? b = some o → b ≠ s.heap.objs.size := fun b o e z => by
    subst z
    simp [Heap.get?] at e
  obtain ⟨o, eo, co, no, dd⟩ := il
  have il : s.heap.IsList a its.toArray := ⟨o, eo, co, no, dd⟩
  have fr1 : ∀ (h : Heap) b o, h.get? b = some o → b ≠ h.objs.size := fun h b o e z => by
    subst z
    simp [Heap.get?] at e
  have sI : a ≠ s.heap.objs.size := fr a o eo
  have g1 : ∀ b u, s.heap.get? b = some u → (s.heap.push { cls := .type "list_iterator", data := .fields #[.ref a, .int 0 0] }).get? b = some u := fun b u e => Heap.get?_push_of_some _ e
  have eI1 : (s.heap.push { cls := .type "list_iterator", data := .fields #[.ref a, .int 0 0] }).get? s.heap.objs.size = some { cls := .type "list_iterator", data := .fields #[.ref a, .int 0 0] } := Heap.get?_push_size _ rfl
  obtain ⟨h1, eh1⟩ : ∃ h1, h1 = s.heap.push { cls := .type "list_iterator", data := .fields #[.ref a, .int 0 0] } := ⟨_, rfl⟩
  rw [← eh1] at g1 eI1
  have g2 : ∀ b u, s.heap.get? b = some u → (h1.push { cls := .type "list", data := .seq #[] }).get? b = some u := fun b u e => Heap.get?_push_of_some _ (g1 b u e)
  have eI : (h1.push { cls := .type "list", data := .seq #[] }).get? s.heap.objs.size = some { cls := .type "list_iterator", data := .fields #[.ref a, .int 0 0] } := Heap.get?_push_of_some _ eI1
  have eS : (h1.push { cls := .type "list", data := .seq #[] }).get? h1.objs.size = some { cls := .type "list", data := .seq #[] } := Heap.get?_push_size _ rfl
  have nSI : h1.objs.size ≠ s.heap.objs.size := fun z => fr1 h1 _ _ eI1 z.symm
  have nSa : h1.objs.size ≠ a := fun z => fr1 h1 _ _ (g1 a o eo) z.symm
  have nin : h1.objs.size ∉ [s.heap.objs.size, a] := fun z => by
    rcases List.mem_cons.mp z with z | z
    · exact nSI z
    · exact nSa (List.mem_singleton.mp z)
  have W := Walks.list (prog := X.prog) (w := X.w) (A := X.A.in1) hd s.heap.objs.size a sI its.toArray
  have st0 : (h1.push { cls := .type "list", data := .seq #[] }).IsListIter s.heap.objs.size a 0 ∧ (h1.push { cls := .type "list", data := .seq #[] }).IsList a its.toArray := ⟨⟨_, eI, rfl, rfl⟩, ⟨o, g2 a o eo, co, no, dd⟩⟩
  have hl := rv.length
  rw [List.length_map] at hl
  show codeAny (model X.prog X.w) X.A (.builtin "max.loop" { pos := [.ref s.heap.objs.size, .none, .ref (s.heap.push { cls := .type "list_iterator", data := .fields #[.ref a, .int 0 0] }).objs.size], kw := [("default", ud)] }) _
    { heap := (s.heap.push { cls := .type "list_iterator", data := .fields #[.ref a, .int 0 0] }).push { cls := .type "list", data := .seq #[] }, gens := s.gens, drawn := s.drawn, toks := s.toks, os := s.os }
  rw [← eh1]
  by_cases hn : its = []
  · subst hn
    have hns : ns = [] := List.length_eq_zero_iff.mp hl
    refine max_noneK W _ st0 eS fun h' tk keep => ⟨d, H, I.kept fun b u e => ?_, rd, q0 hns⟩
    exact keep b u (fun z => fr b u e (List.mem_singleton.mp z)) (g2 b u e)
  · have hpos : 0 < its.toArray.size := by
      rw [List.size_toArray]
      exact List.length_pos_iff.mpr hn
    have val : ∀ i v, its.toArray[i]? = some v → ∃ m t, ns[i]? = some m ∧ v = Value.int m t := fun i v e => by
      rw [List.getElem?_toArray] at e
      have li := (List.getElem?_eq_some_iff.mp e).1
      have li2 : i < ns.length := by omega
      have e1 : (ns.map V.int)[i]? = some (V.int ns[i]) := by rw [List.getElem?_map, List.getElem?_eq_getElem li2]; rfl
      obtain ⟨u, e2, ru⟩ := rv.get e1
      obtain ⟨t, et⟩ := ru
      rw [e] at e2
      exact ⟨ns[i], t, List.getElem?_eq_getElem li2, (Option.some.inj e2).trans et⟩
    have C := CmpOf.ints_gt (prog := X.prog) (w := X.w) (A := X.A.in1) (P := fun i v => its.toArray[i]? = some v) (fun i => ns.getD i 0) fun i v e => by
      obtain ⟨m, t, e1, e2⟩ := val i v e
      refine ⟨t, ?_⟩
      rw [e2, List.getD_eq_getElem?_getD, e1]
      rfl
    refine max_firstK W _ C _ nin hpos st0 eS fun v h' tk hp keep => ?_
    obtain ⟨m, t, e1, e2⟩ := val _ v hp
    subst e2
    refine ⟨.int m, H, I.kept fun b u e => ?_, ⟨t, rfl⟩, q1 m (List.mem_of_getElem? e1) fun y hy => ?_⟩
    · exact keep b u (fun z => fr b u e (List.mem_singleton.mp z)) (fun z => fr1 h1 b u (g1 b u e) z) (g2 b u e)
    · obtain ⟨i, hi, ei⟩ := List.getElem_of_mem hy
      have b1 := best_gt (fun i => ns.getD i 0) (its.toArray.size - 1) i (by rw [List.size_toArray, ← hl]; omega)
      have b2 : ns.getD i 0 = y := by
        rw [List.getD_eq_getElem?_getD, List.getElem?_eq_getElem hi, ei]
        rfl
      have b3 : ns.getD (argBest (fun i j => decide (ns.getD i 0 > ns.getD j 0)) (its.toArray.size - 1)) 0 = m := by
        rw [List.getD_eq_getElem?_getD, e1]
        rfl
      rw [← b2, ← b3]
      exact b1
end L3
namespace L3
open PySem L2
/-- max(xs, default=d) of a tuple of ints -/
def rMaxDfT (K : PySem.W.Frag) : List V → List V → Hp → VK → Prop := fun xs zs H Q => ∃ (a : Addr) (ns : List Int) (d : V), xs = [.ref a] ∧ zs = [d] ∧ SqT K H a (ns.map V.int) ∧ (ns = [] → Q d H) ∧ ∀ m, m ∈ ns → (∀ y ∈ ns, y ≤ m) → Q (.int m) H
theorem cr_maxDfT {X : Cx} (hc : X.calm = true) : CallRK X (.builtin "max") ["default"] (rMaxDfT X.K) := by
  intro pins s σ H xs zs us ws Q I r1 r2 h
  obtain ⟨a, ns, d, rfl, rfl, hS, q0, q1⟩ := h
  cases r1 with
  | cons ra r1 =>
  cases r1
  cases r2 with
  | cons rd r2 =>
  cases r2
  rename_i ua ud
  cases ra
  obtain ⟨its, rv, pl, hz⟩ := I.tuple hS
  have hd : X.A.handled = none := I.ok.hd hc
  have il : s.heap.IsTuple a its.toArray := pl
  refine PyProof.Rows.kmb_tree PySem.F.kind_max PySem.F.plain_max PySem.F.entry_max (aok_max _ _) ?_
  refine wpAny_bind ?_
  rw [show Builtin.Builtins.bindParams "max" ["key", "default"] 0 { kw := ({ pos := [Value.ref a], kw := [Str.ofString "default"].zip [ud] } : Args).kw } = pure [none, some ud] from rfl]
  refine wpAny_pure ?_
  refine wpAny_bind (wpAny_pure ?_)
  refine wpAny_bind (wpAny_pyIter_tuple il ?_)
  refine wpAny_bind (wpAny_newList ?_)
  refine wpAny_pure ⟨rfl, ?_⟩
  have fr : ∀ b o, s.heap.get? b = some o → b ≠ s.heap.objs.size := fun b o e z => by
    subst z
    simp [Heap.get?] at e
  obtain ⟨o, eo, co, no, dd⟩ := il
  have il : s.heap.IsTuple a its.toArray := ⟨o, eo, co, no, dd⟩
  have fr1 : ∀ (h : Heap) b o, h.get? b = some o → b ≠ h.objs.size := fun h b o e z => by
    subst z
    simp [Heap.get?] at e
  have sI : a ≠ s.heap.objs.size := fr a o eo
  have g1 : ∀ b u, s.heap.get? b = some u → (s.heap.push { cls := .type "tuple_iterator", data := .fields #[.ref a, .int 0 0] }).get? b = some u := fun b u e => Heap.get?_push_of_some _ e
  have eI1 : (s.heap.push { cls := .type "tuple_iterator", data := .fields #[.ref a, .int 0 0] }).get? s.heap.objs.size = some { cls := .type "tuple_iterator", data := .fields #[.ref a, .int 0 0] } := Heap.get?_push_size _ rfl
  obtain ⟨h1, eh1⟩ : ∃ h1, h1 = s.heap.push { cls := .type "tuple_iterator", data := .fields #[.ref a, .int 0 0] } := ⟨_, rfl⟩
  rw [← eh1] at g1 eI1
  have g2 : ∀ b u, s.heap.get? b = some u → (h1.push { cls := .type "list", data := .seq #[] }).get? b = some u := fun b u e => Heap.get?_push_of_some _ (g1 b u e)
  have eI : (h1.push { cls := .type "list", data := .seq #[] }).get? s.heap.objs.size = some { cls := .type "tuple_iterator", data := .fields #[.ref a, .int 0 0] } := Heap.get?_push_of_some _ eI1
  have eS : (h1.push { cls := .type "list", data := .seq #[] }).get? h1.objs.size = some { cls := .type "list", data := .seq #[] } := Heap.get?_push_size _ rfl
  have nSI : h1.objs.size ≠ s.heap.objs.size := fun z => fr1 h1 _ _ eI1 z.symm
  have nSa : h1.objs.size ≠ a := fun z => fr1 h1 _ _ (g1 a o eo) z.symm
  have nin : h1.objs.size ∉ [s.heap.objs.size, a] := fun z => by
    rcases List.mem_cons.mp z with z | z
    · exact nSI z
    · exact nSa (List.mem_singleton.mp z)
  have W := Walks.tuple (prog := X.prog) (w := X.w) (A := X.A.in1) hd s.heap.objs.size a sI its.toArray
  have st0 : (h1.push { cls := .type "list", data := .seq #[] }).IsTupleIter s.heap.objs.size a 0 ∧ (h1.push { cls := .type "list", data := .seq #[] }).IsTuple a its.toArray := ⟨⟨_, eI, rfl, rfl⟩, ⟨o, g2 a o eo, co, no, dd⟩⟩
  have hl := rv.length
  rw [List.length_map] at hl
  show codeAny (model X.prog X.w) X.A (.builtin "max.loop" { pos := [.ref s.heap.objs.size, .none, .ref (s.heap.push { cls := .type "tuple_iterator", data := .fields #[.ref a, .int 0 0] }).objs.size], kw := [("default", ud)] }) _
    { heap := (s.heap.push { cls := .type "tuple_iterator", data := .fields #[.ref a, .int 0 0] }).push { cls := .type "list", data := .seq #[] }, gens := s.gens, drawn := s.drawn, toks := s.toks, os := s.os }
  rw [← eh1]
  by_cases hn : its = []
  · subst hn
    have hns : ns = [] := List.length_eq_zero_iff.mp hl
    refine max_noneK W _ st0 eS fun h' tk keep => ⟨d, H, I.kept fun b u e => ?_, rd, q0 hns⟩
    exact keep b u (fun z => fr b u e (List.mem_singleton.mp z)) (g2 b u e)
  · have hpos : 0 < its.toArray.size := by
      rw [List.size_toArray]
      exact List.length_pos_iff.mpr hn
    have val : ∀ i v, its.toArray[i]? = some v → ∃ m t, ns[i]? = some m ∧ v = Value.int m t := fun i v e => by
      rw [List.getElem?_toArray] at e
      have li := (List.getElem?_eq_some_iff.mp e).1
      have li2 : i < ns.length := by omega
      have e1 : (ns.map V.int)[i]? = some (V.int ns[i]) := by rw [List.getElem?_map, List.getElem?_eq_getElem li2]; rfl
      obtain ⟨u, e2, ru⟩ := rv.get e1
      obtain ⟨t, et⟩ := ru
      rw [e] at e2
      exact ⟨ns[i], t, List.getElem?_eq_getElem li2, (Option.some.inj e2).trans et⟩
    have C := CmpOf.ints_gt (prog := X.prog) (w := X.w) (A := X.A.in1) (P := fun i v => its.toArray[i]? = some v) (fun i => ns.getD i 0) fun i v e => by
      obtain ⟨m, t, e1, e2⟩ := val i v e
      refine ⟨t, ?_⟩
      rw [e2, List.getD_eq_getElem?_getD, e1]
      rfl
    refine max_firstK W _ C _ nin hpos st0 eS fun v h' tk hp keep => ?_
    obtain ⟨m, t, e1, e2⟩ := val _ v hp
    subst e2
    refine ⟨.int m, H, I.kept fun b u e => ?_, ⟨t, rfl⟩, q1 m (List.mem_of_getElem? e1) fun y hy => ?_⟩
    · exact keep b u (fun z => fr b u e (List.mem_singleton.mp z)) (fun z => fr1 h1 b u (g1 b u e) z) (g2 b u e)
    · obtain ⟨i, hi, ei⟩ := List.getElem_of_mem hy
      have b1 := best_gt (fun i => ns.getD i 0) (its.toArray.size - 1) i (by rw [List.size_toArray, ← hl]; omega)
      have b2 : ns.getD i 0 = y := by
        rw [List.getD_eq_getElem?_getD, List.getElem?_eq_getElem hi, ei]
        rfl
      have b3 : ns.getD (argBest (fun i j => decide (ns.getD i 0 > ns.getD j 0)) (its.toArray.size - 1)) 0 = m := by
        rw [List.getD_eq_getElem?_getD, e1]
        rfl
      rw [← b2, ← b3]
      exact b1
/-- .. of either -/
def rMaxDfA (K : PySem.W.Frag) : List V → List V → Hp → VK → Prop := fun xs zs H Q => rMaxDf K xs zs H Q ∨ rMaxDfT K xs zs H Q
theorem cr_maxDfA {X : Cx} (hc : X.calm = true) : CallRK X (.builtin "max") ["default"] (rMaxDfA X.K) := fun pins s σ H xs zs us ws Q I r1 r2 h => h.elim (cr_maxDf hc pins s σ H xs zs us ws Q I r1 r2) (cr_maxDfT hc pins s σ H xs zs us ws Q I r1 r2)
def fMaxDf (ds es : List D) (M : Mp) (Q : KD) : Prop := match ds, es with
  | [d], [e] => ∃ ns : List Int, seqD M d = some (ns.map .int) ∧ (ns = [] → Q e M) ∧ ∀ m, m ∈ ns → (∀ y ∈ ns, y ≤ m) → Q (.int m) M
  | _, _ => False
def wKw (f : List D → List D → Mp → KD → Prop) (r rk : WA) : WE := fun ρ M Q => r ρ M fun ds M1 => rk ρ M1 fun es M2 => f ds es M2 Q
section
variable {X : Cx} {e : Expr} {es : List Expr} {kws : List Keyword} {pos p : Pos} {tr tk : TA} {wr wk : WA}
theorem sim_maxDf {K : PySem.W.Frag} (ha : SimA K tr wr) (hk : SimA K tk wk) : SimE K (tCKw (rMaxDfA K) tr tk) (wKw fMaxDf wr wk) := by
  intro Z ρ M σ H Q Q' s h q
  refine ha Z ρ M σ H _ _ s h fun xs ds H1 M1 g1 r1 q1 => ?_
  refine hk Z ρ M1 σ H1 _ _ (s.go g1) q1 fun ys es H2 M2 g2 r2 q2 => ?_
  unfold fMaxDf at q2
  split at q2
  · cases r1 with
    | cons ra r1 =>
    cases r1
    cases r2 with
    | cons rd r2 =>
    cases r2
    obtain ⟨ns, hs, q0, q3⟩ := q2
    obtain ⟨a, vs, rfl, hv, rl⟩ := seq_of g2.sat (ra.up g2.ex) hs
    obtain rfl := rl.ints
    have g := g1.trans g2
    rcases hv with hv | hv
    · exact .inl ⟨a, ns, _, rfl, rfl, hv, fun e => q _ _ H2 M2 g rd (q0 e), fun m h1 h2 => q _ _ H2 M2 g (.int m) (q3 m h1 h2)⟩
    · exact .inr ⟨a, ns, _, rfl, rfl, hv, fun e => q _ _ H2 M2 g rd (q0 e), fun m h1 h2 => q _ _ H2 M2 g (.int m) (q3 m h1 h2)⟩
  · exact q2.elim
theorem de_maxDf (hc : X.calm = true) (hm : X.mg "max" = none) (ha : DA X (e :: es) tr wr) (hk : DK X kws tk wk) (hg : Gl X "max" := by rfl)
    (h1 : backTo pos (starEach (e :: es) X.env) = (false, eval e X.env) :: backTo pos (starEach es X.env) := by rfl) (h2 : (backTo pos (starEach (e :: es) X.env)).any (·.1) = false := by rfl)
    (h3 : (backToKw pos (keywordEach kws X.env)).all (·.1.isSome) = true := by rfl) (h4 : (backToKw pos (keywordEach kws X.env)).any (·.1.isNone) = false := by rfl) (h5 : (backToKw pos (keywordEach kws X.env)).filterMap (·.1) = [("default" : Str)] := by rfl) :
    DE X (.Call (.Name "max" p) (e :: es) kws pos) (tCKw (rMaxDfA X.K) tr tk) (wKw fMaxDf wr wk) :=
  ⟨pe_callBK (cr_maxDfA hc) hg hm (show bootBuiltins "max" = some (.builtin "max") from rfl) ha.pe hk.pe (by decide) (by decide) h1 h2 h3 h4 h5, sim_maxDf ha.sm hk.sm⟩
end
end L3
namespace L3
open PySem L2
theorem pre_sum (ns : List Int) : ∀ m, m ≤ ns.length → preSum (fun i => ns.getD i 0) m = (ns.take m).sum
  | 0, _ => by
    rw [List.take_zero]
    rfl
  | m + 1, h => by
    have e : preSum (fun i => ns.getD i 0) (m + 1) = preSum (fun i => ns.getD i 0) m + ns.getD m 0 := rfl
    rw [e, pre_sum ns m (by omega), List.take_succ, List.sum_append, List.getD_eq_getElem?_getD, List.getElem?_eq_getElem (by omega)]
    simp
/-- sum of a tuple of ints, none of whose beginnings is too great -/
def rSumT (K : PySem.W.Frag) : List V → Hp → VK → Prop := fun xs H Q => ∃ (a : Addr) (ns : List Int), xs = [.ref a] ∧ SqT K H a (ns.map V.int) ∧ (∀ j, j < ns.length → InLong (ns.getD j 0) ∧ InLong ((ns.take (j + 1)).sum)) ∧ Q (.int ns.sum) H
theorem cr_sumT {X : Cx} (hc : X.calm = true) : CallR X (.builtin "sum") (rSumT X.K) := by
  intro pins s σ H xs us Q I r1 h
  obtain ⟨a, ns, rfl, hS, hb, q1⟩ := h
  cases r1 with
  | cons ra r1 =>
  cases r1
  rename_i ua
  cases ra
  obtain ⟨its, rv, pl, hz⟩ := I.tuple hS
  have hd : X.A.handled = none := I.ok.hd hc
  have il : s.heap.IsTuple a its.toArray := pl
  refine PySem.call_function_tree PySem.F.kind_sum PySem.F.plain_sum PySem.F.entry_sum (PySem.F.args_sum1 _) ?_
  refine wpAny_bind ?_
  rw [show Builtin.Builtins.bindParams "sum" ["start"] 0 { pos := [], kw := ({ pos := [Value.ref a] } : Args).kw } = pure [none] from rfl]
  refine wpAny_pure ?_
  refine wpAny_bind (wpAny_pyIter_tuple il ?_)
  refine wpAny_bind (wpAny_mkInt ?_)
  refine wpAny_bind (wpAny_pure ?_)
  refine wpAny_bind ?_
  simp only [List.forIn_cons, List.forIn_nil]
  have st1 : isSubtype (Value.type "int") (Value.type "str") = pure false := by rfl
  have st2 : isSubtype (Value.type "int") (Value.type "bytes") = pure false := by rfl
  have st3 : isSubtype (Value.type "int") (Value.type "bytearray") = pure false := by rfl
  refine wpAny_bind (wpAny_bind (wpAny_isInstance_val (T := "int") rfl st1 ?_))
  refine wpAny_pure ?_
  refine wpAny_bind (wpAny_bind (wpAny_isInstance_val (T := "int") rfl st2 ?_))
  refine wpAny_pure ?_
  refine wpAny_bind (wpAny_bind (wpAny_isInstance_val (T := "int") rfl st3 ?_))
  refine wpAny_pure ?_
  refine wpAny_pure ?_
  refine wpAny_bind (wpAny_newList ?_)
  refine wpAny_pure ⟨rfl, ?_⟩
  obtain ⟨o, eo, co, no, dd⟩ := il
  have fr1 : ∀ (h : Heap) b o, h.get? b = some o → b ≠ h.objs.size := fun h b o e z => by
    subst z
    simp [Heap.get?] at e
  have sI : a ≠ s.heap.objs.size := fr1 _ a o eo
  have g1 : ∀ b u, s.heap.get? b = some u → (s.heap.push { cls := .type "tuple_iterator", data := .fields #[.ref a, .int 0 0] }).get? b = some u := fun b u e => Heap.get?_push_of_some _ e
  have eI1 : (s.heap.push { cls := .type "tuple_iterator", data := .fields #[.ref a, .int 0 0] }).get? s.heap.objs.size = some { cls := .type "tuple_iterator", data := .fields #[.ref a, .int 0 0] } := Heap.get?_push_size _ rfl
  obtain ⟨h1, eh1⟩ : ∃ h1, h1 = s.heap.push { cls := .type "tuple_iterator", data := .fields #[.ref a, .int 0 0] } := ⟨_, rfl⟩
  rw [← eh1] at g1 eI1
  have g2 : ∀ b u, s.heap.get? b = some u → (h1.push { cls := .type "list", data := .seq #[.int 0 s.toks] }).get? b = some u := fun b u e => Heap.get?_push_of_some _ (g1 b u e)
  have eI : (h1.push { cls := .type "list", data := .seq #[.int 0 s.toks] }).get? s.heap.objs.size = some { cls := .type "tuple_iterator", data := .fields #[.ref a, .int 0 0] } := Heap.get?_push_of_some _ eI1
  have eS : (h1.push { cls := .type "list", data := .seq #[.int 0 s.toks] }).get? h1.objs.size = some { cls := .type "list", data := .seq #[.int 0 s.toks] } := Heap.get?_push_size _ rfl
  have nSI : h1.objs.size ≠ s.heap.objs.size := fun z => fr1 h1 _ _ eI1 z.symm
  have nSa : h1.objs.size ≠ a := fun z => fr1 h1 _ _ (g1 a o eo) z.symm
  have nin : h1.objs.size ∉ [s.heap.objs.size, a] := fun z => by
    rcases List.mem_cons.mp z with z | z
    · exact nSI z
    · exact nSa (List.mem_singleton.mp z)
  have W := Walks.tuple (prog := X.prog) (w := X.w) (A := X.A.in1) hd s.heap.objs.size a sI its.toArray
  have st0 : (h1.push { cls := .type "list", data := .seq #[.int 0 s.toks] }).IsTupleIter s.heap.objs.size a 0 ∧ (h1.push { cls := .type "list", data := .seq #[.int 0 s.toks] }).IsTuple a its.toArray := ⟨⟨_, eI, rfl, rfl⟩, ⟨o, g2 a o eo, co, no, dd⟩⟩
  have hl := rv.length
  rw [List.length_map] at hl
  have sz : its.toArray.size = ns.length := by rw [List.size_toArray, hl]
  show codeAny (model X.prog X.w) X.A (.builtin "sum.loop" { pos := [.ref s.heap.objs.size, .ref (s.heap.push { cls := .type "tuple_iterator", data := .fields #[.ref a, .int 0 0] }).objs.size, rawInt 0, rawInt 0] }) _
    { heap := (s.heap.push { cls := .type "tuple_iterator", data := .fields #[.ref a, .int 0 0] }).push { cls := .type "list", data := .seq #[.int 0 s.toks] }, gens := s.gens, drawn := s.drawn, toks := s.toks + 1, os := s.os }
  rw [← eh1]
  have val : ∀ i v, its.toArray[i]? = some v → ∃ t, v = Value.int (ns.getD i 0) t := fun i v e => by
    rw [List.getElem?_toArray] at e
    have li := (List.getElem?_eq_some_iff.mp e).1
    have li2 : i < ns.length := by omega
    have e1 : (ns.map V.int)[i]? = some (V.int ns[i]) := by rw [List.getElem?_map, List.getElem?_eq_getElem li2]; rfl
    obtain ⟨u, e2, ru⟩ := rv.get e1
    obtain ⟨t, et⟩ := ru
    rw [e] at e2
    refine ⟨t, (Option.some.inj e2).trans ?_⟩
    rw [et, List.getD_eq_getElem?_getD, List.getElem?_eq_getElem li2]
    rfl
  refine codeAny_sum_loop W (fun i => ns.getD i 0) val (fun j hj => ?_) _ nin _ 0 _ s.toks _ rfl (Nat.zero_le _) st0 eS fun h' tk t' keep => ?_
  · have hj2 : j < ns.length := by omega
    rw [pre_sum ns (j + 1) hj2]
    exact hb j hj2
  · rw [sz, pre_sum ns _ (Nat.le_refl _), List.take_length]
    exact ⟨.int ns.sum, H, I.kept fun b u e => keep b u (fun z => fr1 s.heap b u e (List.mem_singleton.mp z)) (fun z => fr1 h1 b u (g1 b u e) z) (g2 b u e), ⟨t', rfl⟩, q1⟩
/-- sum of a list, or of a tuple -/
def rSumA (K : PySem.W.Frag) : List V → Hp → VK → Prop := fun xs H Q => rSum K xs H Q ∨ rSumT K xs H Q
theorem cr_sumA {X : Cx} (hc : X.calm = true) : CallR X (.builtin "sum") (rSumA X.K) := (cr_sum hc).or (cr_sumT hc)
def fSumA : FC := fun ds M Q => match ds with
  | [d] => ∃ ns : List Int, seqD M d = some (ns.map .int) ∧ (∀ j, j < ns.length → InLong (ns.getD j 0) ∧ InLong ((ns.take (j + 1)).sum)) ∧ Q (.int ns.sum) M
  | _ => False
theorem sim_sumA {K : PySem.W.Frag} : SimC K (rSumA K) fSumA := by
  intro Z xs ds H M Q Q' S r f q
  unfold fSumA at f
  split at f
  · cases r with
    | cons r1 r2 =>
      cases r2
      obtain ⟨ns, hs, hb, z⟩ := f
      obtain ⟨p, vs, rfl, hv, rl⟩ := seq_of S r1 hs
      obtain rfl := rl.ints
      rcases hv with hv | hv
      · exact .inl ⟨p, ns, rfl, hv, q _ _ H M (Go.refl S) (.int _) z⟩
      · exact .inr ⟨p, ns, rfl, hv, hb, q _ _ H M (Go.refl S) (.int _) z⟩
  · exact f.elim
end L3
namespace L3
open PySem L2
section
variable {X : Cx} {E : XK} {e e2 o a b : Expr} {es : List Expr} {pos p p2 tpos apos cpos : Pos} {elts : List Expr} {kk : Nat} {te to ta tb : TE} {we wo wa wb : WE} {tr : TA} {wr : WA}
/-! ### zip of two tuples, or of two lists -/
def zipD (xs ys : List D) : List D := List.zipWith (fun x y => D.tup [x, y]) xs ys
def wiZip (w : WA) : WI := fun ρ M R => w ρ M fun ds M1 => match ds with
  | [.tup xs, .tup ys] => R (zipD xs ys) AnyM M1
  | [.lst xs, .lst ys] => R (zipD xs ys) AnyM M1
  | _ => False
theorem zip_get {xs ys : List D} {i : Nat} {d : D} (h : (zipD xs ys)[i]? = some d) : ∃ x y, xs[i]? = some x ∧ ys[i]? = some y ∧ d = .tup [x, y] := by
  unfold zipD at h
  rw [List.getElem?_zipWith] at h
  cases q1 : xs[i]? with
  | none =>
    rw [q1] at h
    cases h
  | some x =>
    cases q2 : ys[i]? with
    | none =>
      rw [q1, q2] at h
      cases h
    | some y =>
      rw [q1, q2] at h
      exact ⟨x, y, rfl, rfl, (Option.some.inj h).symm⟩
theorem walks_zt {K : PySem.W.Frag} {Z H : Hp} {M : Mp} {p q : Addr} {vs ws : List V} {ds es : List D} (h1 : SqT K (fz Z H M) p vs) (r1 : RepL K (fz Z H M) vs ds) (h2 : SqT K (fz Z H M) q ws) (r2 : RepL K (fz Z H M) ws es) : Walks3 K Z H M (RZ.ItzT K p q) (zipD ds es) AnyM := by
  intro Z2 H2 M2 S ex _
  have k1 : SqT K H2 p vs := sqt_mono (ex.trans fz_sub) h1
  have k2 : SqT K H2 q ws := sqt_mono (ex.trans fz_sub) h2
  refine ⟨fun i d e => ?_, fun i hi => ⟨vs, ws, k1, k2, ?_⟩⟩
  · obtain ⟨x, y, e1, e2, rfl⟩ := zip_get e
    obtain ⟨v, a1, b1⟩ := r1.get e1
    obtain ⟨u, a2, b2⟩ := r2.get e2
    refine ⟨⟨vs, ws, v, u, k1, k2, a1, a2⟩, fun z H3 ⟨T, x', y', ez, hT, eH, y1, y2⟩ => ?_⟩
    obtain rfl : v = x' := Option.some.inj (a1.symm.trans (y1 vs k1))
    obtain rfl : u = y' := Option.some.inj (a2.symm.trans (y2 ws k2))
    subst ez
    subst eH
    obtain ⟨g, n⟩ := Go.laid (o := .tup [v, u]) S hT
    exact ⟨g, .tup (.inl (.inl n)) (.cons ((b1.up ex).up g.ex) (.cons ((b2.up ex).up g.ex) .nil))⟩
  · rw [r1.len, r2.len]
    unfold zipD at hi
    rw [List.length_zipWith] at hi
    omega
theorem walks_zl {K : PySem.W.Frag} {Z H : Hp} {M : Mp} {p q : Addr} {vs ws : List V} {ds es : List D} (h1 : SqL K (fz Z H M) p vs) (r1 : RepL K (fz Z H M) vs ds) (h2 : SqL K (fz Z H M) q ws) (r2 : RepL K (fz Z H M) ws es) : Walks3 K Z H M (Itz K p q) (zipD ds es) AnyM := by
  intro Z2 H2 M2 S ex _
  have k1 : SqL K H2 p vs := (ex.trans fz_sub).seq h1
  have k2 : SqL K H2 q ws := (ex.trans fz_sub).seq h2
  refine ⟨fun i d e => ?_, fun i hi => ⟨vs, ws, k1, k2, ?_⟩⟩
  · obtain ⟨x, y, e1, e2, rfl⟩ := zip_get e
    obtain ⟨v, a1, b1⟩ := r1.get e1
    obtain ⟨u, a2, b2⟩ := r2.get e2
    refine ⟨⟨vs, ws, v, u, k1, k2, a1, a2⟩, fun z H3 ⟨T, x', y', ez, hT, eH, y1, y2⟩ => ?_⟩
    obtain rfl : v = x' := Option.some.inj (a1.symm.trans (y1 vs k1))
    obtain rfl : u = y' := Option.some.inj (a2.symm.trans (y2 ws k2))
    subst ez
    subst eH
    obtain ⟨g, n⟩ := Go.laid (o := .tup [v, u]) S hT
    exact ⟨g, .tup (.inl (.inl n)) (.cons ((b1.up ex).up g.ex) (.cons ((b2.up ex).up g.ex) .nil))⟩
  · rw [r1.len, r2.len]
    unfold zipD at hi
    rw [List.length_zipWith] at hi
    omega
theorem di_zip (hm : X.mg "zip" = none) (ha : DA X [e, e2] tr wr) (hg : Gl X "zip" := by rfl) (hs : starEach [e, e2] X.env = (false, eval e X.env) :: starEach [e2] X.env := by rfl) (hs2 : (backTo pos (starEach [e2] X.env)).any (·.1) = false := by rfl) :
    DI X (.Tuple elts kk tpos) (.Call (.Name "zip" p) [e, e2] [] pos) (RZ.iZipA X.K tr) (wiZip wr) := by
  refine ⟨RZ.pi_zipA hg hm ha.pe hs hs2, fun Z ρ M σ H R R' s hw q => ?_⟩
  refine ha.sm Z ρ M σ H _ _ s hw fun xs ds H1 M1 g1 r1 q1 => ?_
  split at q1
  · cases r1 with
    | cons r1 r2 =>
      cases r2 with
      | cons r2 r3 =>
        cases r3
        cases r1 with
        | tup h1 l1 =>
          cases r2 with
          | tup h2 l2 => exact ⟨_, _, _, _, rfl, .inr ⟨sqt_mono fz_sub h1, sqt_mono fz_sub h2, q _ _ _ H1 M1 g1 (walks_zt h1 l1 h2 l2) q1⟩⟩
  · cases r1 with
    | cons r1 r2 =>
      cases r2 with
      | cons r2 r3 =>
        cases r3
        cases r1 with
        | lst h1 l1 =>
          cases r2 with
          | lst h2 l2 => exact ⟨_, _, _, _, rfl, .inl ⟨fz_sub.seq h1, fz_sub.seq h2, q _ _ _ H1 M1 g1 (walks_zl h1 l1 h2 l2) q1⟩⟩
  · exact q1.elim
/-! ### methods of a list of the store -/
def wApp (wo : WE) (r : WA) : WE := fun ρ M Q => wo ρ M fun d M1 => match d with
  | .tok a => (∃ es, M1 a = some (.lst es)) ∧ r ρ M1 fun ds M2 => match ds with
    | [x] => ∃ es, M2 a = some (.lst es) ∧ es.length < sizeLine ∧ Q .non (setM M2 a (.lst (es ++ [x])))
    | _ => False
  | _ => False
theorem de_append (ho : DE X o to wo) (ha : DA X (e :: es) tr wr) (hs : attributeBase o "append" X.env (eval o X.env) = eval o X.env := by rfl)
    (h2 : (((backTo cpos (starEach (e :: es) X.env)).all fun x => !x.1) && ((backToKw cpos (keywordEach [] X.env)).all fun x => x.1.isSome) && decide (((e :: es).length + ([] : List Keyword).length + if ([] : List Keyword).isEmpty = true then 0 else 1) < 30)) = true := by rfl)
    (h3 : (apos.endLine == cpos.line) = true := by rfl) (h4 : starEach (e :: es) X.env = (false, eval e X.env) :: starEach es X.env := by rfl) (h5 : (backTo cpos (starEach es X.env)).any (·.1) = false := by rfl) :
    DE X (.Call (.Attribute o "append" apos) (e :: es) [] cpos) (tBM X.K "list" rAppend to tr) (wApp wo wr) := by
  refine ⟨pe_bm PySem.F.plainAttrs_list PySem.F.slot_list_append PySem.F.type_list_append mt_append ho.pe ha.pe hs h2 h3 h4 h5, fun Z ρ M σ H Q Q' s h q => ?_⟩
  refine ho.sm Z ρ M σ H _ _ s h fun x d H1 M1 g1 r1 q1 => ?_
  cases d with
  | tok a =>
    cases r1
    obtain ⟨⟨es0, hm⟩, q1⟩ := q1
    obtain ⟨vs0, e0, _⟩ := g1.sat.cell a _ hm
    refine ⟨.inl ⟨rfl, _, .inl (.inl e0)⟩, ?_⟩
    refine ha.sm Z ρ M1 σ H1 _ _ (s.go g1) q1 fun ys ds H2 M2 g2 r2 q2 => ?_
    cases r2 with
    | nil => exact q2.elim
    | cons ra rb =>
      cases rb with
      | nil =>
        obtain ⟨es, hm2, hl, q3⟩ := q2
        obtain ⟨vs, e1, rl⟩ := g2.sat.cell a _ hm2
        refine ⟨a, vs, _, rfl, rfl, e1, by rw [rl.len]; exact hl, ?_⟩
        have g3 := Go.putL (p := a) g2.sat (.inr ⟨es, hm2⟩) (rl.app (.cons ra .nil))
        exact q _ _ _ _ ((g1.trans g2).trans g3) .non q3
      | cons _ _ => exact q2.elim
  | _ => exact q1.elim
/-- list(range(n)), a list that is to change -/
def wRg1 (w : WE) : En → Mp → (Int → Int → Mp → Prop) → Prop := fun ρ M Q => w ρ M fun d M1 => match d with
  | .int n => Q 0 n M1
  | _ => False
def wListRg (w : WE) : WE := fun ρ M Q => w ρ M fun d M1 => match d with
  | .int n => RgOk 0 n ∧ ∀ p, M1 p = none → Q (.tok p) (setM M1 p (.lst (intsD 0 n.toNat)))
  | _ => False
theorem de_listRg (hc : X.calm = true) (hm : X.mg "list" = none) (hm2 : X.mg "range" = none) (ha : DE X a ta wa) (hg : Gl X "list" := by rfl) (hg2 : Gl X "range" := by rfl)
    (hs : starEach [(.Call (.Name "range" p2) [a] [] tpos)] X.env = (false, eval (.Call (.Name "range" p2) [a] [] tpos) X.env) :: starEach [] X.env := by rfl) (hs2 : starEach [a] X.env = [(false, eval a X.env)] := by rfl) :
    DE X (.Call (.Name "list" p) [(.Call (.Name "range" p2) [a] [] tpos)] [] pos) (tLstRg (tRg1 ta)) (wListRg wa) := by
  refine ⟨pe_listRg hc hg hm (prg_1 hg2 hm2 ha.pe hs2) hs, fun Z ρ M σ H Q Q' s h q => ?_⟩
  refine ha.sm Z ρ M σ H _ _ s h fun x d H1 M1 g1 r1 q1 => ?_
  cases d with
  | int n =>
    cases r1
    obtain ⟨ok, q2⟩ := q1
    refine ⟨n, rfl, ok, fun l hl => ?_⟩
    have er : RepL X.K (fz Z H1 M1) (rgV 0 n) (intsD 0 n.toNat) := by
      have e1 : rgV 0 n = ((List.range n.toNat).map fun (i : Nat) => (0 : Int) + (i : Int)).map V.int := by
        unfold rgV
        rw [List.map_map, Int.sub_zero]
        rfl
      have e2 : intsD 0 n.toNat = ((List.range n.toNat).map fun (i : Nat) => (0 : Int) + (i : Int)).map D.int := by
        unfold intsD
        rw [List.map_map]
        rfl
      rw [e1, e2]
      exact .ofInts _
    exact q _ _ _ _ (g1.trans (Go.putL g1.sat (.inl hl) er)) (.tok l) (q2 l (g1.sat.free hl))
  | _ => exact q1.elim
/-- tuple * int -/
def tmulD : F2 := fun d e M Q => match d, e with
  | .tup ds, .int k => ds ≠ [] ∧ 2 ≤ k ∧ k ≤ 1000 ∧ ds.length ≤ 1000 ∧ Q (.tup (List.replicate k.toNat ds).flatten) M
  | _, _ => False
theorem rep_flat {K : PySem.W.Frag} {H : Hp} {vs : List V} {ds : List D} (r : RepL K H vs ds) : ∀ k : Nat, RepL K H (List.replicate k vs).flatten (List.replicate k ds).flatten
  | 0 => .nil
  | k + 1 => by
    rw [List.replicate_succ, List.replicate_succ, List.flatten_cons, List.flatten_cons]
    exact r.app (rep_flat r k)
theorem sim_tmul {K : PySem.W.Frag} : SimR K (rRepT K) tmulD := by
  intro Z x y d e H M Q Q' S r1 r2 f q
  unfold tmulD at f
  split at f
  · cases r1 with
    | tup h1 l1 =>
      cases r2
      obtain ⟨f0, f1, f2, f3, f4⟩ := f
      refine ⟨_, _, _, rfl, rfl, sqt_mono fz_sub h1, fun z => f0 ?_, f1, f2, by rw [l1.len]; exact f3, fun p hp => ?_⟩
      · subst z
        cases l1
        rfl
      · obtain ⟨g, n⟩ := Go.laid (o := .tup (List.replicate _ _).flatten) S hp
        exact q _ _ _ _ g (.tup (.inl (.inl n)) ((rep_flat l1 _).up g.ex)) f4
  · exact f.elim
theorem de_tmul (ha : DE X a ta wa) (hb : DE X b tb wb) : DE X (.BinOp a .Mult b pos) (tOp (rRepT X.K) ta tb) (wOp tmulD wa wb) := de_op op_repT sim_tmul ha hb
end
end L3
namespace L3
open PySem L2
/-! ### how readings are walked, a statement at a time -/
theorem seq_gen {u1 u2 : WS} {D : Ends3} {ρ : En} {M : Mp} (h : ∀ K : En → Mp → Prop, K = u2 D → u1 { D with nx := K } ρ M) : wSeq u1 u2 D ρ M := h _ rfl
theorem for_gen {wi : WI} {g : WG} {wb : WS} {D : Ends3} {ρ : En} {M : Mp} (h : ∀ B : WS, B = wb → wFor wi g B D ρ M) : wFor wi g wb D ρ M := h _ rfl
theorem loop_ix {g : WG} {wb : WS} {Ok : Mp → Prop} {D3 : Ends3} {ds : List D} (P : Nat → En → Mp → Prop)
    (hs : ∀ i d ρ M, ds[i]? = some d → P i ρ M → Ok M ∧ ∀ K : En → Mp → Prop, (∀ ρ' M', P (i + 1) ρ' M' → K ρ' M') → g d ρ M fun ρ1 M1 => wb { D3 with nx := K, ct := K, bk := D3.nx } ρ1 M1)
    (he : ∀ ρ M, P ds.length ρ M → Ok M ∧ D3.nx ρ M) : ∀ {ρ M}, P 0 ρ M → wLoop g wb Ok D3 ds ρ M := by
  have main : ∀ (es : List D) (i : Nat), i ≤ ds.length → ds.drop i = es → ∀ ρ M, P i ρ M → wLoop g wb Ok D3 es ρ M := by
    intro es
    induction es with
    | nil =>
      intro i hi e ρ M h
      have l : ds.length ≤ i := List.drop_eq_nil_iff.mp e
      obtain rfl : i = ds.length := Nat.le_antisymm hi l
      exact he ρ M h
    | cons d es ih =>
      intro i hi e ρ M h
      have l : i < ds.length := by
        rcases Nat.lt_or_ge i ds.length with z | z
        · exact z
        · rw [List.drop_eq_nil_of_le z] at e
          cases e
      have e2 := List.drop_eq_getElem_cons l
      rw [e] at e2
      obtain ⟨e3, e4⟩ := List.cons.inj e2
      obtain ⟨ok, k⟩ := hs i d ρ M (by rw [List.getElem?_eq_getElem l, e3]) h
      exact ⟨ok, k _ fun ρ' M' h' => ih (i + 1) l e4.symm ρ' M' h'⟩
  exact fun {ρ M} h => main ds 0 (Nat.zero_le _) rfl ρ M h
theorem intsD_len {lo : Int} {n : Nat} : (intsD lo n).length = n := by
  unfold intsD
  rw [List.length_map, List.length_range]
theorem intsD_get {lo : Int} {n i : Nat} {d : D} (h : (intsD lo n)[i]? = some d) : i < n ∧ d = .int (lo + (i : Int)) := by
  have hi : i < n := by
    have z := (List.getElem?_eq_some_iff.mp h).1
    rw [intsD_len] at z
    exact z
  refine ⟨hi, ?_⟩
  unfold intsD at h
  rw [List.getElem?_map, List.getElem?_range hi] at h
  exact (Option.some.inj h).symm
/-- a comprehension each of whose values is known -/
theorem lc_pure {g : WG} {we : WE} {Ok : Mp → Prop} {ρ : En} {M : Mp} {Q : KD} (f : D → D) (ok : Ok M) : ∀ (ds acc : List D), acc.length + ds.length ≤ 1000000 → (∀ d ∈ ds, ∀ K : KD, K (f d) M → g d ρ M fun ρ1 M1 => we ρ1 M1 K) →
    Q (.lst (acc ++ ds.map f)) M → wLcL g wYes we Ok ρ ds acc M Q
  | [], acc, _, _, q => ⟨ok, by rw [List.map_nil, List.append_nil] at q; exact q⟩
  | d :: ds, acc, hl, hs, q => by
    rw [List.length_cons] at hl
    refine ⟨ok, Nat.lt_of_lt_of_le (by omega : acc.length < 1000000) (by decide), ?_⟩
    have z := hs d List.mem_cons_self (fun y M3 => wLcL g wYes we Ok ρ ds (acc ++ [y]) M3 Q)
      (lc_pure f ok ds (acc ++ [f d]) (by rw [List.length_append, List.length_singleton]; omega) (fun d' h' => hs d' (List.mem_cons_of_mem _ h')) (by rw [List.append_assoc]; exact q))
    exact z
/-- .. each of whose values is one of those that P tells -/
theorem lc_any {g : WG} {we : WE} {Ok : Mp → Prop} {ρ : En} {M : Mp} {Q : KD} (P : D → D → Prop) (ok : Ok M) : ∀ (ds acc : List D), acc.length + ds.length ≤ 1000000 → (∀ d ∈ ds, ∀ K : KD, (∀ y, P d y → K y M) → g d ρ M fun ρ1 M1 => we ρ1 M1 K) →
    (∀ ys : List D, ys.length = ds.length → (∀ (i : Nat) (y : D), ys[i]? = some y → ∃ d, ds[i]? = some d ∧ P d y) → Q (.lst (acc ++ ys)) M) → wLcL g wYes we Ok ρ ds acc M Q
  | [], acc, _, _, q => ⟨ok, by have z := q [] rfl (fun i y h => by rw [List.getElem?_nil] at h; cases h); rw [List.append_nil] at z; exact z⟩
  | d :: ds, acc, hl, hs, q => by
    rw [List.length_cons] at hl
    refine ⟨ok, Nat.lt_of_lt_of_le (by omega : acc.length < 1000000) (by decide), ?_⟩
    have z := hs d List.mem_cons_self (fun y M3 => wLcL g wYes we Ok ρ ds (acc ++ [y]) M3 Q) fun y hy =>
      lc_any P ok ds (acc ++ [y]) (by rw [List.length_append, List.length_singleton]; omega) (fun d' h' => hs d' (List.mem_cons_of_mem _ h')) fun ys hy1 hy2 => by
        rw [List.append_assoc]
        refine q (y :: ys) (by rw [List.length_cons, List.length_cons, hy1]) fun i u hu => ?_
        cases i with
        | zero =>
          rw [List.getElem?_cons_zero] at hu
          exact ⟨d, rfl, (Option.some.inj hu) ▸ hy⟩
        | succ i =>
          rw [List.getElem?_cons_succ] at hu
          rw [List.getElem?_cons_succ]
          exact hy2 i u hu
    exact z
theorem eqV_int {M : Mp} {neg : Bool} {x y : Int} {Q : KD} : eqV neg (.int x) (.int y) M Q ↔ Q (.bl (if neg then !decide (x = y) else decide (x = y))) M := Iff.rfl
theorem eqV_str {M : Mp} {neg : Bool} {x y : Str} {Q : KD} : eqV neg (.str x) (.str y) M Q ↔ Q (.bl (if neg then !decide (x = y) else decide (x = y))) M := Iff.rfl
theorem eqV_bl {M : Mp} {neg : Bool} {x y : Bool} {Q : KD} : eqV neg (.bl x) (.bl y) M Q ↔ Q (.bl (if neg then !decide (x = y) else decide (x = y))) M := Iff.rfl
theorem cm_of {a b : Int} (h1 : -2 ^ 60 ≤ a) (h2 : a ≤ 2 ^ 60) : CM a b := .inl (.inl ⟨by omega, by omega⟩)
theorem cm_of' {a b : Int} (h1 : -2 ^ 60 ≤ b) (h2 : b ≤ 2 ^ 60) : CM a b := .inl (.inr ⟨by omega, by omega⟩)
theorem draw_i {M : Mp} {a a0 : Addr} {n : Int} {Q : KD} {R} (hm : M a = some (.drw a0)) (h0 : 0 < n) (h1 : n.natAbs.log2 < 9000) : drawF [.tok a, .int n] M Q R ↔ ∀ k, 0 ≤ k → k < n → Q (.int k) M := by
  constructor
  · rintro ⟨_, _, _, h, _, _, _, q⟩
    cases h
    exact q
  · exact fun q => ⟨a, a0, n, rfl, hm, h0, h1, q⟩
theorem log_of {n : Int} (h0 : 0 ≤ n) (h : n < 2 ^ 60) : n.natAbs.log2 < 9000 := by
  by_cases z : n.natAbs = 0
  · rw [z]
    decide
  · have e : n.natAbs.log2 < 60 := (Nat.log2_lt z).mpr (by omega)
    omega
theorem pick_i {M : Mp} {a a0 : Addr} {es : List D} {Q : KD} {R} (hm : M a = some (.drw a0)) (h0 : 0 < es.length) (h1 : es.length ≤ 1000000) : pickF [.tok a, .lst es] M Q R ↔ ∀ x ∈ es, Q x M := by
  constructor
  · rintro ⟨_, _, _, _, h, _, hs, _, _, q⟩
    cases h
    cases hs
    exact q
  · exact fun q => ⟨a, a0, _, es, rfl, hm, rfl, h0, h1, q⟩
theorem pick_q {M : Mp} {a a0 : Addr} {d : D} {es : List D} {Q : KD} {R} (hm : M a = some (.drw a0)) (hs : seqD M d = some es) (h0 : 0 < es.length) (h1 : es.length ≤ 1000000) (q : ∀ x ∈ es, Q x M) : pickF [.tok a, d] M Q R := ⟨a, a0, _, es, rfl, hm, hs, h0, h1, q⟩
/-- the largest of some numbers, 0 if there are none -/
def mxI : List Int → Int
  | [] => 0
  | n :: ns => if mxI ns ≤ n then n else mxI ns
theorem mxI_ge : ∀ {ns : List Int} {n : Int}, n ∈ ns → n ≤ mxI ns
  | m :: ns, n, h => by
    unfold mxI
    rcases List.mem_cons.mp h with rfl | h
    · split <;> omega
    · have := mxI_ge h
      split <;> omega
theorem mxI_pos : ∀ (ns : List Int), 0 ≤ mxI ns
  | [] => Int.le_refl 0
  | n :: ns => by
    have := mxI_pos ns
    unfold mxI
    split <;> omega
theorem mxI_mem : ∀ {ns : List Int}, (∀ n ∈ ns, 0 ≤ n) → ns ≠ [] → mxI ns ∈ ns
  | [], _, h => absurd rfl h
  | n :: ns, hp, _ => by
    unfold mxI
    split
    · exact List.mem_cons_self
    · rename_i h
      by_cases e : ns = []
      · subst e
        have := hp n List.mem_cons_self
        unfold mxI at h
        omega
      · exact List.mem_cons_of_mem _ (mxI_mem (fun m hm => hp m (List.mem_cons_of_mem _ hm)) e)
theorem mxI_is {ns : List Int} {m : Int} (hp : ∀ n ∈ ns, 0 ≤ n) (h1 : m ∈ ns) (h2 : ∀ y ∈ ns, y ≤ m) : mxI ns = m := by
  have a := mxI_ge h1
  have b := h2 _ (mxI_mem hp (fun e => by rw [e] at h1; cases h1))
  omega
theorem sum_bound {B : Int} (hB : 0 ≤ B) : ∀ {ns : List Int}, (∀ n ∈ ns, 0 ≤ n ∧ n ≤ B) → 0 ≤ ns.sum ∧ ns.sum ≤ B * (ns.length : Int)
  | [], _ => by simp
  | n :: ns, h => by
    have ih := sum_bound hB (ns := ns) fun m hm => h m (List.mem_cons_of_mem _ hm)
    have h0 := h n List.mem_cons_self
    rw [List.sum_cons, List.length_cons]
    have e : B * ((ns.length + 1 : Nat) : Int) = B * (ns.length : Int) + B := by
      rw [Int.natCast_add, Int.mul_add]
      simp
    omega
end L3
namespace L3
open PySem L2
section
variable {X : Cx} {pos : Pos}
/-- the name of a built-in type, as a value -/
theorem de_bty {x : Str} {T : String} (hm : X.mg x = none) (hv : bootBuiltins x = some (.type T)) (hg : Gl X x := by rfl) (hn : x ≠ "__name__" := by decide) (hdb : (x == ("__debug__" : Str)) = false := by decide) : DE X (.Name x pos) (tC (.ty T)) (wC (.ty T)) := by
  refine ⟨⟨fun pins s σ H Q I h => ?_⟩, sim_c fun _ => .ty T⟩
  exact ld_blt I hg hm hv ⟨.ty T, H, I, rfl, h⟩ hn hdb
end
/-- what type data is of -/
def tyD (M : Mp) : D → Option String
  | .non => some "NoneType"
  | .bl _ => some "bool"
  | .int _ => some "int"
  | .str _ => some "str"
  | .tup _ => some "tuple"
  | .lst _ => some "list"
  | .tok a => match M a with
    | some (.lst _) => some "list"
    | _ => none
  | .ty _ => none
def subT (t T : String) : Option Bool := match T with
  | "int" => some (t == "int" || t == "bool")
  | "bool" => some (t == "bool")
  | "str" => some (t == "str")
  | "tuple" => some (t == "tuple")
  | "list" => some (t == "list")
  | _ => none
def fIsi : FC := fun ds M Q => match ds with
  | [d, .ty T] => ∃ t b, tyD M d = some t ∧ subT t T = some b ∧ Q (.bl b) M
  | _ => False
theorem ty_of {K : PySem.W.Frag} {Z : Hp} {H : Hp} {M : Mp} {x : V} {d : D} {t : String} (S : Sat K Z H M) (r : Rep K (fz Z H M) x d) (h : tyD M d = some t) : TyX K H x (.type t) := by
  cases d with
  | non => cases r; cases h; exact .base .non
  | bl b => cases r; cases h; exact .base (.bl b)
  | int i => cases r; cases h; exact .base (.int i)
  | str y => cases r; cases h; exact .base (.str y)
  | ty _ => cases h
  | tok a =>
    cases r
    have h' : (match M a with | some (.lst _) => some "list" | _ => none) = some t := h
    cases q : M a with
    | none =>
      rw [q] at h'
      cases h'
    | some c =>
      rw [q] at h'
      cases c with
      | lst ds =>
        cases h'
        obtain ⟨vs, e, _⟩ := S.cell a _ q
        exact .base (.lst e)
      | aux => cases h'
      | drw _ => cases h'
      | ins _ _ => cases h'
  | tup ds =>
    cases h
    cases r with
    | tup hs _ =>
      rcases sqt_mono fz_sub hs with (e | ⟨o, e⟩) | ⟨o, its, n, e, c, _⟩
      · exact .base (.tup e)
      · exact .fTuple e
      · exact .kTuple e c
  | lst ds =>
    cases h
    cases r with
    | lst hs _ =>
      rcases fz_sub.seq hs with (e | ⟨o, e⟩) | ⟨o, its, n, e, c, _⟩
      · exact .base (.lst e)
      · exact .base (.frz e)
      · exact .kList e c
theorem kit_of (K : PySem.W.Frag) {M : Mp} {d : D} {t T : String} {b : Bool} (h : tyD M d = some t) (hs : subT t T = some b) : PySem.W.kitOne K (.type t) (.type T) = some b := by
  have ht : t = "NoneType" ∨ t = "bool" ∨ t = "int" ∨ t = "str" ∨ t = "tuple" ∨ t = "list" := by
    cases d with
    | non => cases h; simp
    | bl _ => cases h; simp
    | int _ => cases h; simp
    | str _ => cases h; simp
    | tup _ => cases h; simp
    | lst _ => cases h; simp
    | ty _ => cases h
    | tok a =>
      have h' : (match M a with | some (.lst _) => some "list" | _ => none) = some t := h
      cases q : M a with
      | none =>
        rw [q] at h'
        cases h'
      | some c =>
        rw [q] at h'
        cases c with
        | lst ds => cases h'; simp
        | aux => cases h'
        | drw _ => cases h'
        | ins _ _ => cases h'
  unfold subT at hs
  split at hs
  · rcases ht with rfl | rfl | rfl | rfl | rfl | rfl <;> (cases hs; rfl)
  · rcases ht with rfl | rfl | rfl | rfl | rfl | rfl <;> (cases hs; rfl)
  · rcases ht with rfl | rfl | rfl | rfl | rfl | rfl <;> (cases hs; rfl)
  · rcases ht with rfl | rfl | rfl | rfl | rfl | rfl <;> (cases hs; rfl)
  · rcases ht with rfl | rfl | rfl | rfl | rfl | rfl <;> (cases hs; rfl)
  · cases hs
/-- isinstance(x, T) -/
theorem sim_isi {K : PySem.W.Frag} : SimC K (rIsi K) fIsi := by
  intro Z xs ds H M Q Q' S r f q
  unfold fIsi at f
  split at f
  · cases r with
    | cons r1 r2 =>
      cases r2 with
      | cons r2 r3 =>
        cases r3
        cases r2
        obtain ⟨t, b, h1, h2, z⟩ := f
        exact ⟨_, _, _, _, b, rfl, .ty _, ty_of S r1 h1, kit_of K h1 h2, q _ _ H M (Go.refl S) (.bl _) z⟩
  · exact f.elim
end L3
namespace L3
open PySem L2
/-! ### min, max of any data that can be compared -/
theorem reads_all {X : Cx} {pins : List (Addr × Obj)} {σ : L2.St} {H : Hp} {s : Shared} (I : L2.Inv X pins σ H s) (n : Nat) : ∀ {ys : List V} {its : List Value} {ds : List D}, Vals ys its → RepL X.K H ys ds → (∀ d ∈ ds, fit n d) → ∃ as, ReadsAll s.heap its (ds.map D.py) as
  | _, _, _, .nil, .nil, _ => ⟨[], .nil⟩
  | _, _, _, .cons rv rvs, .cons rd rds, hf => by
    obtain ⟨as, h1⟩ := Dp.reads I _ _ _ (Rep.dp n _ _ (hf _ List.mem_cons_self) rd) rv
    obtain ⟨bs, h2⟩ := reads_all I n rvs rds fun d hd => hf d (List.mem_cons_of_mem _ hd)
    exact ⟨as ++ bs, .cons h1 h2⟩
theorem depth_all {n : Nat} : ∀ {ds : List D}, (∀ d ∈ ds, fit n d) → PyData.depthAll (ds.map D.py) ≤ n
  | [], _ => Nat.zero_le _
  | d :: ds, h => by
    have h1 := (fit_lay n d (h d List.mem_cons_self)).2
    have h2 := depth_all (ds := ds) fun x hx => h x (List.mem_cons_of_mem _ hx)
    show max (PyData.depth d.py) (PyData.depthAll (ds.map D.py)) ≤ n
    exact Nat.max_le.mpr ⟨h1, h2⟩
/-- the least (or the greatest: f) of a list or tuple of data -/
def rBest (f : PyData → List PyData → PyData) (K : PySem.W.Frag) : List V → Hp → VK → Prop := fun xs H Q => ∃ (p : Addr) (ys : List V) (e : D) (es : List D) (n : Nat), xs = [.ref p] ∧ (SqL K H p ys ∨ SqT K H p ys) ∧ RepL K H ys (e :: es) ∧ n ≤ 60 ∧ (∀ d ∈ e :: es, fit n d) ∧ PySem.W.AlikeAll ((e :: es).map D.py) ∧
  ∀ (i : Nat) (y : V) (d : D), ys[i]? = some y → (e :: es)[i]? = some d → d.py = f e.py (es.map D.py) → Q y H
theorem best_end {X : Cx} {pins : List (Addr × Obj)} {σ : L2.St} {H : Hp} {s : Shared} {Q : VK} {f : PyData → List PyData → PyData} {ys : List V} {its : List Value} {e : D} {es : List D} {n : Nat} (I : L2.Inv X pins σ H s) (rv : Vals ys its) (rl : RepL X.K H ys (e :: es)) (hf : ∀ d ∈ e :: es, fit n d)
    (q : ∀ (i : Nat) (y : V) (d : D), ys[i]? = some y → (e :: es)[i]? = some d → d.py = f e.py (es.map D.py) → Q y H) (i : Nat) (v : Value) (h' : Heap) (tk : Nat) (bs : List Addr) (hv : its.toArray[i]? = some v) (hr : Reads h' v (f e.py (es.map D.py)) bs)
    (keep : ∀ b o, s.heap.get? b = some o → h'.get? b = some o) : EP X pins σ Q v { heap := h', gens := s.gens, drawn := s.drawn, toks := tk, os := s.os } := by
  rw [List.getElem?_toArray] at hv
  have li := (List.getElem?_eq_some_iff.mp hv).1
  have l1 := rv.length
  have ly : i < ys.length := by omega
  obtain ⟨u, e2, ru⟩ := rv.get (List.getElem?_eq_getElem ly)
  rw [hv] at e2
  obtain rfl : v = u := Option.some.inj e2
  obtain ⟨d, ed, rd⟩ := rl.getV (List.getElem?_eq_getElem ly)
  obtain ⟨as, rr⟩ := Dp.reads I _ _ _ (Rep.dp n d _ (hf d (List.mem_of_getElem? ed)) rd) ru
  have det := PyProof.Rows.reads_det (fun b o h _ => keep b o h) rr hr
  exact ⟨ys[i], H, I.kept keep, ru, q i _ d (List.getElem?_eq_getElem ly) ed det.1.symm⟩
theorem cr_minA {X : Cx} {k : Nat} (hc : X.calm = true) (hr : Room k X.A) : CallR X (.builtin "min") (rBest PySem.W.minD X.K) := by
  intro pins s σ H xs us Q I r h
  obtain ⟨p, ys, e, es, n, rfl, hs, rl, hn, hf, al, q⟩ := h
  cases r with
  | cons ra r1 =>
  cases r1
  cases ra
  have hd : X.A.handled = none := I.ok.hd hc
  have hu := hr.units
  have dp := depth_all hf
  rcases hs with hs | hs
  · obtain ⟨its, rv, pl, hz⟩ := I.list hs
    obtain ⟨as, ra⟩ := reads_all I n rv rl hf
    exact PySem.W.min_list_data (x := e.py) (xs := es.map D.py) hd pl.isList ra al (by show X.A.units + 1 + PyData.depthAll ((e :: es).map D.py) < cLine; omega) fun i v h' tk bs hv hr keep => best_end I rv rl hf q i v h' tk bs hv hr keep
  · obtain ⟨its, rv, pl, hz⟩ := I.tuple hs
    obtain ⟨as, ra⟩ := reads_all I n rv rl hf
    exact PySem.W.min_tuple_data (x := e.py) (xs := es.map D.py) hd pl ra al (by show X.A.units + 1 + PyData.depthAll ((e :: es).map D.py) < cLine; omega) fun i v h' tk bs hv hr keep => best_end I rv rl hf q i v h' tk bs hv hr keep
theorem cr_maxA {X : Cx} {k : Nat} (hc : X.calm = true) (hr : Room k X.A) : CallR X (.builtin "max") (rBest PySem.W.maxD X.K) := by
  intro pins s σ H xs us Q I r h
  obtain ⟨p, ys, e, es, n, rfl, hs, rl, hn, hf, al, q⟩ := h
  cases r with
  | cons ra r1 =>
  cases r1
  cases ra
  have hd : X.A.handled = none := I.ok.hd hc
  have hu := hr.units
  have dp := depth_all hf
  rcases hs with hs | hs
  · obtain ⟨its, rv, pl, hz⟩ := I.list hs
    obtain ⟨as, ra⟩ := reads_all I n rv rl hf
    exact PySem.W.max_list_data (x := e.py) (xs := es.map D.py) hd pl.isList ra al (by show X.A.units + 1 + PyData.depthAll ((e :: es).map D.py) < cLine; omega) fun i v h' tk bs hv hr keep => best_end I rv rl hf q i v h' tk bs hv hr keep
  · obtain ⟨its, rv, pl, hz⟩ := I.tuple hs
    obtain ⟨as, ra⟩ := reads_all I n rv rl hf
    exact PySem.W.max_tuple_data (x := e.py) (xs := es.map D.py) hd pl ra al (by show X.A.units + 1 + PyData.depthAll ((e :: es).map D.py) < cLine; omega) fun i v h' tk bs hv hr keep => best_end I rv rl hf q i v h' tk bs hv hr keep
def fBest (f : PyData → List PyData → PyData) : FC := fun ds M Q => match ds with
  | [d] => ∃ (e : D) (es : List D) (n : Nat), seqD M d = some (e :: es) ∧ n ≤ 60 ∧ (∀ d ∈ e :: es, fit n d) ∧ PySem.W.AlikeAll ((e :: es).map D.py) ∧ ∀ d ∈ e :: es, d.py = f e.py (es.map D.py) → Q d M
  | _ => False
theorem sim_best {K : PySem.W.Frag} {f : PyData → List PyData → PyData} : SimC K (rBest f K) (fBest f) := by
  intro Z xs ds H M Q Q' S r g q
  unfold fBest at g
  split at g
  · cases r with
    | cons r1 r2 =>
      cases r2
      obtain ⟨e, es, n, hs, hn, hf, al, z⟩ := g
      obtain ⟨p, vs, rfl, hv, rl⟩ := seq_of S r1 hs
      refine ⟨p, vs, e, es, n, rfl, hv, rl.up fz_sub, hn, hf, al, fun i y d e1 e2 e3 => ?_⟩
      obtain ⟨d', ed, rd⟩ := rl.getV e1
      rw [e2] at ed
      obtain rfl : d = d' := Option.some.inj ed
      exact q _ _ H M (Go.refl S) rd (z d (List.mem_of_getElem? e2) e3)
  · exact g.elim
end L3
namespace L3
open PySem L2
/-! ### iterators that hand out new tuples: their turns from the library's walks -/
/-- n turns over what never changes (ok), the values of each turn in a new tuple -/
def ItG (n : Nat) (ok : Hp → Prop) (yv : Nat → List V) : It :=
  ⟨fun i H => ok H ∧ i < n, fun i H v H' => ∃ T, v = .ref T ∧ H T = none ∧ H' = upd H T (.tup (yv i)), fun i H => ok H ∧ n ≤ i⟩
theorem turn_G {P : Program} {w : World} {K : PySem.W.Frag} {elts : List Expr} {kk : Nat} {tpos : Pos} {n : Nat} {ok : Hp → Prop} {yv : Nat → List V} {fp wr : List Addr} {it : Addr} {tn : Nat → Heap → Prop}
    (mem : it ∈ fp) (obj : ∀ i h, tn i h → ∀ b ∈ fp, ∃ o, h.get? b = some o ∧ ∀ v, o.data ≠ .cell v) (keep : ∀ i h h', tn i h → (∀ b ∈ fp, ∀ o, h.get? b = some o → h'.get? b = some o) → tn i h')
    (self : ∀ (A : Around) (i : Nat) (s : Shared) (Q : Value → Shared → Prop) (E : Value → Shared → Prop), tn i s.heap → Q (.ref it) s → wpAny (model P w) A (pyIter (.ref it)) Q E s)
    (hle : ∀ i h, tn i h → i ≤ n) (hwr : ∀ b ∈ wr, b ∈ fp) (small : ∀ i, (yv i).length ≤ sizeLine)
    (wk : ∀ (X : Cx), X.prog = P → X.w = w → X.K = K → X.calm = true → ∀ (pins : List (Addr × Obj)) (s : Shared) (σ : L2.St) (H : Hp), Inv X pins σ H s → ok H → ∃ (fpA : List Addr) (Pt : Nat → Array Value → Prop) (St : Nat → Heap → Prop) (Mid : Nat → Addr → Heap → Prop),
      WalksT P w X.A it fpA wr n Pt St Mid ∧ (∀ i, tn i s.heap → St i s.heap) ∧ (∀ i h, St i h → tn i h) ∧ ∀ i vals, Pt i vals → Vals (yv i) vals.toList) :
    Turn P w K (.Tuple elts kk tpos) (ItG n ok yv) fp it tn where
  mem := mem
  obj := obj
  keep := keep
  self := self
  item := by
    intro X hP hw hK hc i pins s σ H E I hf st hg
    obtain ⟨hok, hlt⟩ := hg
    obtain ⟨fpA, Pt, St, Mid, W, w1, w2, w3⟩ := wk X hP hw hK hc pins s σ H I hok
    subst hP hw hK
    refine W.item i s _ _ hlt (w1 i st) fun T vals h' tk pt hT tT mid kp => ?_
    refine ⟨_, rfl, W.go elts kk tpos i T { s with heap := h', toks := tk } _ _ mid fun h'' st' kp2 => ?_⟩
    have hTw := W.apart i T h' mid
    have kk2 : ∀ b o, b ∉ fp → s.heap.get? b = some o → h''.get? b = some o := fun b o hb e => kp2 b o (fun z => hb (hwr b z)) (kp b o (fun z => hb (hwr b z)) e)
    have tT2 : h''.IsTuple T vals := tT.at fun o e => kp2 T o hTw e
    have new : ObjOk X.prog X.w (upd H T (.tup (yv i))) h'' T (.tup (yv i)) := ⟨small i, vals.toList, w3 i vals pt, by
      rw [Array.toArray_toList]
      exact tT2⟩
    have I1 : Inv X pins σ (upd H T (.tup (yv i))) { s with heap := h'', toks := tk } := I.turnedNew (t' := tk) (ch := fp) kk2 hf hT new
    refine ⟨.ref T, _, I1, rfl, ⟨T, rfl, I.hok.fresh hT, rfl⟩, w2 _ _ st', fun b hb => ?_⟩
    obtain ⟨o, ho, _⟩ := obj i _ st b hb
    rw [upd_ne (Nat.ne_of_lt (Nat.lt_of_lt_of_le (Heap.lt_size ho) hT))]
    exact (hf b hb).1
  done := by
    intro X hP hw hK hc i pins s σ H E I hf st hg
    obtain ⟨hok, hge⟩ := hg
    obtain ⟨fpA, Pt, St, Mid, W, w1, w2, w3⟩ := wk X hP hw hK hc pins s σ H I hok
    have e : i = n := Nat.le_antisymm (hle _ _ st) hge
    subst e
    subst hP hw hK
    exact W.done s _ _ (w1 _ st) fun h' tk kp => ⟨rfl, I.turnedL (t' := tk) (ch := fp) (fun b o hb e => kp b o (fun z => hb (hwr b z)) e) hf⟩
end L3
namespace L3
open PySem L2
theorem vals_at {xs : List V} {its : List Value} {i : Nat} {x : Value} (r : Vals xs its) (h : its.toArray[i]? = some x) : RelV (xs.getD i .non) x := by
  have h' : its[i]? = some x := by simpa using h
  have li := (List.getElem?_eq_some_iff.mp h').1
  have l1 := r.length
  obtain ⟨u, e2, ru⟩ := r.get (List.getElem?_eq_getElem (by omega : i < xs.length))
  rw [h'] at e2
  obtain rfl : x = u := Option.some.inj e2
  rw [List.getD_eq_getElem?_getD, List.getElem?_eq_getElem (by omega)]
  exact ru
/-! ### zip of three tuples -/
def ok3 (K : PySem.W.Frag) (a b c : Addr) (xs ys zs : List V) (H : Hp) : Prop := SqT K H a xs ∧ SqT K H b ys ∧ SqT K H c zs
def n3 (xs ys zs : List V) : Nat := min (min xs.length ys.length) zs.length
def yv3 (xs ys zs : List V) (i : Nat) : List V := [xs.getD i .non, ys.getD i .non, zs.getD i .non]
theorem turn_zip3 {P : Program} {w : World} {K : PySem.W.Frag} {elts : List Expr} {kk : Nat} {tpos : Pos} {N : Nat} {a b c : Addr} {xs ys zs : List V} (la : a < N) (lb : b < N) (lc : c < N) :
    Turn P w K (.Tuple elts kk tpos) (ItG (n3 xs ys zs) (ok3 K a b c xs ys zs) (yv3 xs ys zs)) [N + 5, N + 3, N + 4, N, N + 1, N + 2] (N + 5)
      (fun i h => i ≤ n3 xs ys zs ∧ IsZip h (N + 5) (N + 3) (N + 4) .none ∧ IsTupOf3 h (N + 3) (.ref N) (.ref (N + 1)) (.ref (N + 2)) ∧ (∃ x y z, IsTupOf3 h (N + 4) x y z) ∧ h.IsTupleIter N a i ∧ h.IsTupleIter (N + 1) b i ∧ h.IsTupleIter (N + 2) c i) := by
  refine turn_G (wr := [N + 5, N + 4, N, N + 1, N + 2]) (by simp) (fun i h st q hq => ?_) (fun i h h' st k => ?_) (fun A i s Q E st h => wpAny_pyIter_zip st.2.1 h) (fun i h st => st.1) (fun q hq => ?_) (fun i => by show 3 ≤ sizeLine; decide) (fun X hP hw hK hc pins s σ H I hok => ?_)
  · obtain ⟨_, hz, hTI, ⟨x, y, z, hTO⟩, ⟨o1, e1, _, d1⟩, ⟨o2, e2, _, d2⟩, ⟨o3, e3, _, d3⟩⟩ := st
    have e' : q = N + 5 ∨ q = N + 3 ∨ q = N + 4 ∨ q = N ∨ q = N + 1 ∨ q = N + 2 := by simpa using hq
    rcases e' with z | z | z | z | z | z
    · rw [z]; exact ⟨_, hz, fun v q => nomatch q⟩
    · rw [z]; exact ⟨_, hTI, fun v q => nomatch q⟩
    · rw [z]; exact ⟨_, hTO, fun v q => nomatch q⟩
    · rw [z]; exact ⟨o1, e1, fun v q => by rw [d1] at q; cases q⟩
    · rw [z]; exact ⟨o2, e2, fun v q => by rw [d2] at q; cases q⟩
    · rw [z]; exact ⟨o3, e3, fun v q => by rw [d3] at q; cases q⟩
  · obtain ⟨hl, hz, hTI, ⟨x, y, z, hTO⟩, h1, h2, h3⟩ := st
    exact ⟨hl, k _ (by simp) _ hz, k _ (by simp) _ hTI, ⟨x, y, z, k _ (by simp) _ hTO⟩, h1.at fun o q => k N (by simp) o q, h2.at fun o q => k (N + 1) (by simp) o q, h3.at fun o q => k (N + 2) (by simp) o q⟩
  · have e' : q = N + 5 ∨ q = N + 4 ∨ q = N ∨ q = N + 1 ∨ q = N + 2 := by simpa using hq
    rcases e' with z | z | z | z | z <;> (rw [z]; simp)
  · subst hP hw hK
    obtain ⟨o1, o2, o3⟩ := hok
    obtain ⟨t1, v1, p1, _⟩ := I.tuple o1
    obtain ⟨t2, v2, p2, _⟩ := I.tuple o2
    obtain ⟨t3, v3, p3, _⟩ := I.tuple o3
    have hd : X.A.handled = none := I.ok.hd hc
    have D1 := Draws.tuple (prog := X.prog) (w := X.w) (A := X.A.in1) hd N a (Nat.ne_of_lt la) t1.toArray
    have D2 := Draws.tuple (prog := X.prog) (w := X.w) (A := X.A.in1) hd (N + 1) b (Nat.ne_of_lt (Nat.lt_succ_of_lt la |> fun _ => Nat.lt_succ_of_lt lb)) t2.toArray
    have D3 := Draws.tuple (prog := X.prog) (w := X.w) (A := X.A.in1) hd (N + 2) c (Nat.ne_of_lt (Nat.lt_succ_of_lt (Nat.lt_succ_of_lt lc))) t3.toArray
    have S := zip_sep3 (N := N) (fp1 := [a]) (fp2 := [b]) (fp3 := [c]) (fun q hq => by rw [List.mem_singleton.mp hq]; exact la) (fun q hq => by rw [List.mem_singleton.mp hq]; exact lb) (fun q hq => by rw [List.mem_singleton.mp hq]; exact lc)
    have W := WalksT.zipD3 S D1 D2 D3
    have en : min (min t1.toArray.size t2.toArray.size) t3.toArray.size = n3 xs ys zs := by
      unfold n3
      rw [List.size_toArray, List.size_toArray, List.size_toArray, ← v1.length, ← v2.length, ← v3.length]
    rw [en] at W
    refine ⟨_, _, fun i h => i ≤ n3 xs ys zs ∧ (IsZip h (N + 5) (N + 3) (N + 4) .none ∧ IsTupOf3 h (N + 3) (.ref N) (.ref (N + 1)) (.ref (N + 2)) ∧ (∃ a1 a2 a3, IsTupOf3 h (N + 4) a1 a2 a3) ∧ (h.IsTupleIter N a i ∧ h.IsTuple a t1.toArray) ∧ (h.IsTupleIter (N + 1) b i ∧ h.IsTuple b t2.toArray) ∧ (h.IsTupleIter (N + 2) c i ∧ h.IsTuple c t3.toArray)),
      fun i T h => i + 1 ≤ n3 xs ys zs ∧ _, ⟨W.sub, fun i h h' st k => ⟨st.1, W.frame i h h' st.2 k⟩, fun i s Q E hi st q => W.item i s Q E hi st.2 fun T vals h' tk a1 a2 a3 a4 a5 => q T vals h' tk a1 a2 a3 ⟨hi, a4⟩ a5, fun elts k pos i T s Q E m q => W.go elts k pos i T s Q E m.2 fun h' a1 a2 => q h' ⟨m.1, a1⟩ a2, fun i T h m => W.apart i T h m.2, fun s Q E st q => W.done s Q E st.2 q, fun i s Q E st q => W.self i s Q E st.2 q⟩,
      fun i st => ⟨st.1, st.2.1, st.2.2.1, st.2.2.2.1, ⟨st.2.2.2.2.1, p1⟩, ⟨st.2.2.2.2.2.1, p2⟩, ⟨st.2.2.2.2.2.2, p3⟩⟩, fun i h ⟨hl, hz, hTI, hTO, h1, h2, h3⟩ => ⟨hl, hz, hTI, hTO, h1.1, h2.1, h3.1⟩, fun i vals hv => ?_⟩
    obtain ⟨x1, x2, x3, e1, e2, e3, rfl⟩ := hv
    exact .cons (vals_at v1 e1) (.cons (vals_at v2 e2) (.cons (vals_at v3 e3) .nil))
def iZip3 (K : PySem.W.Frag) (ta : TA) : TI := fun σ H R => ta σ H fun vs H1 => ∃ a b c xs ys zs, vs = [.ref a, .ref b, .ref c] ∧ SqT K H1 a xs ∧ SqT K H1 b ys ∧ SqT K H1 c zs ∧ R (ItG (n3 xs ys zs) (ok3 K a b c xs ys zs) (yv3 xs ys zs)) H1
theorem pi_zip3 {X : Cx} {e e2 e3 : Expr} {ta : TA} {p pos tpos : Pos} {elts : List Expr} {kk : Nat} (hg : Gl X "zip") (hm : X.mg "zip" = none) (ha : PA X [e, e2, e3] ta)
    (hs : starEach [e, e2, e3] X.env = (false, eval e X.env) :: starEach [e2, e3] X.env := by rfl) (hpl : (backTo pos (starEach [e2, e3] X.env)).any (·.1) = false := by rfl) :
    PI X (.Tuple elts kk tpos) (.Call (.Name "zip" p) [e, e2, e3] [] pos) (iZip3 X.K ta) := by
  refine ⟨fun pins s σ H R I h => ?_⟩
  refine PyProof.Rows.Call_ (ld_blt I hg hm PyProof.Rows.boot_zip (PyProof.Rows.callWith_type1 (thn (ha.run pos pins s σ H _ I h) fun us s1 ⟨vs, H1, I1, r1, q1⟩ => ?_) hs hpl))
  obtain ⟨a, b, c, xs, ys, zs, ex, o1, o2, o3, q⟩ := q1
  subst ex
  cases r1 with
  | cons ra rr =>
  cases rr with
  | cons rb rr =>
  cases rr with
  | cons rc rr =>
  cases rr
  cases ra
  cases rb
  cases rc
  obtain ⟨t1, v1, p1, _⟩ := I1.tuple o1
  obtain ⟨t2, v2, p2, _⟩ := I1.tuple o2
  obtain ⟨t3, v3, p3, _⟩ := I1.tuple o3
  obtain ⟨b1, hb1, _⟩ := id p1
  obtain ⟨b2, hb2, _⟩ := id p2
  obtain ⟨b3, hb3, _⟩ := id p3
  refine zip_begins3 (begins_tuple a t1.toArray) (begins_tuple b t2.toArray) (begins_tuple c t3.toArray) p1 p2 p3 fun h' hz hTI hTO h1 h2 h3 hsz hk => wpAny_pyIter_zip hz ?_
  have I2 : Inv X pins σ H1 { s1 with heap := h' } := I1.kept (t' := s1.toks) hk
  refine ⟨s1.heap.objs.size + 5, [s1.heap.objs.size + 5, s1.heap.objs.size + 3, s1.heap.objs.size + 4, s1.heap.objs.size, s1.heap.objs.size + 1, s1.heap.objs.size + 2], _, _, H1, rfl, I2, turn_zip3 (N := s1.heap.objs.size) (Heap.lt_size hb1) (Heap.lt_size hb2) (Heap.lt_size hb3), ⟨Nat.zero_le _, hz, hTI, ⟨_, _, _, hTO⟩, ⟨_, h1, rfl, rfl⟩, ⟨_, h2, rfl, rfl⟩, ⟨_, h3, rfl, rfl⟩⟩, fun q hq => ?_, q⟩
  have e' : q = s1.heap.objs.size + 5 ∨ q = s1.heap.objs.size + 3 ∨ q = s1.heap.objs.size + 4 ∨ q = s1.heap.objs.size ∨ q = s1.heap.objs.size + 1 ∨ q = s1.heap.objs.size + 2 := by simpa using hq
  have hle : s1.heap.objs.size ≤ q := by
    rcases e' with z | z | z | z | z | z <;> (rw [z]; first | exact Nat.le_add_right _ _ | exact Nat.le_refl _)
  exact I1.fpOk hle (I1.hok.fresh hle)
/-! by data -/
def zip3D (xs ys zs : List D) : List D := (List.range (min (min xs.length ys.length) zs.length)).map fun i => D.tup [xs.getD i .non, ys.getD i .non, zs.getD i .non]
def wiZip3 (w : WA) : WI := fun ρ M R => w ρ M fun ds M1 => match ds with
  | [.tup xs, .tup ys, .tup zs] => R (zip3D xs ys zs) AnyM M1
  | _ => False
theorem rep_getd {K : PySem.W.Frag} {H : Hp} {vs : List V} {ds : List D} (r : RepL K H vs ds) (i : Nat) (h : i < ds.length) : Rep K H (vs.getD i .non) (ds.getD i .non) := by
  obtain ⟨v, e1, e2⟩ := r.get (List.getElem?_eq_getElem h)
  rw [List.getD_eq_getElem?_getD, List.getD_eq_getElem?_getD, e1, List.getElem?_eq_getElem h]
  exact e2
theorem walks_z3 {K : PySem.W.Frag} {Z H : Hp} {M : Mp} {p q r : Addr} {vs ws us : List V} {ds es fs : List D} (h1 : SqT K (fz Z H M) p vs) (r1 : RepL K (fz Z H M) vs ds) (h2 : SqT K (fz Z H M) q ws) (r2 : RepL K (fz Z H M) ws es) (h3 : SqT K (fz Z H M) r us) (r3 : RepL K (fz Z H M) us fs) :
    Walks3 K Z H M (ItG (n3 vs ws us) (ok3 K p q r vs ws us) (yv3 vs ws us)) (zip3D ds es fs) AnyM := by
  intro Z2 H2 M2 S ex _
  have k : ok3 K p q r vs ws us H2 := ⟨sqt_mono (ex.trans fz_sub) h1, sqt_mono (ex.trans fz_sub) h2, sqt_mono (ex.trans fz_sub) h3⟩
  have en : (zip3D ds es fs).length = n3 vs ws us := by
    unfold zip3D n3
    rw [List.length_map, List.length_range, r1.len, r2.len, r3.len]
  refine ⟨fun i d e => ?_, fun i hi => ⟨k, by rw [← en]; exact hi⟩⟩
  have li := (List.getElem?_eq_some_iff.mp e).1
  have li2 := li
  unfold zip3D at li2
  rw [List.length_map, List.length_range] at li2
  have ed : d = D.tup [ds.getD i .non, es.getD i .non, fs.getD i .non] := by
    unfold zip3D at e
    rw [List.getElem?_map, List.getElem?_range li2] at e
    exact (Option.some.inj e).symm
  subst ed
  refine ⟨⟨k, by rw [← en]; exact li⟩, fun z H3 ⟨T, ez, hT, eH⟩ => ?_⟩
  subst ez
  subst eH
  obtain ⟨g, n⟩ := Go.laid (o := .tup (yv3 vs ws us i)) S hT
  exact ⟨g, .tup (.inl (.inl n)) (.cons (((rep_getd r1 i (by omega)).up ex).up g.ex) (.cons (((rep_getd r2 i (by omega)).up ex).up g.ex) (.cons (((rep_getd r3 i (by omega)).up ex).up g.ex) .nil)))⟩
theorem di_zip3 {X : Cx} {e e2 e3 : Expr} {tr : TA} {wr : WA} {p pos tpos : Pos} {elts : List Expr} {kk : Nat} (hm : X.mg "zip" = none) (ha : DA X [e, e2, e3] tr wr) (hg : Gl X "zip" := by rfl) (hs : starEach [e, e2, e3] X.env = (false, eval e X.env) :: starEach [e2, e3] X.env := by rfl) (hs2 : (backTo pos (starEach [e2, e3] X.env)).any (·.1) = false := by rfl) :
    DI X (.Tuple elts kk tpos) (.Call (.Name "zip" p) [e, e2, e3] [] pos) (iZip3 X.K tr) (wiZip3 wr) := by
  refine ⟨pi_zip3 hg hm ha.pe hs hs2, fun Z ρ M σ H R R' s hw q => ?_⟩
  refine ha.sm Z ρ M σ H _ _ s hw fun xs ds H1 M1 g1 r1 q1 => ?_
  split at q1
  · cases r1 with
    | cons r1 r2 =>
    cases r2 with
    | cons r2 r3 =>
    cases r3 with
    | cons r3 r4 =>
    cases r4
    cases r1 with
    | tup h1 l1 =>
    cases r2 with
    | tup h2 l2 =>
    cases r3 with
    | tup h3 l3 => exact ⟨_, _, _, _, _, _, rfl, sqt_mono fz_sub h1, sqt_mono fz_sub h2, sqt_mono fz_sub h3, q _ _ _ H1 M1 g1 (walks_z3 h1 l1 h2 l2 h3 l3) q1⟩
  · exact q1.elim
end L3
namespace L3
open PySem L2
/-! ### max of three ints -/
def mx3 (i j k : Int) : Int := if k > (if j > i then j else i) then k else if j > i then j else i
def f3I (g : Int → Int → Int → Int) : FC := fun ds M Q => match ds with
  | [.int i, .int j, .int k] => Q (.int (g i j k)) M
  | _ => False
theorem nu_lt (i j : Int) : nuLt (.int i) (.int j) = some (decide (i < j)) := rfl
theorem nu_max3 (i j k : Int) : nuMax3 (.int i) (.int j) (.int k) = some (.int (mx3 i j k)) := by
  have e1 : nuMax2 (.int i) (.int j) = some (.int (if j > i then j else i)) := by
    unfold nuMax2
    rw [nu_lt]
    show some (if decide (i < j) = true then V.int j else V.int i) = _
    by_cases h : i < j
    · rw [decide_eq_true h, if_pos rfl, if_pos h]
    · rw [decide_eq_false h, if_neg (by decide), if_neg h]
  unfold nuMax3
  rw [e1]
  show nuMax2 (.int (if j > i then j else i)) (.int k) = _
  unfold nuMax2
  rw [nu_lt]
  unfold mx3
  show some (if decide ((if j > i then j else i) < k) = true then V.int k else V.int (if j > i then j else i)) = _
  by_cases h : (if j > i then j else i) < k
  · rw [decide_eq_true h, if_pos rfl, if_pos h]
  · rw [decide_eq_false h, if_neg (by decide), if_neg h]
theorem sim_max3 {K : PySem.W.Frag} : SimC K (rNuC3 nuMax3) (f3I mx3) := by
  intro Z xs ds H M Q Q' S r f q
  unfold f3I at f
  split at f
  · cases r with
    | cons r1 r2 =>
    cases r2 with
    | cons r2 r3 =>
    cases r3 with
    | cons r3 r4 =>
    cases r4
    cases r1
    cases r2
    cases r3
    exact ⟨_, _, _, _, rfl, nu_max3 _ _ _, q _ _ H M (Go.refl S) (.int _) f⟩
  · exact f.elim
end L3
namespace L3
open PySem L2
/-! ### vectors, distances, what lies beyond: the mathematics -/
def vec (v : List Int) : D := .tup (v.map .int)
def partI (k : Str) (d : Int) : Int := if k = "square" then d * d else if k = "unlike" then (if d = 0 then 0 else 1) else if d < 0 then -d else d
def joinI (k : Str) (ns : List Int) : Int := if k = "most" then mxI ns else ns.sum
def subI (v u : List Int) : List Int := List.zipWith (fun a b => a - b) v u
def distI (k : Str) (v u : List Int) : Int := joinI k ((subI v u).map (partI k))
/-- small numbers -/
def sm (v : List Int) : Prop := v.length ≤ 64 ∧ ∀ a ∈ v, -1000000 ≤ a ∧ a ≤ 1000000
def nums (ps : List Nat) : List D := ps.map fun (p : Nat) => D.int (p : Int)
def small (ns : List Int) : Prop := ns.length ≤ 64 ∧ ∀ n ∈ ns, 0 ≤ n ∧ n ≤ 100000000000000
def rt (n : Int) : Int := (Float64.isqrt n.toNat : Nat)
def sq (k : Str) : Bool := decide (k = "square")
def nb (a : Int) : Prop := 0 ≤ a ∧ a < 2 ^ 50
def gapI (s : Bool) (a b : Int) : Int := if s then a + b - rt (4 * a * b) else if a - b < 0 then -(a - b) else a - b
def leastI (s : Bool) (a b : Int) : Int := if a ≤ b then 0 else gapI s a b
def mostI (s : Bool) (a b : Int) : Int := if s then a + b + rt (4 * a * b) else a + b
def reachB (s : Bool) (a b r : Int) : Bool := if s = false ∨ a - b - r ≤ 0 then decide (a - b - r ≤ 0) else decide ((a - b - r) * (a - b - r) ≤ 4 * b * r)
theorem mem_zw {v u : List Int} : ∀ {c : Int}, c ∈ subI v u → ∃ a ∈ v, ∃ b ∈ u, c = a - b := by
  unfold subI
  induction v generalizing u with
  | nil => intro c h; simp at h
  | cons a v ih =>
    intro c h
    cases u with
    | nil => simp at h
    | cons b u =>
      rw [List.zipWith_cons_cons] at h
      rcases List.mem_cons.mp h with rfl | h
      · exact ⟨a, List.mem_cons_self, b, List.mem_cons_self, rfl⟩
      · obtain ⟨a', ha, b', hb, e⟩ := ih h
        exact ⟨a', List.mem_cons_of_mem _ ha, b', List.mem_cons_of_mem _ hb, e⟩
theorem part_bound (k : Str) {d : Int} (h1 : -2000000 ≤ d) (h2 : d ≤ 2000000) : 0 ≤ partI k d ∧ partI k d ≤ 4000000000000 := by
  unfold partI
  split
  · constructor
    · rcases Int.le_total 0 d with z | z
      · exact Int.mul_nonneg z z
      · exact Int.mul_nonneg_of_nonpos_of_nonpos z z
    · rcases Int.le_total 0 d with z | z
      · have := Int.mul_le_mul h2 h2 z (by decide)
        omega
      · have := Int.mul_le_mul (a := -d) (b := -d) (c := 2000000) (d := 2000000) (by omega) (by omega) (by omega) (by decide)
        have e : -d * -d = d * d := by grind
        omega
  · split
    · split <;> omega
    · split <;> omega
theorem part_neg (k : Str) (d : Int) : partI k (-d) = partI k d := by
  unfold partI
  split
  · grind
  · split
    · split <;> split <;> omega
    · split <;> split <;> omega
theorem sub_len {v u : List Int} (hv : v.length ≤ 64) : (subI v u).length ≤ 64 := by
  unfold subI
  rw [List.length_zipWith]
  omega
theorem small_parts {k : Str} {v u : List Int} (hv : sm v) (hu : sm u) : small ((subI v u).map (partI k)) := by
  refine ⟨by rw [List.length_map]; exact sub_len hv.1, fun n hn => ?_⟩
  obtain ⟨c, hc, rfl⟩ := List.mem_map.mp hn
  obtain ⟨a, ha, b, hb, rfl⟩ := mem_zw hc
  have h1 := hv.2 a ha
  have h2 := hu.2 b hb
  have := part_bound k (d := a - b) (by omega) (by omega)
  omega
theorem rt_le {n : Int} (h : 0 ≤ n) : 0 ≤ rt n ∧ rt n * rt n ≤ n ∧ n < (rt n + 1) * (rt n + 1) := by
  have s := Float64.isqrt_spec n.toNat
  have e : (n.toNat : Int) = n := Int.toNat_of_nonneg h
  refine ⟨Int.natCast_nonneg _, ?_, ?_⟩
  · have z : ((Float64.isqrt n.toNat * Float64.isqrt n.toNat : Nat) : Int) ≤ (n.toNat : Int) := by exact_mod_cast s.1
    rw [e, Int.natCast_mul] at z
    exact z
  · have z : (n.toNat : Int) < (((Float64.isqrt n.toNat + 1) * (Float64.isqrt n.toNat + 1) : Nat) : Int) := by exact_mod_cast s.2
    rw [e, Int.natCast_mul, Int.natCast_add] at z
    exact z
theorem sq_lt {a b : Int} (ha : 0 ≤ a) (hb : 0 ≤ b) (h : a * a < b * b) : a < b := by
  rcases Int.lt_or_le a b with z | z
  · exact z
  · have := Int.mul_le_mul z z hb ha
    omega
theorem sq_le {a b : Int} (hb : 0 ≤ b) (h : a ≤ b) (ha : 0 ≤ a) : a * a ≤ b * b := Int.mul_le_mul h h ha hb
/-- the root is the one whose square is at most the number, and the next one's is not -/
theorem rt_is {n r : Int} (h : 0 ≤ r) (h1 : r * r ≤ n) (h2 : n < (r + 1) * (r + 1)) : rt n = r := by
  have h0 : 0 ≤ n := Int.le_trans (Int.mul_nonneg h h) h1
  obtain ⟨t0, t1, t2⟩ := rt_le h0
  have a1 : rt n < r + 1 := sq_lt t0 (by omega) (by omega)
  have a2 : r < rt n + 1 := sq_lt h (by omega) (by omega)
  omega
theorem rt_mono {m n : Int} (h0 : 0 ≤ m) (h : m ≤ n) : rt m ≤ rt n := by
  obtain ⟨t0, t1, t2⟩ := rt_le h0
  obtain ⟨u0, u1, u2⟩ := rt_le (Int.le_trans h0 h)
  have a1 : rt m < rt n + 1 := sq_lt t0 (by omega) (by omega)
  omega
theorem le_rt {u n : Int} (h0 : 0 ≤ n) (hu : 0 ≤ u) : u ≤ rt n ↔ u * u ≤ n := by
  obtain ⟨t0, t1, t2⟩ := rt_le h0
  constructor
  · intro h
    have := sq_le t0 h hu
    omega
  · intro h
    have a1 : u < rt n + 1 := sq_lt hu (by omega) (by omega)
    omega
theorem p4 {a b : Int} (ha : 0 ≤ a) (hb : 0 ≤ b) : 0 ≤ 4 * a * b := Int.mul_nonneg (by omega) hb
theorem gap_comm {s : Bool} {a b : Int} : gapI s a b = gapI s b a := by
  unfold gapI
  have e : 4 * a * b = 4 * b * a := by grind
  rw [e]
  cases s
  · simp only [Bool.false_eq_true, if_false]
    split <;> split <;> omega
  · simp only [if_true]
    omega
theorem gap_pos {s : Bool} {a b : Int} (ha : 0 ≤ a) (hb : 0 ≤ b) : 0 ≤ gapI s a b := by
  unfold gapI
  cases s
  · simp only [Bool.false_eq_true, if_false]
    split <;> omega
  · simp only [if_true]
    obtain ⟨t0, t1, t2⟩ := rt_le (p4 ha hb)
    have : 0 ≤ (a - b) * (a - b) := by
      rcases Int.le_total 0 (a - b) with z | z
      · exact Int.mul_nonneg z z
      · exact Int.mul_nonneg_of_nonpos_of_nonpos z z
    have e : (a - b) * (a - b) = (a + b) * (a + b) - 4 * a * b := by grind
    have : rt (4 * a * b) < a + b + 1 := sq_lt t0 (by omega) (by
      have e2 : (a + b + 1) * (a + b + 1) = (a + b) * (a + b) + 2 * (a + b) + 1 := by grind
      omega)
    omega
theorem most_pos {s : Bool} {a b : Int} (ha : 0 ≤ a) (hb : 0 ≤ b) : 0 ≤ mostI s a b := by
  unfold mostI
  cases s
  · simp only [Bool.false_eq_true, if_false]
    omega
  · simp only [if_true]
    have := (rt_le (p4 ha hb)).1
    omega
theorem least_pos {s : Bool} {a b : Int} (ha : 0 ≤ a) (hb : 0 ≤ b) : 0 ≤ leastI s a b := by
  unfold leastI
  split
  · omega
  · exact gap_pos ha hb
/-- what reaches: just what is at least the least beyond -/
theorem reach_iff {s : Bool} {a b r : Int} (ha : 0 ≤ a) (hb : 0 ≤ b) (hr : 0 ≤ r) : reachB s a b r = true ↔ leastI s a b ≤ r := by
  unfold reachB leastI gapI
  cases s
  · simp only [true_or, if_true, decide_eq_true_eq, Bool.false_eq_true, if_false]
    split
    · omega
    · split <;> omega
  · simp only [Bool.true_eq_false, false_or, if_true]
    obtain ⟨t0, t1, t2⟩ := rt_le (p4 ha hb)
    by_cases hab : a ≤ b
    · rw [if_pos hab, if_pos (by omega)]
      simp only [decide_eq_true_eq]
      omega
    · rw [if_neg hab]
      by_cases h : a - b - r ≤ 0
      · rw [if_pos h]
        simp only [decide_eq_true_eq]
        have : 2 * b ≤ rt (4 * a * b) := (le_rt (p4 ha hb) (by omega)).mpr (by
          have e : (2 * b) * (2 * b) = 4 * b * b := by grind
          have : 4 * b * b ≤ 4 * a * b := Int.mul_le_mul_of_nonneg_right (by omega) hb
          omega)
        omega
      · rw [if_neg h]
        simp only [decide_eq_true_eq]
        have e : (a - b - r) * (a - b - r) - 4 * b * r = (a + b - r) * (a + b - r) - 4 * a * b := by grind
        have k := le_rt (u := a + b - r) (p4 ha hb) (by omega)
        constructor
        · intro z
          have := k.mpr (by omega)
          omega
        · intro z
          have := k.mp (by omega)
          omega
theorem reach_comm {s : Bool} {a b r : Int} : reachB s a b r = reachB s a r b := by
  unfold reachB
  have e1 : a - b - r = a - r - b := by omega
  have e2 : 4 * b * r = 4 * r * b := by grind
  rw [e1, e2]
theorem reach_is {s : Bool} {a b r : Int} (ha : 0 ≤ a) (hb : 0 ≤ b) (hr : 0 ≤ r) : reachB s a b r = decide (leastI s a b ≤ r) := by
  have z := reach_iff (s := s) ha hb hr
  cases h : reachB s a b r
  · rw [h] at z
    exact (decide_eq_false (fun q => nomatch z.mpr q)).symm
  · exact (decide_eq_true (z.mp h)).symm
/-- a greater one's least beyond is the gap -/
theorem least_gap {s : Bool} {a b : Int} (h : b ≤ a) (hb : 0 ≤ b) : leastI s a b = gapI s a b := by
  unfold leastI
  split
  · have e : a = b := by omega
    subst e
    unfold gapI
    cases s
    · simp
    · simp only [if_true]
      have : rt (4 * a * a) = 2 * a := rt_is (by omega) (by grind) (by grind)
      omega
  · rfl
/-- the most: as far as it reaches -/
theorem most_reach {s : Bool} {a b : Int} (ha : 0 ≤ a) (hb : 0 ≤ b) : reachB s (mostI s a b) a b = true ∧ reachB s (mostI s a b + 1) a b = false := by
  unfold reachB mostI
  cases s
  · simp only [true_or, if_true, decide_eq_true_eq, Bool.false_eq_true, if_false, decide_eq_false_iff_not]
    constructor <;> omega
  · simp only [Bool.true_eq_false, false_or, if_true]
    obtain ⟨t0, t1, t2⟩ := rt_le (p4 ha hb)
    have e1 : a + b + rt (4 * a * b) - a - b = rt (4 * a * b) := by omega
    have e2 : a + b + rt (4 * a * b) + 1 - a - b = rt (4 * a * b) + 1 := by omega
    rw [e1, e2]
    constructor
    · split
      · exact decide_eq_true (by omega)
      · exact decide_eq_true t1
    · rw [if_neg (by omega)]
      exact decide_eq_false (by omega)
theorem least_most {s : Bool} {a b : Int} (ha : 0 ≤ a) (hb : 0 ≤ b) : leastI s a b ≤ mostI s a b := by
  unfold leastI mostI gapI
  have := (rt_le (p4 ha hb)).1
  cases s
  · simp only [Bool.false_eq_true, if_false]
    split
    · omega
    · split <;> omega
  · simp only [if_true]
    split <;> omega
theorem reach_more {s : Bool} {a b r m : Int} (hb : 0 ≤ b) (hr : 0 ≤ r) (hm : 0 ≤ m) (h : reachB s a b r = true) : reachB s a (b + m) r = true := by
  unfold reachB at h ⊢
  cases s
  · simp only [true_or, if_true, decide_eq_true_eq] at h ⊢
    omega
  · simp only [Bool.true_eq_false, false_or] at h ⊢
    by_cases z : a - (b + m) - r ≤ 0
    · rw [if_pos z]
      exact decide_eq_true z
    · rw [if_neg z]
      rw [if_neg (by omega)] at h
      have h := of_decide_eq_true h
      have k := sq_le (a := a - (b + m) - r) (b := a - b - r) (by omega) (by omega) (by omega)
      have k2 : 4 * b * r ≤ 4 * (b + m) * r := Int.mul_le_mul_of_nonneg_right (by omega) hr
      exact decide_eq_true (by omega)
theorem reach_near {s : Bool} {a b r m : Int} (hm : 0 ≤ m) (h : reachB s (a + m) b r = true) : reachB s a b r = true := by
  unfold reachB at h ⊢
  cases s
  · simp only [true_or, if_true, decide_eq_true_eq] at h ⊢
    omega
  · simp only [Bool.true_eq_false, false_or] at h ⊢
    by_cases z : a - b - r ≤ 0
    · rw [if_pos z]
      exact decide_eq_true z
    · rw [if_neg z]
      rw [if_neg (by omega)] at h
      have h := of_decide_eq_true h
      have k := sq_le (a := a - b - r) (b := a + m - b - r) (by omega) (by omega) (by omega)
      exact decide_eq_true (by omega)
theorem least_more {s : Bool} {a b m : Int} (ha : 0 ≤ a) (hb : 0 ≤ b) (hm : 0 ≤ m) : leastI s a (b + m) ≤ leastI s a b :=
  (reach_iff ha (by omega) (least_pos ha hb)).mp (reach_more hb (least_pos ha hb) hm ((reach_iff ha hb (least_pos ha hb)).mpr (Int.le_refl _)))
theorem least_near {s : Bool} {a b m : Int} (ha : 0 ≤ a) (hb : 0 ≤ b) (hm : 0 ≤ m) : leastI s a b ≤ leastI s (a + m) b :=
  (reach_iff ha hb (least_pos (by omega) hb)).mp (reach_near hm ((reach_iff (by omega) hb (least_pos (by omega) hb)).mpr (Int.le_refl _)))
theorem most_more {s : Bool} {a b m : Int} (ha : 0 ≤ a) (hb : 0 ≤ b) (hm : 0 ≤ m) : mostI s a b ≤ mostI s a (b + m) ∧ mostI s a b ≤ mostI s (a + m) b := by
  unfold mostI
  cases s
  · simp only [Bool.false_eq_true, if_false]
    omega
  · simp only [if_true]
    have h1 : rt (4 * a * b) ≤ rt (4 * a * (b + m)) := rt_mono (p4 ha hb) (Int.mul_le_mul_of_nonneg_left (by omega) (by omega))
    have h2 : rt (4 * a * b) ≤ rt (4 * (a + m) * b) := rt_mono (p4 ha hb) (Int.mul_le_mul_of_nonneg_right (by omega) hb)
    omega
theorem sum_nn : ∀ {l : List Int}, (∀ n ∈ l, 0 ≤ n) → 0 ≤ l.sum
  | [], _ => Int.le_refl 0
  | x :: l, h => by
    have h1 := sum_nn (l := l) fun n hn => h n (List.mem_cons_of_mem _ hn)
    have h2 := h x List.mem_cons_self
    rw [List.sum_cons]
    omega
theorem join_nn (k : Str) {a : List Int} (h : ∀ n ∈ a, 0 ≤ n) : 0 ≤ joinI k a := by
  unfold joinI
  split
  · exact mxI_pos a
  · exact sum_nn h
theorem mxI_app (a b : List Int) : mxI (a ++ b) = if mxI b ≤ mxI a then mxI a else mxI b := by
  induction a with
  | nil =>
    have := mxI_pos b
    show mxI b = if mxI b ≤ 0 then 0 else mxI b
    split <;> omega
  | cons x a ih =>
    show (if mxI (a ++ b) ≤ x then x else mxI (a ++ b)) = if mxI b ≤ (if mxI a ≤ x then x else mxI a) then (if mxI a ≤ x then x else mxI a) else mxI b
    rw [ih]
    split <;> split <;> (try split) <;> (try split) <;> omega
theorem join_zero (k : Str) {a : List Int} (h : ∀ n ∈ a, 0 ≤ n) : joinI k a = 0 ↔ ∀ n ∈ a, n = 0 := by
  induction a with
  | nil => exact ⟨fun _ n hn => (by cases hn), fun _ => (by unfold joinI; split <;> rfl)⟩
  | cons x a ih =>
    have ha : ∀ n ∈ a, 0 ≤ n := fun n hn => h n (List.mem_cons_of_mem _ hn)
    have ih := ih ha
    have hx := h x List.mem_cons_self
    have p0 := join_nn k ha
    have e : joinI k (x :: a) = 0 ↔ x = 0 ∧ joinI k a = 0 := by
      unfold joinI at p0 ⊢
      by_cases hk : k = "most"
      · simp only [if_pos hk] at p0 ⊢
        show (if mxI a ≤ x then x else mxI a) = 0 ↔ _
        split <;> omega
      · simp only [if_neg hk] at p0 ⊢
        rw [List.sum_cons]
        omega
    rw [e, ih]
    constructor
    · rintro ⟨h1, h2⟩ n hn
      rcases List.mem_cons.mp hn with rfl | hn
      · exact h1
      · exact h2 n hn
    · exact fun q => ⟨q x List.mem_cons_self, fun n hn => q n (List.mem_cons_of_mem _ hn)⟩
theorem eqD_vec (v u : List Int) : eqD (vec v) (vec u) = decide (v = u) := by
  induction v generalizing u with
  | nil => cases u <;> rfl
  | cons a v ih =>
    cases u with
    | nil => rfl
    | cons b u =>
      have e : eqD (vec (a :: v)) (vec (b :: u)) = (decide (a = b) && eqD (vec v) (vec u)) := rfl
      rw [e, ih]
      by_cases h : a = b <;> by_cases h2 : v = u <;> simp [h, h2]
theorem eqD_ints (v u : List Int) : eqD (.lst (v.map .int)) (.lst (u.map .int)) = decide (v = u) := by
  have z := eqD_vec v u
  exact z
theorem eqV_vec {M : Mp} {neg : Bool} {x y : List Int} {Q : KD} : eqV neg (vec x) (vec y) M Q ↔ Q (.bl (if neg then !decide (x = y) else decide (x = y))) M := by
  have e : res M (vec x) = vec x := rfl
  have e2 : res M (vec y) = vec y := rfl
  have f1 : ∀ x : List Int, fit 3 (vec x) := fun x => by simp [fit, vec]
  refine Iff.trans (b := eqD2 neg (vec x) (vec y) M Q) Iff.rfl ?_
  unfold eqD2
  rw [e, e2, eqD_vec]
  exact ⟨fun h => h.2, fun h => ⟨⟨3, by decide, f1 x, f1 y⟩, h⟩⟩
theorem eqV_ints {M : Mp} {neg : Bool} {x y : List Int} {Q : KD} : eqV neg (.lst (x.map .int)) (.lst (y.map .int)) M Q ↔ Q (.bl (if neg then !decide (x = y) else decide (x = y))) M := by
  have f1 : ∀ x : List Int, fit 3 (.lst (x.map .int)) := fun x => by simp [fit]
  refine Iff.trans (b := eqD2 neg (.lst (x.map .int)) (.lst (y.map .int)) M Q) Iff.rfl ?_
  unfold eqD2
  show (∃ n, n ≤ 60 ∧ fit n (.lst (x.map .int)) ∧ fit n (.lst (y.map .int))) ∧ Q (.bl (if neg then !eqD (.lst (x.map .int)) (.lst (y.map .int)) else eqD (.lst (x.map .int)) (.lst (y.map .int)))) M ↔ _
  rw [eqD_ints]
  exact ⟨fun h => h.2, fun h => ⟨⟨3, by decide, f1 x, f1 y⟩, h⟩⟩
theorem len_vec {M : Mp} {v : List Int} {Q : KD} : fLen [vec v] M Q ↔ Q (.int (v.length : Int)) M := by
  constructor
  · rintro ⟨es, h, q⟩
    cases h
    rw [List.length_map] at q
    exact q
  · exact fun q => ⟨v.map .int, rfl, by rw [List.length_map]; exact q⟩
theorem lc_nums {we : WE} {ρ : En} {M : Mp} {Q : KD} {j : Nat} (h : Nat → Int) (ps : List Nat) (hn : ps.length ≤ 1000) (hs : ∀ i ∈ ps, ∀ K : KD, K (.int (h i)) M → we (ρ.set j (some (.int (i : Int)))) M K)
    (q : Q (.lst ((ps.map h).map .int)) M) : wLcL (wgName j) wYes we AnyM ρ (nums ps) [] M Q := by
  refine lc_pure (fun d => match d with | .int i => .int (h i.toNat) | _ => .non) True.intro _ [] ?_ (fun d hd K hK => ?_) ?_
  · unfold nums
    rw [List.length_map]
    simp only [List.length_nil]
    omega
  · obtain ⟨p, hp, rfl⟩ := List.mem_map.mp hd
    exact hs p hp K hK
  · have e : (nums ps).map (fun d => match d with | .int i => D.int (h i.toNat) | _ => .non) = (ps.map h).map D.int := by
      unfold nums
      rw [List.map_map, List.map_map]
      rfl
    rw [List.nil_append, e]
    exact q
theorem ix_at {M : Mp} {L : List D} {i : Nat} {x : D} {Q : KD} (h : L[i]? = some x) (q : Q x M) : ixD (.lst L) (.int (i : Int)) M Q := by
  have li := (List.getElem?_eq_some_iff.mp h).1
  refine ⟨L, x, rfl, ?_, q⟩
  unfold atI ixN
  simp [li]
  rw [List.getElem?_eq_getElem li] at h
  exact Option.some.inj h
end L3
namespace L3
open PySem L2
def atI' (v : List Int) (ps : List Nat) : List Int := ps.map fun p => v.getD p 0
def gI (k : Str) (v u : List Int) (i : Nat) : Int := partI k (v.getD i 0 - u.getD i 0)
theorem sub_at (v u : List Int) (ps : List Nat) : subI (atI' v ps) (atI' u ps) = ps.map fun i => v.getD i 0 - u.getD i 0 := by
  unfold subI atI'
  induction ps with
  | nil => rfl
  | cons p ps ih => rw [List.map_cons, List.map_cons, List.zipWith_cons_cons, ih, List.map_cons]
theorem at_range (v : List Int) : atI' v (List.range v.length) = v := by
  unfold atI'
  refine List.ext_getElem? fun n => ?_
  rw [List.getElem?_map]
  by_cases h : n < v.length
  · rw [List.getElem?_range h, List.getElem?_eq_getElem h]
    show some (v.getD n 0) = _
    rw [List.getD_eq_getElem?_getD, List.getElem?_eq_getElem h]
    rfl
  · rw [List.getElem?_eq_none (by rw [List.length_range]; omega), List.getElem?_eq_none (by omega)]
    rfl
theorem dist_at (k : Str) (v u : List Int) (ps : List Nat) : distI k (atI' v ps) (atI' u ps) = joinI k (ps.map (gI k v u)) := by
  unfold distI
  rw [sub_at, List.map_map]
  rfl
theorem dist_all (k : Str) {v u : List Int} (h : v.length = u.length) : distI k v u = joinI k ((List.range v.length).map (gI k v u)) := by
  have e := dist_at k v u (List.range v.length)
  rw [at_range] at e
  rw [h, at_range] at e
  rw [h]
  exact e
theorem sub_swap (v u : List Int) : subI u v = (subI v u).map fun d => -d := by
  unfold subI
  induction v generalizing u with
  | nil => cases u <;> rfl
  | cons a v ih =>
    cases u with
    | nil => rfl
    | cons b u =>
      rw [List.zipWith_cons_cons, List.zipWith_cons_cons, List.map_cons, ih]
      have e : b - a = -(a - b) := by omega
      rw [e]
theorem dist_comm (k : Str) (v u : List Int) : distI k u v = distI k v u := by
  unfold distI
  rw [sub_swap, List.map_map]
  have e : (partI k ∘ fun d => -d) = partI k := funext fun d => part_neg k d
  rw [e]
theorem part_nn (k : Str) (d : Int) : 0 ≤ partI k d := by
  unfold partI
  split
  · rcases Int.le_total 0 d with z | z
    · exact Int.mul_nonneg z z
    · exact Int.mul_nonneg_of_nonpos_of_nonpos z z
  · split
    · split <;> omega
    · split <;> omega
theorem dist_nn (k : Str) (v u : List Int) : 0 ≤ distI k v u := by
  unfold distI
  refine join_nn k fun n hn => ?_
  obtain ⟨d, _, rfl⟩ := List.mem_map.mp hn
  exact part_nn k d
theorem part_tri {k : Str} (hk : k ≠ "square") (a c b : Int) : partI k (a - b) ≤ partI k (a - c) + partI k (c - b) := by
  unfold partI
  rw [if_neg hk, if_neg hk, if_neg hk]
  split
  · split <;> split <;> split <;> omega
  · split <;> split <;> split <;> omega
theorem dist_cons (k : Str) (a b : Int) (v u : List Int) : distI k (a :: v) (b :: u) = if k = "most" then (if distI k v u ≤ partI k (a - b) then partI k (a - b) else distI k v u) else partI k (a - b) + distI k v u := by
  unfold distI subI joinI
  rw [List.zipWith_cons_cons, List.map_cons]
  by_cases h : k = "most"
  · simp only [if_pos h]
    rfl
  · simp only [if_neg h]
    rw [List.sum_cons]
theorem dist_nil (k : Str) : distI k [] [] = 0 := by
  unfold distI subI joinI
  split <;> rfl
/-- no detour is shorter (all kinds but one) -/
theorem tri_ns {k : Str} (hk : k ≠ "square") : ∀ {v c u : List Int}, v.length = c.length → c.length = u.length → distI k v u ≤ distI k v c + distI k c u
  | [], [], [], _, _ => by rw [dist_nil]; omega
  | a :: v, x :: c, b :: u, h1, h2 => by
    have ih := tri_ns hk (v := v) (c := c) (u := u) (by simpa using h1) (by simpa using h2)
    have p := part_tri hk a x b
    have n1 := part_nn k (a - x)
    have n2 := part_nn k (x - b)
    rw [dist_cons, dist_cons, dist_cons]
    by_cases h : k = "most"
    · simp only [if_pos h]
      split <;> split <;> split <;> omega
    · simp only [if_neg h]
      omega
/-! the squares -/
def ssq : List Int → List Int → Int
  | a :: v, b :: u => (a - b) * (a - b) + ssq v u
  | _, _ => 0
def dotd : List Int → List Int → List Int → Int
  | a :: v, x :: c, b :: u => (a - x) * (x - b) + dotd v c u
  | _, _, _ => 0
theorem dist_ssq : ∀ {v u : List Int}, v.length = u.length → distI "square" v u = ssq v u
  | [], [], _ => dist_nil _
  | a :: v, b :: u, h => by
    rw [dist_cons, dist_ssq (by simpa using h), if_neg (by decide +kernel)]
    have e : partI "square" (a - b) = (a - b) * (a - b) := by
      unfold partI
      rw [if_pos rfl]
    rw [e]
    rfl
theorem ssq_nn : ∀ (v u : List Int), 0 ≤ ssq v u
  | [], _ => by simp [ssq]
  | _ :: _, [] => by simp [ssq]
  | a :: v, b :: u => by
    have ih := ssq_nn v u
    have e : 0 ≤ (a - b) * (a - b) := by
      rcases Int.le_total 0 (a - b) with z | z
      · exact Int.mul_nonneg z z
      · exact Int.mul_nonneg_of_nonpos_of_nonpos z z
    unfold ssq
    omega
theorem ssq_split : ∀ {v c u : List Int}, v.length = c.length → c.length = u.length → ssq v u = ssq v c + ssq c u + 2 * dotd v c u
  | [], [], [], _, _ => by simp [ssq, dotd]
  | a :: v, x :: c, b :: u, h1, h2 => by
    have ih := ssq_split (v := v) (c := c) (u := u) (by simpa using h1) (by simpa using h2)
    unfold ssq dotd
    rw [ih]
    grind
theorem sq_nn (a : Int) : 0 ≤ a * a := by
  rcases Int.le_total 0 a with z | z
  · exact Int.mul_nonneg z z
  · exact Int.mul_nonneg_of_nonpos_of_nonpos z z
/-- what has no greater square is no greater -/
theorem le_of_sq {a b : Int} (hb : 0 ≤ b) (h : a * a ≤ b * b) : a ≤ b := by
  rcases Int.lt_or_le b a with z | z
  · have k := Int.mul_le_mul (a := b + 1) (b := b + 1) (c := a) (d := a) (by omega) (by omega) (by omega) (by omega)
    have e : (b + 1) * (b + 1) = b * b + 2 * b + 1 := by grind
    omega
  · exact z
theorem cauchy : ∀ (v c u : List Int), dotd v c u * dotd v c u ≤ ssq v c * ssq c u
  | [], _, _ => by simp [ssq, dotd]
  | _ :: _, [], _ => by simp [ssq, dotd]
  | _ :: _, x :: c, [] => by simp [ssq, dotd]
  | a :: v, x :: c, b :: u => by
    have ih := cauchy v c u
    obtain ⟨p, hp⟩ : ∃ p, p = dotd v c u := ⟨_, rfl⟩
    obtain ⟨s, hs⟩ : ∃ s, s = ssq v c := ⟨_, rfl⟩
    obtain ⟨t, ht⟩ : ∃ t, t = ssq c u := ⟨_, rfl⟩
    have s0 : 0 ≤ s := hs ▸ ssq_nn v c
    have t0 : 0 ≤ t := ht ▸ ssq_nn c u
    obtain ⟨y, hy⟩ : ∃ y, y = a - x := ⟨_, rfl⟩
    obtain ⟨z, hz⟩ : ∃ z, z = x - b := ⟨_, rfl⟩
    show ((a - x) * (x - b) + dotd v c u) * ((a - x) * (x - b) + dotd v c u) ≤ ((a - x) * (a - x) + ssq v c) * ((x - b) * (x - b) + ssq c u)
    rw [← hp, ← hs, ← ht, ← hy, ← hz]
    rw [← hp, ← hs, ← ht] at ih
    have k : 2 * (y * z * p) ≤ y * y * t + z * z * s := by
      refine le_of_sq (Int.add_nonneg (Int.mul_nonneg (sq_nn y) t0) (Int.mul_nonneg (sq_nn z) s0)) ?_
      have e1 : 2 * (y * z * p) * (2 * (y * z * p)) = 4 * ((y * z) * (y * z)) * (p * p) := by grind
      have e2 : 4 * ((y * z) * (y * z)) * (p * p) ≤ 4 * ((y * z) * (y * z)) * (s * t) := Int.mul_le_mul_of_nonneg_left ih (Int.mul_nonneg (by decide) (sq_nn (y * z)))
      have e3 : 0 ≤ (y * y * t - z * z * s) * (y * y * t - z * z * s) := sq_nn _
      have e4 : (y * y * t + z * z * s) * (y * y * t + z * z * s) = (y * y * t - z * z * s) * (y * y * t - z * z * s) + 4 * ((y * z) * (y * z)) * (s * t) := by grind
      omega
    have e5 : (y * z + p) * (y * z + p) = y * y * (z * z) + 2 * (y * z * p) + p * p := by grind
    have e6 : (y * y + s) * (z * z + t) = y * y * (z * z) + (y * y * t + z * z * s) + s * t := by grind
    omega
/-- the distance of two from the ones to a third one -/
theorem dist_tri {k : Str} {v c u : List Int} (h1 : v.length = c.length) (h2 : c.length = u.length) : gapI (sq k) (distI k v c) (distI k c u) ≤ distI k v u ∧ distI k v u ≤ mostI (sq k) (distI k v c) (distI k c u) := by
  by_cases hk : k = "square"
  · subst hk
    have es : sq "square" = true := by
      unfold sq
      decide +kernel
    rw [es, dist_ssq h1, dist_ssq h2, dist_ssq (h1.trans h2), ssq_split h1 h2]
    have a0 := ssq_nn v c
    have b0 := ssq_nn c u
    have cs := cauchy v c u
    unfold gapI mostI
    simp only [if_true]
    obtain ⟨a, ha⟩ : ∃ a, a = ssq v c := ⟨_, rfl⟩
    obtain ⟨b, hb⟩ : ∃ b, b = ssq c u := ⟨_, rfl⟩
    obtain ⟨p, hp⟩ : ∃ p, p = dotd v c u := ⟨_, rfl⟩
    rw [← ha, ← hb, ← hp]
    rw [← ha] at a0
    rw [← hb] at b0
    rw [← ha, ← hb, ← hp] at cs
    have q0 := p4 a0 b0
    have r0 := (rt_le q0).1
    have e1 : (2 * p) * (2 * p) = 4 * (p * p) := by grind
    have e2 : 4 * a * b = 4 * (a * b) := by grind
    have k1 : 2 * p ≤ rt (4 * a * b) := by
      rcases Int.le_total 0 (2 * p) with z | z
      · exact (le_rt q0 z).mpr (by omega)
      · omega
    have k2 : -(2 * p) ≤ rt (4 * a * b) := by
      rcases Int.le_total 0 (-(2 * p)) with z | z
      · refine (le_rt q0 z).mpr ?_
        have e3 : -(2 * p) * -(2 * p) = (2 * p) * (2 * p) := by grind
        omega
      · omega
    omega
  · have es : sq k = false := by
      unfold sq
      exact decide_eq_false hk
    have t1 := tri_ns hk h1 h2
    have t2 := tri_ns hk (v := v) (c := u) (u := c) (h1.trans h2) h2.symm
    have t3 := tri_ns hk (v := c) (c := v) (u := u) h1.symm (h1.trans h2)
    rw [dist_comm k c u] at t2
    rw [dist_comm k v c] at t3
    rw [es]
    unfold gapI mostI
    simp only [Bool.false_eq_true, if_false]
    split <;> omega
theorem least_gap_le {s : Bool} {a b : Int} (ha : 0 ≤ a) (hb : 0 ≤ b) : leastI s a b ≤ gapI s a b := by
  unfold leastI
  split
  · exact gap_pos ha hb
  · exact Int.le_refl _
/-- within a radius -/
theorem dist_ball {k : Str} {v c u : List Int} {r : Int} (h1 : v.length = c.length) (h2 : c.length = u.length) (h : distI k c u ≤ r) : leastI (sq k) (distI k v c) r ≤ distI k v u ∧ distI k v u ≤ mostI (sq k) (distI k v c) r := by
  obtain ⟨t1, t2⟩ := dist_tri (k := k) h1 h2
  have a0 := dist_nn k v c
  have b0 := dist_nn k c u
  have l1 := least_more (s := sq k) (m := r - distI k c u) a0 b0 (by omega)
  have l2 := most_more (s := sq k) (m := r - distI k c u) a0 b0 (by omega)
  have e : distI k c u + (r - distI k c u) = r := by omega
  rw [e] at l1 l2
  have l3 := least_gap_le (s := sq k) a0 b0
  exact ⟨Int.le_trans l1 (Int.le_trans l3 t1), Int.le_trans t2 l2.1⟩
/-- beyond an inner rim -/
theorem dist_rim {k : Str} {v c u : List Int} {a : Int} (h1 : v.length = c.length) (h2 : c.length = u.length) (h : a ≤ distI k c u) (h3 : distI k v c < a) : gapI (sq k) a (distI k v c) ≤ distI k v u := by
  obtain ⟨t1, t2⟩ := dist_tri (k := k) h1 h2
  have a0 := dist_nn k v c
  have l1 := least_near (s := sq k) (a := a) (b := distI k v c) (m := distI k c u - a) (by omega) a0 (by omega)
  have e : a + (distI k c u - a) = distI k c u := by omega
  rw [e, least_gap (by omega) a0, least_gap (by omega) a0] at l1
  rw [gap_comm (a := distI k c u)] at l1
  exact Int.le_trans l1 t1
/-! ### joining -/
theorem join_mono (k : Str) {ps : List Nat} {f g : Nat → Int} (h : ∀ i ∈ ps, f i ≤ g i) : joinI k (ps.map f) ≤ joinI k (ps.map g) := by
  unfold joinI
  induction ps with
  | nil => exact Int.le_refl _
  | cons p ps ih =>
    have ih := ih fun i hi => h i (List.mem_cons_of_mem _ hi)
    have hp := h p List.mem_cons_self
    by_cases e : k = "most"
    · simp only [if_pos e] at ih ⊢
      show (if mxI (ps.map f) ≤ f p then f p else mxI (ps.map f)) ≤ (if mxI (ps.map g) ≤ g p then g p else mxI (ps.map g))
      split <;> split <;> omega
    · simp only [if_neg e] at ih ⊢
      rw [List.map_cons, List.map_cons, List.sum_cons, List.sum_cons]
      omega
theorem part_le (k : Str) {a b : Int} (h : 0 ≤ a) (h2 : a ≤ b ∨ a ≤ -b) : partI k a ≤ partI k b := by
  unfold partI
  split
  · rcases h2 with z | z
    · exact Int.mul_le_mul z z h (by omega)
    · have e : b * b = -b * -b := by grind
      rw [e]
      exact Int.mul_le_mul z z h (by omega)
  · split
    · split <;> split <;> omega
    · split <;> split <;> omega
theorem part_ge (k : Str) {a b : Int} (h1 : -a ≤ b) (h2 : b ≤ a) : partI k b ≤ partI k a := by
  rcases Int.le_total 0 b with z | z
  · exact part_le k z (.inl h2)
  · rw [← part_neg k b]
    exact part_le k (by omega) (.inl (by omega))
/-! ### regions -/
inductive Rg where
  | ball (c : List Int) (r : Int) | box (l h : List Int) | cell (c : List Int) (a b : Int)
def Rg.d : Rg → D
  | .ball c r => .tup [.str "ball", vec c, .int r]
  | .box l h => .tup [.str "box", vec l, vec h]
  | .cell c a b => .tup [.str "cell", vec c, .int a, .int b]
def Rg.mid : Rg → List Int
  | .ball c _ => c
  | .box l _ => l
  | .cell c _ _ => c
/-- vectors of so many places with parts to B -/
def vk (p : Nat) (B : Int) (v : List Int) : Prop := v.length = p ∧ ∀ a ∈ v, -B ≤ a ∧ a ≤ B
def rgOk (p : Nat) : Rg → Prop
  | .ball c r => vk p 50000 c ∧ 0 ≤ r ∧ r ≤ 1000000000
  | .box l h => vk p 50000 l ∧ vk p 50000 h ∧ ∀ i, i < p → l.getD i 0 ≤ h.getD i 0
  | .cell c a b => vk p 50000 c ∧ 0 ≤ a ∧ a ≤ b ∧ b ≤ 1000000000
def inBox (l h u : List Int) : Bool := (List.range (min (min l.length u.length) h.length)).all fun i => decide (l.getD i 0 ≤ u.getD i 0 ∧ u.getD i 0 ≤ h.getD i 0)
def holdB (k : Str) : Rg → List Int → Bool
  | .box l h, u => inBox l h u
  | .ball c r, u => decide (distI k c u ≤ r)
  | .cell c a b, u => decide (a ≤ distI k c u ∧ distI k c u ≤ b)
def nearL (l h v : List Int) : List Int := (List.range (min (min l.length h.length) v.length)).map fun i => mx3 (l.getD i 0 - v.getD i 0) (v.getD i 0 - h.getD i 0) 0
def mx2 (i j : Int) : Int := if j > i then j else i
def farL (l h v : List Int) : List Int := (List.range (min (min l.length h.length) v.length)).map fun i => mx2 (v.getD i 0 - l.getD i 0) (h.getD i 0 - v.getD i 0)
def floorI (k : Str) : Rg → List Int → Int
  | .box l h, v => joinI k ((nearL l h v).map (partI k))
  | .ball c r, v => leastI (sq k) (distI k c v) r
  | .cell c a b, v => if distI k c v < a then gapI (sq k) a (distI k c v) else leastI (sq k) (distI k c v) b
def lenMin (k : Str) (v : List Int) (m : Int) : Int := if k = "unlike" then (if (v.length : Int) < m then (v.length : Int) else m) else m
def ceilI (k : Str) : Rg → List Int → Int
  | .box l h, v => joinI k ((farL l h v).map (partI k))
  | .ball c r, v => lenMin k v (mostI (sq k) (distI k c v) r)
  | .cell c _ b, v => lenMin k v (mostI (sq k) (distI k c v) b)
theorem unlike_len : ∀ {v u : List Int}, v.length = u.length → distI "unlike" v u ≤ (v.length : Int)
  | [], [], _ => by rw [dist_nil]; simp
  | a :: v, b :: u, h => by
    have ih := unlike_len (v := v) (u := u) (by simpa using h)
    rw [dist_cons, if_neg (by decide +kernel), List.length_cons]
    have e : partI "unlike" (a - b) ≤ 1 := by
      unfold partI
      rw [if_neg (by decide +kernel), if_pos rfl]
      split <;> omega
    omega
theorem box_at {p : Nat} {l h u : List Int} (hl : l.length = p) (hh : h.length = p) (hu : u.length = p) : inBox l h u = true ↔ ∀ i, i < p → l.getD i 0 ≤ u.getD i 0 ∧ u.getD i 0 ≤ h.getD i 0 := by
  unfold inBox
  rw [hl, hh, hu, List.all_eq_true]
  have e : min (min p p) p = p := by omega
  rw [e]
  constructor
  · intro z i hi
    exact of_decide_eq_true (z i (List.mem_range.mpr hi))
  · intro z i hi
    exact decide_eq_true (z i (List.mem_range.mp hi))
theorem dist_ix {k : Str} {p : Nat} {v u : List Int} (hv : v.length = p) (hu : u.length = p) : distI k v u = joinI k ((List.range p).map fun i => partI k (v.getD i 0 - u.getD i 0)) := by
  have e := dist_all k (hv.trans hu.symm)
  rw [hv] at e
  exact e
theorem near_ix {k : Str} {p : Nat} {l h v : List Int} (hl : l.length = p) (hh : h.length = p) (hv : v.length = p) : joinI k ((nearL l h v).map (partI k)) = joinI k ((List.range p).map fun i => partI k (mx3 (l.getD i 0 - v.getD i 0) (v.getD i 0 - h.getD i 0) 0)) := by
  unfold nearL
  rw [List.map_map, hl, hh, hv]
  have e : min (min p p) p = p := by omega
  rw [e]
  rfl
theorem far_ix {k : Str} {p : Nat} {l h v : List Int} (hl : l.length = p) (hh : h.length = p) (hv : v.length = p) : joinI k ((farL l h v).map (partI k)) = joinI k ((List.range p).map fun i => partI k (mx2 (v.getD i 0 - l.getD i 0) (h.getD i 0 - v.getD i 0))) := by
  unfold farL
  rw [List.map_map, hl, hh, hv]
  have e : min (min p p) p = p := by omega
  rw [e]
  rfl
/-- what a region holds is neither nearer nor farther -/
theorem held_between {k : Str} {p : Nat} {r : Rg} {v u : List Int} (ok : rgOk p r) (hv : v.length = p) (hu : u.length = p) (h : holdB k r u = true) : floorI k r v ≤ distI k v u ∧ distI k v u ≤ ceilI k r v := by
  have lm : ∀ m : Int, distI k v u ≤ m → distI k v u ≤ lenMin k v m := fun m hm => by
    unfold lenMin
    split
    · rename_i e
      subst e
      have := unlike_len (hv.trans hu.symm)
      split <;> omega
    · exact hm
  cases r with
  | ball c r =>
    have hc := ok.1.1
    have h' : distI k c u ≤ r := of_decide_eq_true h
    have z := dist_ball (v := v) (hv.trans hc.symm) (hc.trans hu.symm) h'
    show leastI (sq k) (distI k c v) r ≤ _ ∧ _ ≤ lenMin k v (mostI (sq k) (distI k c v) r)
    rw [dist_comm k v c]
    exact ⟨z.1, lm _ z.2⟩
  | cell c a b =>
    have hc := ok.1.1
    have h' : a ≤ distI k c u ∧ distI k c u ≤ b := of_decide_eq_true h
    have z := dist_ball (v := v) (hv.trans hc.symm) (hc.trans hu.symm) h'.2
    show (if distI k c v < a then gapI (sq k) a (distI k c v) else leastI (sq k) (distI k c v) b) ≤ _ ∧ _ ≤ lenMin k v (mostI (sq k) (distI k c v) b)
    rw [dist_comm k v c]
    refine ⟨?_, lm _ z.2⟩
    split
    · exact dist_rim (hv.trans hc.symm) (hc.trans hu.symm) h'.1 (by assumption)
    · exact z.1
  | box l h0 =>
    have hl := ok.1.1
    have hh := ok.2.1.1
    have z := (box_at hl hh hu).mp h
    show joinI k ((nearL l h0 v).map (partI k)) ≤ _ ∧ _ ≤ joinI k ((farL l h0 v).map (partI k))
    rw [near_ix hl hh hv, far_ix hl hh hv, dist_ix hv hu]
    refine ⟨join_mono k fun i hi => ?_, join_mono k fun i hi => ?_⟩
    · have := z i (List.mem_range.mp hi)
      unfold mx3
      refine part_le k ?_ ?_
      · split <;> (try split) <;> omega
      · split <;> (try split) <;> omega
    · have := z i (List.mem_range.mp hi)
      unfold mx2
      refine part_ge k ?_ ?_
      · split <;> omega
      · split <;> omega
/-! ### places of short tuples, lists -/
theorem ix_t0 {a : D} {l : List D} {M : Mp} {Q : KD} : ixD (.tup (a :: l)) (.int 0) M Q ↔ Q a M := by
  constructor
  · rintro ⟨ds, x, h, e, q⟩
    cases h
    simp [atI, ixN] at e
    exact e ▸ q
  · exact fun q => ⟨_, a, rfl, by simp [atI, ixN], q⟩
theorem ix_t1 {a b : D} {l : List D} {M : Mp} {Q : KD} : ixD (.tup (a :: b :: l)) (.int 1) M Q ↔ Q b M := by
  have z : (1 : Int) < (l.length : Int) + 1 + 1 := by omega
  constructor
  · rintro ⟨ds, x, h, e, q⟩
    cases h
    simp [atI, ixN, z] at e
    exact e ▸ q
  · exact fun q => ⟨_, b, rfl, by simp [atI, ixN, z], q⟩
theorem ix_t2 {a b c : D} {l : List D} {M : Mp} {Q : KD} : ixD (.tup (a :: b :: c :: l)) (.int 2) M Q ↔ Q c M := by
  constructor
  · rintro ⟨ds, x, h, e, q⟩
    cases h
    have z : (2 : Int) < (l.length : Int) + 1 + 1 + 1 := by omega
    simp [atI, ixN, z] at e
    exact e ▸ q
  · exact fun q => ⟨_, c, rfl, by
      have z : (2 : Int) < (l.length : Int) + 1 + 1 + 1 := by omega
      simp [atI, ixN, z], q⟩
theorem ix_t3 {a b c d : D} {M : Mp} {Q : KD} : ixD (.tup [a, b, c, d]) (.int 3) M Q ↔ Q d M := by
  constructor
  · rintro ⟨ds, x, h, e, q⟩
    cases h
    simp [atI, ixN] at e
    exact e ▸ q
  · exact fun q => ⟨_, d, rfl, by simp [atI, ixN], q⟩
theorem ix_m3 {a b c : D} {M : Mp} {Q : KD} : ixD (.tup [a, b, c]) (.int (-1)) M Q ↔ Q c M := by
  constructor
  · rintro ⟨ds, x, h, e, q⟩
    cases h
    simp [atI, ixN] at e
    exact e ▸ q
  · exact fun q => ⟨_, c, rfl, by simp [atI, ixN], q⟩
theorem ix_m4 {a b c d : D} {M : Mp} {Q : KD} : ixD (.tup [a, b, c, d]) (.int (-1)) M Q ↔ Q d M := by
  constructor
  · rintro ⟨ds, x, h, e, q⟩
    cases h
    simp [atI, ixN] at e
    exact e ▸ q
  · exact fun q => ⟨_, d, rfl, by simp [atI, ixN], q⟩
/-! names -/
theorem sn_ball_box : (("ball" : Str) = "box") = False := eq_false (by decide +kernel)
theorem sn_cell_box : (("cell" : Str) = "box") = False := eq_false (by decide +kernel)
theorem sn_cell_ball : (("cell" : Str) = "ball") = False := eq_false (by decide +kernel)
theorem sn_ball_cell : (("ball" : Str) = "cell") = False := eq_false (by decide +kernel)
theorem sn_box_ball : (("box" : Str) = "ball") = False := eq_false (by decide +kernel)
theorem sn_box_cell : (("box" : Str) = "cell") = False := eq_false (by decide +kernel)
end L3
set_option maxHeartbeats 0
namespace K21
open PySem L2 L3
open PyProof.Rows (envOfC)
def top (i : Nat) : Stmt := PySem.Challenge.pw_nonearer_k21_whole_floors_and_ceilings.main.body.getD i (.Pass ⟨0, 0, 0, 0⟩)
abbrev s_differences : Stmt := top 2
abbrev s_part_of : Stmt := top 5
abbrev s_joined_parts : Stmt := top 6
abbrev s_distance : Stmt := top 7
abbrev s_root_of_both : Stmt := top 8
abbrev s_gap_of : Stmt := top 9
abbrev s_least_beyond : Stmt := top 10
abbrev s_most_beyond : Stmt := top 11
abbrev s_holds_vector : Stmt := top 13
abbrev s_nearest_difference : Stmt := top 14
abbrev s_farthest_difference : Stmt := top 15
abbrev s_floor_of : Stmt := top 16
abbrev s_ceiling_of : Stmt := top 17
abbrev s__law_heap : Stmt := top 19
abbrev s__law_draw : Stmt := top 20
abbrev s__law_pick : Stmt := top 21
abbrev s__law_part : Stmt := top 22
abbrev s__law_distance : Stmt := top 23
abbrev s__law_root : Stmt := top 24
abbrev s__law_gap : Stmt := top 25
abbrev s__law_most : Stmt := top 26
abbrev s__law_shell : Stmt := top 27
abbrev s__law_holds : Stmt := top 28
abbrev s__law_region : Stmt := top 29
abbrev s__law_floor : Stmt := top 30
abbrev s__law_ceiling : Stmt := top 31
abbrev s__law_window : Stmt := top 32
abbrev s__law_tried_right : Stmt := top 33
abbrev s__law_pick_far : Stmt := top 34
abbrev s__law_box_reached : Stmt := top 35
abbrev s__law_right : Stmt := top 36
abbrev s_law : Stmt := top 37
def c_KINDS : D := (.tup [.str "square", .str "sum", .str "most", .str "unlike"])
structure Txt (K : PySem.W.Frag) (mg : Str → Option Value) (aKINDS : Addr) : Prop where
  z_abs : mg "abs" = none
  z_all : mg "all" = none
  z_int : mg "int" = none
  m_isqrt : mg "isqrt" = some (.builtin "math.isqrt")
  z_len : mg "len" = none
  z_max : mg "max" = none
  z_min : mg "min" = none
  z_range : mg "range" = none
  z_repr : mg "repr" = none
  z_sum : mg "sum" = none
  z_tuple : mg "tuple" = none
  z_zip : mg "zip" = none
  m_KINDS : mg "KINDS" = some (.ref aKINDS)
  r_KINDS : ∀ H : Hp, Rep K H (.ref aKINDS) c_KINDS
/-! ### contracts -/
def F_differences : Fs := fun ds M Q _ => ∃ (v u : List Int), ds = [vec v, vec u] ∧ sm v ∧ sm u ∧ Q (vec (subI v u)) M
def F_part_of : Fs := fun ds M Q _ => ∃ (k : Str) (d : Int), ds = [.str k, .int d] ∧ -10000000 ≤ d ∧ d ≤ 10000000 ∧ Q (.int (partI k d)) M
def F_joined_parts : Fs := fun ds M Q _ => ∃ (k : Str) (d : D) (ns : List Int), ds = [.str k, d] ∧ seqD M d = some (ns.map .int) ∧ small ns ∧ Q (.int (joinI k ns)) M
def F_distance : Fs := fun ds M Q _ => ∃ (k : Str) (v u : List Int), ds = [.str k, vec v, vec u] ∧ sm v ∧ sm u ∧ Q (.int (distI k v u)) M
def F_root_of_both : Fs := fun ds M Q _ => ∃ (a b : Int), ds = [.int a, .int b] ∧ nb a ∧ nb b ∧ Q (.int (rt (4 * a * b))) M
def F_gap_of : Fs := fun ds M Q _ => ∃ (k : Str) (a b : Int), ds = [.str k, .int a, .int b] ∧ nb a ∧ nb b ∧ Q (.int (gapI (sq k) a b)) M
def F_least_beyond : Fs := fun ds M Q _ => ∃ (k : Str) (a b : Int), ds = [.str k, .int a, .int b] ∧ nb a ∧ nb b ∧ Q (.int (leastI (sq k) a b)) M
def F_most_beyond : Fs := fun ds M Q _ => ∃ (k : Str) (a b : Int), ds = [.str k, .int a, .int b] ∧ nb a ∧ nb b ∧ Q (.int (mostI (sq k) a b)) M
def F_holds_vector : Fs := fun ds M Q _ => ∃ (k : Str) (r : Rg) (v : List Int) (p : Nat), ds = [.str k, r.d, vec v] ∧ p ≤ 8 ∧ rgOk p r ∧ vk p 60000 v ∧ Q (.bl (holdB k r v)) M
def F_nearest_difference : Fs := fun ds M Q _ => ∃ (a b c : Int), ds = [.int a, .int b, .int c] ∧ Q (.int (mx3 (a - c) (c - b) 0)) M
def F_farthest_difference : Fs := fun ds M Q _ => ∃ (a b c : Int), ds = [.int a, .int b, .int c] ∧ Q (.int (mx2 (c - a) (b - c))) M
def F_floor_of : Fs := fun ds M Q _ => ∃ (k : Str) (r : Rg) (v : List Int) (p : Nat), ds = [.str k, r.d, vec v] ∧ p ≤ 8 ∧ rgOk p r ∧ vk p 60000 v ∧ Q (.int (floorI k r v)) M
def F_ceiling_of : Fs := fun ds M Q _ => ∃ (k : Str) (r : Rg) (v : List Int) (p : Nat), ds = [.str k, r.d, vec v] ∧ p ≤ 8 ∧ rgOk p r ∧ vk p 60000 v ∧ Q (.int (ceilI k r v)) M
def F__law_heap : Fs := fun ds M Q _ => ∃ ns : List Int, ds = [.lst (ns.map .int)] ∧ ns.length ≤ 63 ∧ ∀ (M' : Mp) (a a0 : Addr), M' a = some (.drw a0) → Q (.tok a) M'
abbrev F__law_draw : Fs := drawF
abbrev F__law_pick : Fs := pickF
def F__law_part : Fs := fun ds M Q _ => ∃ (k : Str) (a b : Int), ds = [.str k, .int a, .int b] ∧ -2000000 ≤ a ∧ a ≤ 2000000 ∧ -2000000 ≤ b ∧ b ≤ 2000000 ∧ Q (.int (partI k (a - b))) M
def F__law_distance : Fs := fun ds M Q _ => ∃ (k : Str) (d e : D) (v u : List Int), ds = [.str k, d, e] ∧ seqD M d = some (v.map .int) ∧ seqD M e = some (u.map .int) ∧ v.length = u.length ∧ sm v ∧ sm u ∧ Q (.int (distI k v u)) M
def F__law_root : Fs := fun ds M Q _ => ∃ n : Int, ds = [.int n] ∧ 0 ≤ n ∧ n < 2 ^ 80 ∧ Q (.int (rt n)) M
/-- a number whose products have roots here -/
def nc (a : Int) : Prop := 0 ≤ a ∧ a < 2 ^ 39
def F__law_gap : Fs := fun ds M Q _ => ∃ (k : Str) (a b : Int), ds = [.str k, .int a, .int b] ∧ nc a ∧ nc b ∧ Q (.int (gapI (sq k) a b)) M
def F__law_most : Fs := fun ds M Q _ => ∃ (k : Str) (a b : Int), ds = [.str k, .int a, .int b] ∧ nc a ∧ nc b ∧ Q (.int (mostI (sq k) a b)) M
def shell : Rg → Option (Int × Int)
  | .ball _ r => some (0, r)
  | .cell _ a b => some (a, b)
  | .box _ _ => none
def F__law_shell : Fs := fun ds M Q _ => ∃ (r : Rg) (a b : Int), ds = [r.d] ∧ shell r = some (a, b) ∧ Q (.tup [.int a, .int b]) M
def F__law_holds : Fs := fun ds M Q _ => ∃ (k : Str) (r : Rg) (v : List Int) (p : Nat), ds = [.str k, r.d, vec v] ∧ p ≤ 8 ∧ rgOk p r ∧ vk p 60000 v ∧ Q (.bl (holdB k r v)) M
def F__law_region : Fs := fun ds M Q _ => ∃ (a a0 : Addr) (k : Str) (p : Nat) (far : Int), ds = [.tok a, .str k, .int (p : Int), .int far] ∧ M a = some (.drw a0) ∧ p ≤ 8 ∧ 3 ≤ far ∧ far ≤ 4900 ∧ ∀ r : Rg, rgOk p r → vk p 10000 r.mid → Q r.d M
def F__law_floor : Fs := fun ds M Q _ => ∃ (k : Str) (r : Rg) (v : List Int) (p : Nat), ds = [.str k, r.d, vec v] ∧ p ≤ 8 ∧ rgOk p r ∧ vk p 60000 v ∧ Q (.int (floorI k r v)) M
def F__law_ceiling : Fs := fun ds M Q _ => ∃ (k : Str) (r : Rg) (v : List Int) (p : Nat), ds = [.str k, r.d, vec v] ∧ p ≤ 8 ∧ rgOk p r ∧ vk p 60000 v ∧ Q (.int (ceilI k r v)) M
/-- what stood stands -/
def Up (M M' : Mp) : Prop := ∀ b c, M b = some c → M' b = some c
def F__law_window : Fs := fun ds M Q _ => ∃ (v : List Int) (wide : Int) (p : Nat), ds = [vec v, .int wide] ∧ p ≤ 8 ∧ vk p 50000 v ∧ 0 ≤ wide ∧ wide ≤ 3 ∧ ∀ (vs : List (List Int)) (M' : Mp), Up M M' → (∀ u ∈ vs, vk p 60000 u) → Q (.lst (vs.map vec)) M'
def F__law_tried_right : Fs := fun ds M Q _ => ∃ (k : Str) (r : Rg) (v : List Int) (low high : Int) (p : Nat), ds = [.str k, r.d, vec v, .int low, .int high] ∧ p ≤ 8 ∧ rgOk p r ∧ vk p 50000 v ∧ (∀ u : List Int, vk p 60000 u → holdB k r u = true → low ≤ distI k v u ∧ distI k v u ≤ high) ∧ ∀ M', Up M M' → Q (.bl true) M'
def pickFar (k : Str) (x l h : Int) : Int := if x - l > h - x ∨ (k = "unlike" ∧ x = h) then l else h
def F__law_pick_far : Fs := fun ds M Q _ => ∃ (k : Str) (x l h : Int), ds = [.str k, .int x, .int l, .int h] ∧ Q (.int (pickFar k x l h)) M
def F__law_box_reached : Fs := fun ds M Q _ => ∃ (k : Str) (l h v : List Int) (p : Nat), ds = [.str k, (Rg.box l h).d, vec v, .int (floorI k (.box l h) v), .int (ceilI k (.box l h) v)] ∧ p ≤ 8 ∧ rgOk p (.box l h) ∧ vk p 50000 v ∧ Q (.bl true) M
def F__law_right : Fs := fun ds M Q _ => ∃ (k : Str) (r : Rg) (v : List Int) (p : Nat), ds = [.str k, r.d, vec v] ∧ p ≤ 8 ∧ rgOk p r ∧ vk p 50000 v ∧ ∀ M', Up M M' → Q (.bl true) M'
def F_law : Fs := fun ds M Q _ => ∃ ns : List Int, ds = [.lst (ns.map .int)] ∧ ns.length ≤ 63 ∧ ∀ M', Q (.bl true) M'
section
variable {P : Program} {w : World} {K : PySem.W.Frag} {mg : Str → Option Value} {base : Heap} {aKINDS : Addr}
theorem sc_differences : FnScope ["one", "other", "first", "second"] ["one", "other"] (defScope s_differences) := ⟨rfl, rfl, rfl, by decide +kernel, rfl, by decide +kernel, by decide +kernel⟩
abbrev W_differences : WS := (wRet (wCB fTuple (wCons (wLc (wiZip (wCons (wVar 0) (wCons (wVar 1) wNil))) (wgTup 2 (wgCons (wgName 2) (wgCons (wgName 3) wgNil))) wYes (wOp (fI0 fun i j => .int (i - j)) (wVar 2) (wVar 3)) [2, 3]) wNil)))
theorem dv_differences {f : Addr} (T : Txt K mg aKINDS) (cdv : Value) (A : Around) (outer : List Env) (s : Shared) (H : Hp) (E : XK) (gd : A.guards = some []) (hr : Room 0 (A.deeper (envOfC "differences" (defScope s_differences) s.heap.objs.size f cdv))) :
    ∃ t, DSs (cxOf (L2.CX P w) P w K mg base ["one", "other", "first", "second"] "differences" (defScope s_differences) f cdv A outer s H E) E (defBody s_differences) t W_differences := ⟨_, (dss_one (ds_ret (de_callTy call_tuple_of sim_tuple T.z_tuple (show bootBuiltins "tuple" = some (.type "tuple") from rfl) (da_cons (de_lc (own := [("first", 2), ("second", 3)]) rfl sc_differences.nd (di_zip T.z_zip (da_cons (de_var 0) (da_cons (de_var 1) da_nil))) (show BlkOk ["one", "other", "first", "second"] (defScope s_differences) _ [("first", 2), ("second", 3)] from ⟨rfl, by decide +kernel, by decide +kernel, by decide +kernel, by decide +kernel⟩) (fun _ _ _ _ _ => (dg_tup rfl (dgs_cons (dg_name 2 sc_differences.nd) (dgs_cons (dg_name 3 sc_differences.nd) dgs_nil)))) (fun _ _ _ _ _ => dts_nil) (fun _ _ _ _ _ => (de_sub (de_var 2) (de_var 3))) (keep_tup (keep_cons keep_name (keep_cons keep_name keep_nil (fun _ _ _ _ _ h1 h2 => h1 _ _ h2)) (fun _ _ _ _ _ h1 h2 => h1 _ _ h2)))) da_nil))))⟩
theorem ok_differences {f : Addr} {fd : FuncData} (Fn : Fun K "differences" "differences" s_differences f fd) (T : Txt K mg aKINDS) (len : ∀ ds M Q E, F_differences ds M Q E → ds.length = 2)
    (body : ∀ ds M Q R, F_differences ds M Q R → W_differences { nx := fun _ M' => Q .non M', rt := Q, xr := R } (startE 4 ds) M) : FnG P w K mg base 1 f fd ["one", "other"] (lift K F_differences) :=
  ok_fn Fn sc_differences len fun cdv A outer s H E gd hr => (dv_differences T cdv A outer s H E gd hr).elim fun t ht => ⟨t, _, ht, body⟩

theorem sc_part_of : FnScope ["kind", "difference"] ["kind", "difference"] (defScope s_part_of) := ⟨rfl, rfl, rfl, by decide +kernel, rfl, by decide +kernel, by decide +kernel⟩
abbrev W_part_of : WS := (wSeq (wIfS (wB (wOp (eqV false) (wVar 0) (wC (.str "square")))) (wRet (wOp (fI CM fun i j => .int (i * j)) (wVar 1) (wVar 1))) wNext) (wSeq (wIfS (wB (wOp (eqV false) (wVar 0) (wC (.str "unlike")))) (wRet (wIf (wB (wOp (eqV false) (wVar 1) (wC (.int 0)))) (wC (.int 0)) (wC (.int 1)))) wNext) (wRet (wCB fAbs (wCons (wVar 1) wNil)))))
theorem dv_part_of {f : Addr} (T : Txt K mg aKINDS) (cdv : Value) (A : Around) (outer : List Env) (s : Shared) (H : Hp) (E : XK) (gd : A.guards = some []) (hr : Room 0 (A.deeper (envOfC "part_of" (defScope s_part_of) s.heap.objs.size f cdv))) :
    ∃ t, DSs (cxOf (L2.CX P w) P w K mg base ["kind", "difference"] "part_of" (defScope s_part_of) f cdv A outer s H E) E (defBody s_part_of) t W_part_of := ⟨_, (dss_cons (ds_if (dt_cmp (op_eqV hr) sim_eqV (de_var 0) de_str) (dss_one (ds_ret (de_mul (de_var 1) (de_var 1)))) dss_nil) (dss_cons (ds_if (dt_cmp (op_eqV hr) sim_eqV (de_var 0) de_str) (dss_one (ds_ret (de_if (dt_cmp (op_eqV hr) sim_eqV (de_var 1) de_int) de_int de_int))) dss_nil) (dss_one (ds_ret (de_callB call_abs sim_abs T.z_abs (show bootBuiltins "abs" = some (.builtin "abs") from rfl) (da_cons (de_var 1) da_nil))))))⟩
theorem ok_part_of {f : Addr} {fd : FuncData} (Fn : Fun K "part_of" "part_of" s_part_of f fd) (T : Txt K mg aKINDS) (len : ∀ ds M Q E, F_part_of ds M Q E → ds.length = 2)
    (body : ∀ ds M Q R, F_part_of ds M Q R → W_part_of { nx := fun _ M' => Q .non M', rt := Q, xr := R } (startE 2 ds) M) : FnG P w K mg base 1 f fd ["kind", "difference"] (lift K F_part_of) :=
  ok_fn Fn sc_part_of len fun cdv A outer s H E gd hr => (dv_part_of T cdv A outer s H E gd hr).elim fun t ht => ⟨t, _, ht, body⟩

theorem sc_joined_parts : FnScope ["kind", "parts"] ["kind", "parts"] (defScope s_joined_parts) := ⟨rfl, rfl, rfl, by decide +kernel, rfl, by decide +kernel, by decide +kernel⟩
abbrev W_joined_parts : WS := (wSeq (wIfS (wB (wOp (eqV false) (wVar 0) (wC (.str "most")))) (wRet (wKw fMaxDf (wCons (wVar 1) wNil) (wCons (wC (.int 0)) wNil))) wNext) (wRet (wCB fSumA (wCons (wVar 1) wNil))))
theorem dv_joined_parts {f : Addr} (T : Txt K mg aKINDS) (cdv : Value) (A : Around) (outer : List Env) (s : Shared) (H : Hp) (E : XK) (gd : A.guards = some []) (hr : Room 0 (A.deeper (envOfC "joined_parts" (defScope s_joined_parts) s.heap.objs.size f cdv))) :
    ∃ t, DSs (cxOf (L2.CX P w) P w K mg base ["kind", "parts"] "joined_parts" (defScope s_joined_parts) f cdv A outer s H E) E (defBody s_joined_parts) t W_joined_parts := ⟨_, (dss_cons (ds_if (dt_cmp (op_eqV hr) sim_eqV (de_var 0) de_str) (dss_one (ds_ret (de_maxDf rfl T.z_max (da_cons (de_var 1) da_nil) (dk_cons de_int dk_nil)))) dss_nil) (dss_one (ds_ret (de_callB (cr_sumA rfl) sim_sumA T.z_sum (show bootBuiltins "sum" = some (.builtin "sum") from rfl) (da_cons (de_var 1) da_nil)))))⟩
theorem ok_joined_parts {f : Addr} {fd : FuncData} (Fn : Fun K "joined_parts" "joined_parts" s_joined_parts f fd) (T : Txt K mg aKINDS) (len : ∀ ds M Q E, F_joined_parts ds M Q E → ds.length = 2)
    (body : ∀ ds M Q R, F_joined_parts ds M Q R → W_joined_parts { nx := fun _ M' => Q .non M', rt := Q, xr := R } (startE 2 ds) M) : FnG P w K mg base 1 f fd ["kind", "parts"] (lift K F_joined_parts) :=
  ok_fn Fn sc_joined_parts len fun cdv A outer s H E gd hr => (dv_joined_parts T cdv A outer s H E gd hr).elim fun t ht => ⟨t, _, ht, body⟩

theorem sc_distance : FnScope ["kind", "one", "other", "difference"] ["kind", "one", "other"] (defScope s_distance) := ⟨rfl, rfl, rfl, by decide +kernel, rfl, by decide +kernel, by decide +kernel⟩
abbrev W_distance : WS := (wRet (wCall F_joined_parts (wCons (wVar 0) (wCons (wLc (wiSeq (wCall F_differences (wCons (wVar 1) (wCons (wVar 2) wNil)))) (wgName 3) wYes (wCall F_part_of (wCons (wVar 0) (wCons (wVar 3) wNil))) [3]) wNil))))
theorem dv_distance {f : Addr} (T : Txt K mg aKINDS) (h_differences : Has P w K mg base 1 "differences" s_differences ["one", "other"] F_differences) (h_part_of : Has P w K mg base 1 "part_of" s_part_of ["kind", "difference"] F_part_of) (h_joined_parts : Has P w K mg base 1 "joined_parts" s_joined_parts ["kind", "parts"] F_joined_parts) (cdv : Value) (A : Around) (outer : List Env) (s : Shared) (H : Hp) (E : XK) (gd : A.guards = some []) (hr : Room 1 (A.deeper (envOfC "distance" (defScope s_distance) s.heap.objs.size f cdv))) :
    ∃ t, DSs (cxOf (L2.CX P w) P w K mg base ["kind", "one", "other", "difference"] "distance" (defScope s_distance) f cdv A outer s H E) E (defBody s_distance) t W_distance := ⟨_, (dss_one (ds_ret (de_h h_joined_parts (hr.mono (by decide)) gd (da_cons (de_var 0) (da_cons (de_lc (own := [("difference", 3)]) rfl sc_distance.nd (di_seq (de_h h_differences (hr.mono (by decide)) gd (da_cons (de_var 1) (da_cons (de_var 2) da_nil)))) (show BlkOk ["kind", "one", "other", "difference"] (defScope s_distance) _ [("difference", 3)] from ⟨rfl, by decide +kernel, by decide +kernel, by decide +kernel, by decide +kernel⟩) (fun _ _ _ _ _ => (dg_name 3 sc_distance.nd)) (fun _ _ _ _ _ => dts_nil) (fun _ _ _ _ _ => (de_h h_part_of (hr.mono (by decide)) gd (da_cons (de_var 0) (da_cons (de_var 3) da_nil)))) keep_name) da_nil)))))⟩
theorem ok_distance {f : Addr} {fd : FuncData} (Fn : Fun K "distance" "distance" s_distance f fd) (T : Txt K mg aKINDS) (h_differences : Has P w K mg base 1 "differences" s_differences ["one", "other"] F_differences) (h_part_of : Has P w K mg base 1 "part_of" s_part_of ["kind", "difference"] F_part_of) (h_joined_parts : Has P w K mg base 1 "joined_parts" s_joined_parts ["kind", "parts"] F_joined_parts) (len : ∀ ds M Q E, F_distance ds M Q E → ds.length = 3)
    (body : ∀ ds M Q R, F_distance ds M Q R → W_distance { nx := fun _ M' => Q .non M', rt := Q, xr := R } (startE 4 ds) M) : FnG P w K mg base 2 f fd ["kind", "one", "other"] (lift K F_distance) :=
  ok_fn Fn sc_distance len fun cdv A outer s H E gd hr => (dv_distance T h_differences h_part_of h_joined_parts cdv A outer s H E gd hr).elim fun t ht => ⟨t, _, ht, body⟩

theorem sc_root_of_both : FnScope ["one", "other"] ["one", "other"] (defScope s_root_of_both) := ⟨rfl, rfl, rfl, by decide +kernel, rfl, by decide +kernel, by decide +kernel⟩
abbrev W_root_of_both : WS := (wRet (wCB fIsq (wCons (wOp (fI CM fun i j => .int (i * j)) (wOp (fI CM fun i j => .int (i * j)) (wC (.int 4)) (wVar 0)) (wVar 1)) wNil)))
theorem dv_root_of_both {f : Addr} (T : Txt K mg aKINDS) (cdv : Value) (A : Around) (outer : List Env) (s : Shared) (H : Hp) (E : XK) (gd : A.guards = some []) (hr : Room 0 (A.deeper (envOfC "root_of_both" (defScope s_root_of_both) s.heap.objs.size f cdv))) :
    ∃ t, DSs (cxOf (L2.CX P w) P w K mg base ["one", "other"] "root_of_both" (defScope s_root_of_both) f cdv A outer s H E) E (defBody s_root_of_both) t W_root_of_both := ⟨_, (dss_one (ds_ret (de_callMB call_isqrt sim_isq T.m_isqrt (da_cons (de_mul (de_mul de_int (de_var 0)) (de_var 1)) da_nil))))⟩
theorem ok_root_of_both {f : Addr} {fd : FuncData} (Fn : Fun K "root_of_both" "root_of_both" s_root_of_both f fd) (T : Txt K mg aKINDS) (len : ∀ ds M Q E, F_root_of_both ds M Q E → ds.length = 2)
    (body : ∀ ds M Q R, F_root_of_both ds M Q R → W_root_of_both { nx := fun _ M' => Q .non M', rt := Q, xr := R } (startE 2 ds) M) : FnG P w K mg base 1 f fd ["one", "other"] (lift K F_root_of_both) :=
  ok_fn Fn sc_root_of_both len fun cdv A outer s H E gd hr => (dv_root_of_both T cdv A outer s H E gd hr).elim fun t ht => ⟨t, _, ht, body⟩

theorem sc_gap_of : FnScope ["kind", "one", "other"] ["kind", "one", "other"] (defScope s_gap_of) := ⟨rfl, rfl, rfl, by decide +kernel, rfl, by decide +kernel, by decide +kernel⟩
abbrev W_gap_of : WS := (wSeq (wIfS (wB (wOp (eqV false) (wVar 0) (wC (.str "square")))) (wRet (wOp (fI0 fun i j => .int (i - j)) (wOp addD (wVar 1) (wVar 2)) (wCall F_root_of_both (wCons (wVar 1) (wCons (wVar 2) wNil))))) wNext) (wRet (wCB fAbs (wCons (wOp (fI0 fun i j => .int (i - j)) (wVar 1) (wVar 2)) wNil))))
theorem dv_gap_of {f : Addr} (T : Txt K mg aKINDS) (h_root_of_both : Has P w K mg base 1 "root_of_both" s_root_of_both ["one", "other"] F_root_of_both) (cdv : Value) (A : Around) (outer : List Env) (s : Shared) (H : Hp) (E : XK) (gd : A.guards = some []) (hr : Room 1 (A.deeper (envOfC "gap_of" (defScope s_gap_of) s.heap.objs.size f cdv))) :
    ∃ t, DSs (cxOf (L2.CX P w) P w K mg base ["kind", "one", "other"] "gap_of" (defScope s_gap_of) f cdv A outer s H E) E (defBody s_gap_of) t W_gap_of := ⟨_, (dss_cons (ds_if (dt_cmp (op_eqV hr) sim_eqV (de_var 0) de_str) (dss_one (ds_ret (de_sub (de_add (de_var 1) (de_var 2)) (de_h h_root_of_both (hr.mono (by decide)) gd (da_cons (de_var 1) (da_cons (de_var 2) da_nil)))))) dss_nil) (dss_one (ds_ret (de_callB call_abs sim_abs T.z_abs (show bootBuiltins "abs" = some (.builtin "abs") from rfl) (da_cons (de_sub (de_var 1) (de_var 2)) da_nil)))))⟩
theorem ok_gap_of {f : Addr} {fd : FuncData} (Fn : Fun K "gap_of" "gap_of" s_gap_of f fd) (T : Txt K mg aKINDS) (h_root_of_both : Has P w K mg base 1 "root_of_both" s_root_of_both ["one", "other"] F_root_of_both) (len : ∀ ds M Q E, F_gap_of ds M Q E → ds.length = 3)
    (body : ∀ ds M Q R, F_gap_of ds M Q R → W_gap_of { nx := fun _ M' => Q .non M', rt := Q, xr := R } (startE 3 ds) M) : FnG P w K mg base 2 f fd ["kind", "one", "other"] (lift K F_gap_of) :=
  ok_fn Fn sc_gap_of len fun cdv A outer s H E gd hr => (dv_gap_of T h_root_of_both cdv A outer s H E gd hr).elim fun t ht => ⟨t, _, ht, body⟩

theorem sc_least_beyond : FnScope ["kind", "from_centre", "radius"] ["kind", "from_centre", "radius"] (defScope s_least_beyond) := ⟨rfl, rfl, rfl, by decide +kernel, rfl, by decide +kernel, by decide +kernel⟩
abbrev W_least_beyond : WS := (wSeq (wIfS (wB (wOp fLe (wVar 1) (wVar 2))) (wRet (wC (.int 0))) wNext) (wRet (wCall F_gap_of (wCons (wVar 0) (wCons (wVar 1) (wCons (wVar 2) wNil))))))
theorem dv_least_beyond {f : Addr} (T : Txt K mg aKINDS) (h_gap_of : Has P w K mg base 2 "gap_of" s_gap_of ["kind", "one", "other"] F_gap_of) (cdv : Value) (A : Around) (outer : List Env) (s : Shared) (H : Hp) (E : XK) (gd : A.guards = some []) (hr : Room 2 (A.deeper (envOfC "least_beyond" (defScope s_least_beyond) s.heap.objs.size f cdv))) :
    ∃ t, DSs (cxOf (L2.CX P w) P w K mg base ["kind", "from_centre", "radius"] "least_beyond" (defScope s_least_beyond) f cdv A outer s H E) E (defBody s_least_beyond) t W_least_beyond := ⟨_, (dss_cons (ds_if (dt_cmp op_le sim_le (de_var 1) (de_var 2)) (dss_one (ds_ret de_int)) dss_nil) (dss_one (ds_ret (de_h h_gap_of (hr.mono (by decide)) gd (da_cons (de_var 0) (da_cons (de_var 1) (da_cons (de_var 2) da_nil)))))))⟩
theorem ok_least_beyond {f : Addr} {fd : FuncData} (Fn : Fun K "least_beyond" "least_beyond" s_least_beyond f fd) (T : Txt K mg aKINDS) (h_gap_of : Has P w K mg base 2 "gap_of" s_gap_of ["kind", "one", "other"] F_gap_of) (len : ∀ ds M Q E, F_least_beyond ds M Q E → ds.length = 3)
    (body : ∀ ds M Q R, F_least_beyond ds M Q R → W_least_beyond { nx := fun _ M' => Q .non M', rt := Q, xr := R } (startE 3 ds) M) : FnG P w K mg base 3 f fd ["kind", "from_centre", "radius"] (lift K F_least_beyond) :=
  ok_fn Fn sc_least_beyond len fun cdv A outer s H E gd hr => (dv_least_beyond T h_gap_of cdv A outer s H E gd hr).elim fun t ht => ⟨t, _, ht, body⟩

theorem sc_most_beyond : FnScope ["kind", "from_centre", "radius"] ["kind", "from_centre", "radius"] (defScope s_most_beyond) := ⟨rfl, rfl, rfl, by decide +kernel, rfl, by decide +kernel, by decide +kernel⟩
abbrev W_most_beyond : WS := (wSeq (wIfS (wB (wOp (eqV false) (wVar 0) (wC (.str "square")))) (wRet (wOp addD (wOp addD (wVar 1) (wVar 2)) (wCall F_root_of_both (wCons (wVar 1) (wCons (wVar 2) wNil))))) wNext) (wRet (wOp addD (wVar 1) (wVar 2))))
theorem dv_most_beyond {f : Addr} (T : Txt K mg aKINDS) (h_root_of_both : Has P w K mg base 1 "root_of_both" s_root_of_both ["one", "other"] F_root_of_both) (cdv : Value) (A : Around) (outer : List Env) (s : Shared) (H : Hp) (E : XK) (gd : A.guards = some []) (hr : Room 1 (A.deeper (envOfC "most_beyond" (defScope s_most_beyond) s.heap.objs.size f cdv))) :
    ∃ t, DSs (cxOf (L2.CX P w) P w K mg base ["kind", "from_centre", "radius"] "most_beyond" (defScope s_most_beyond) f cdv A outer s H E) E (defBody s_most_beyond) t W_most_beyond := ⟨_, (dss_cons (ds_if (dt_cmp (op_eqV hr) sim_eqV (de_var 0) de_str) (dss_one (ds_ret (de_add (de_add (de_var 1) (de_var 2)) (de_h h_root_of_both (hr.mono (by decide)) gd (da_cons (de_var 1) (da_cons (de_var 2) da_nil)))))) dss_nil) (dss_one (ds_ret (de_add (de_var 1) (de_var 2)))))⟩
theorem ok_most_beyond {f : Addr} {fd : FuncData} (Fn : Fun K "most_beyond" "most_beyond" s_most_beyond f fd) (T : Txt K mg aKINDS) (h_root_of_both : Has P w K mg base 1 "root_of_both" s_root_of_both ["one", "other"] F_root_of_both) (len : ∀ ds M Q E, F_most_beyond ds M Q E → ds.length = 3)
    (body : ∀ ds M Q R, F_most_beyond ds M Q R → W_most_beyond { nx := fun _ M' => Q .non M', rt := Q, xr := R } (startE 3 ds) M) : FnG P w K mg base 2 f fd ["kind", "from_centre", "radius"] (lift K F_most_beyond) :=
  ok_fn Fn sc_most_beyond len fun cdv A outer s H E gd hr => (dv_most_beyond T h_root_of_both cdv A outer s H E gd hr).elim fun t ht => ⟨t, _, ht, body⟩

theorem sc_holds_vector : FnScope ["kind", "region", "vector", "away", "low", "integer", "high"] ["kind", "region", "vector"] (defScope s_holds_vector) := ⟨rfl, rfl, rfl, by decide +kernel, rfl, by decide +kernel, by decide +kernel⟩
abbrev W_holds_vector : WS := (wSeq (wIfS (wB (wOp (eqV false) (wOp ixD (wVar 1) (wC (.int 0))) (wC (.str "box")))) (wRet (wCB (fBls fun bs => bs.all id) (wCons (wLc (wiZip3 (wCons (wOp ixD (wVar 1) (wC (.int 1))) (wCons (wVar 2) (wCons (wOp ixD (wVar 1) (wC (.int 2))) wNil)))) (wgTup 3 (wgCons (wgName 4) (wgCons (wgName 5) (wgCons (wgName 6) wgNil)))) wYes (wChain fLe fLe (wVar 4) (wVar 5) (wVar 6)) [4, 5, 6]) wNil))) wNext) (wSeq (wAsg (wCall F_distance (wCons (wVar 0) (wCons (wOp ixD (wVar 1) (wC (.int 1))) (wCons (wVar 2) wNil)))) (wgName 3)) (wSeq (wIfS (wB (wOp (eqV false) (wOp ixD (wVar 1) (wC (.int 0))) (wC (.str "ball")))) (wRet (wOp fLe (wVar 3) (wOp ixD (wVar 1) (wC (.int 2))))) wNext) (wRet (wChain fLe fLe (wOp ixD (wVar 1) (wC (.int 2))) (wVar 3) (wOp ixD (wVar 1) (wC (.int 3))))))))
theorem dv_holds_vector {f : Addr} (T : Txt K mg aKINDS) (h_distance : Has P w K mg base 2 "distance" s_distance ["kind", "one", "other"] F_distance) (cdv : Value) (A : Around) (outer : List Env) (s : Shared) (H : Hp) (E : XK) (gd : A.guards = some []) (hr : Room 2 (A.deeper (envOfC "holds_vector" (defScope s_holds_vector) s.heap.objs.size f cdv))) :
    ∃ t, DSs (cxOf (L2.CX P w) P w K mg base ["kind", "region", "vector", "away", "low", "integer", "high"] "holds_vector" (defScope s_holds_vector) f cdv A outer s H E) E (defBody s_holds_vector) t W_holds_vector := ⟨_, (dss_cons (ds_if (dt_cmp (op_eqV hr) sim_eqV (de_ix (de_var 1) de_int) de_str) (dss_one (ds_ret (de_callB (cr_all rfl) sim_all T.z_all (show bootBuiltins "all" = some (.builtin "all") from rfl) (da_cons (de_lc (own := [("low", 4), ("integer", 5), ("high", 6)]) rfl sc_holds_vector.nd (di_zip3 T.z_zip (da_cons (de_ix (de_var 1) de_int) (da_cons (de_var 2) (da_cons (de_ix (de_var 1) de_int) da_nil)))) (show BlkOk ["kind", "region", "vector", "away", "low", "integer", "high"] (defScope s_holds_vector) _ [("low", 4), ("integer", 5), ("high", 6)] from ⟨rfl, by decide +kernel, by decide +kernel, by decide +kernel, by decide +kernel⟩) (fun _ _ _ _ _ => (dg_tup rfl (dgs_cons (dg_name 4 sc_holds_vector.nd) (dgs_cons (dg_name 5 sc_holds_vector.nd) (dgs_cons (dg_name 6 sc_holds_vector.nd) dgs_nil))))) (fun _ _ _ _ _ => dts_nil) (fun _ _ _ _ _ => (de_chain op_le sim_le op_le sim_le (de_var 4) (de_var 5) (de_var 6))) (keep_tup (keep_cons keep_name (keep_cons keep_name (keep_cons keep_name keep_nil (fun _ _ _ _ _ h1 h2 => h1 _ _ h2)) (fun _ _ _ _ _ h1 h2 => h1 _ _ h2)) (fun _ _ _ _ _ h1 h2 => h1 _ _ h2)))) da_nil)))) dss_nil) (dss_cons (ds_set 3 sc_holds_vector.nd (de_h h_distance (hr.mono (by decide)) gd (da_cons (de_var 0) (da_cons (de_ix (de_var 1) de_int) (da_cons (de_var 2) da_nil))))) (dss_cons (ds_if (dt_cmp (op_eqV hr) sim_eqV (de_ix (de_var 1) de_int) de_str) (dss_one (ds_ret (de_cmp op_le sim_le (de_var 3) (de_ix (de_var 1) de_int)))) dss_nil) (dss_one (ds_ret (de_chain op_le sim_le op_le sim_le (de_ix (de_var 1) de_int) (de_var 3) (de_ix (de_var 1) de_int)))))))⟩
theorem ok_holds_vector {f : Addr} {fd : FuncData} (Fn : Fun K "holds_vector" "holds_vector" s_holds_vector f fd) (T : Txt K mg aKINDS) (h_distance : Has P w K mg base 2 "distance" s_distance ["kind", "one", "other"] F_distance) (len : ∀ ds M Q E, F_holds_vector ds M Q E → ds.length = 3)
    (body : ∀ ds M Q R, F_holds_vector ds M Q R → W_holds_vector { nx := fun _ M' => Q .non M', rt := Q, xr := R } (startE 7 ds) M) : FnG P w K mg base 3 f fd ["kind", "region", "vector"] (lift K F_holds_vector) :=
  ok_fn Fn sc_holds_vector len fun cdv A outer s H E gd hr => (dv_holds_vector T h_distance cdv A outer s H E gd hr).elim fun t ht => ⟨t, _, ht, body⟩

theorem sc_nearest_difference : FnScope ["low", "high", "integer"] ["low", "high", "integer"] (defScope s_nearest_difference) := ⟨rfl, rfl, rfl, by decide +kernel, rfl, by decide +kernel, by decide +kernel⟩
abbrev W_nearest_difference : WS := (wRet (wCB (f3I mx3) (wCons (wOp (fI0 fun i j => .int (i - j)) (wVar 0) (wVar 2)) (wCons (wOp (fI0 fun i j => .int (i - j)) (wVar 2) (wVar 1)) (wCons (wC (.int 0)) wNil)))))
theorem dv_nearest_difference {f : Addr} (T : Txt K mg aKINDS) (cdv : Value) (A : Around) (outer : List Env) (s : Shared) (H : Hp) (E : XK) (gd : A.guards = some []) (hr : Room 0 (A.deeper (envOfC "nearest_difference" (defScope s_nearest_difference) s.heap.objs.size f cdv))) :
    ∃ t, DSs (cxOf (L2.CX P w) P w K mg base ["low", "high", "integer"] "nearest_difference" (defScope s_nearest_difference) f cdv A outer s H E) E (defBody s_nearest_difference) t W_nearest_difference := ⟨_, (dss_one (ds_ret (de_callB (call_max3Nu rfl) sim_max3 T.z_max (show bootBuiltins "max" = some (.builtin "max") from rfl) (da_cons (de_sub (de_var 0) (de_var 2)) (da_cons (de_sub (de_var 2) (de_var 1)) (da_cons de_int da_nil))))))⟩
theorem ok_nearest_difference {f : Addr} {fd : FuncData} (Fn : Fun K "nearest_difference" "nearest_difference" s_nearest_difference f fd) (T : Txt K mg aKINDS) (len : ∀ ds M Q E, F_nearest_difference ds M Q E → ds.length = 3)
    (body : ∀ ds M Q R, F_nearest_difference ds M Q R → W_nearest_difference { nx := fun _ M' => Q .non M', rt := Q, xr := R } (startE 3 ds) M) : FnG P w K mg base 1 f fd ["low", "high", "integer"] (lift K F_nearest_difference) :=
  ok_fn Fn sc_nearest_difference len fun cdv A outer s H E gd hr => (dv_nearest_difference T cdv A outer s H E gd hr).elim fun t ht => ⟨t, _, ht, body⟩

theorem sc_farthest_difference : FnScope ["low", "high", "integer"] ["low", "high", "integer"] (defScope s_farthest_difference) := ⟨rfl, rfl, rfl, by decide +kernel, rfl, by decide +kernel, by decide +kernel⟩
abbrev W_farthest_difference : WS := (wRet (wCB (f2I fun i j => if j > i then j else i) (wCons (wOp (fI0 fun i j => .int (i - j)) (wVar 2) (wVar 0)) (wCons (wOp (fI0 fun i j => .int (i - j)) (wVar 1) (wVar 2)) wNil))))
theorem dv_farthest_difference {f : Addr} (T : Txt K mg aKINDS) (cdv : Value) (A : Around) (outer : List Env) (s : Shared) (H : Hp) (E : XK) (gd : A.guards = some []) (hr : Room 0 (A.deeper (envOfC "farthest_difference" (defScope s_farthest_difference) s.heap.objs.size f cdv))) :
    ∃ t, DSs (cxOf (L2.CX P w) P w K mg base ["low", "high", "integer"] "farthest_difference" (defScope s_farthest_difference) f cdv A outer s H E) E (defBody s_farthest_difference) t W_farthest_difference := ⟨_, (dss_one (ds_ret (de_callB (call_max2 rfl) sim_2I T.z_max (show bootBuiltins "max" = some (.builtin "max") from rfl) (da_cons (de_sub (de_var 2) (de_var 0)) (da_cons (de_sub (de_var 1) (de_var 2)) da_nil)))))⟩
theorem ok_farthest_difference {f : Addr} {fd : FuncData} (Fn : Fun K "farthest_difference" "farthest_difference" s_farthest_difference f fd) (T : Txt K mg aKINDS) (len : ∀ ds M Q E, F_farthest_difference ds M Q E → ds.length = 3)
    (body : ∀ ds M Q R, F_farthest_difference ds M Q R → W_farthest_difference { nx := fun _ M' => Q .non M', rt := Q, xr := R } (startE 3 ds) M) : FnG P w K mg base 1 f fd ["low", "high", "integer"] (lift K F_farthest_difference) :=
  ok_fn Fn sc_farthest_difference len fun cdv A outer s H E gd hr => (dv_farthest_difference T cdv A outer s H E gd hr).elim fun t ht => ⟨t, _, ht, body⟩

theorem sc_floor_of : FnScope ["kind", "region", "vector", "away", "steps", "low", "high", "integer", "step"] ["kind", "region", "vector"] (defScope s_floor_of) := ⟨rfl, rfl, rfl, by decide +kernel, rfl, by decide +kernel, by decide +kernel⟩
abbrev W_floor_of : WS := (wSeq (wIfS (wB (wOp (eqV false) (wOp ixD (wVar 1) (wC (.int 0))) (wC (.str "box")))) (wSeq (wAsg (wLc (wiZip3 (wCons (wOp ixD (wVar 1) (wC (.int 1))) (wCons (wOp ixD (wVar 1) (wC (.int 2))) (wCons (wVar 2) wNil)))) (wgTup 3 (wgCons (wgName 5) (wgCons (wgName 6) (wgCons (wgName 7) wgNil)))) wYes (wCall F_nearest_difference (wCons (wVar 5) (wCons (wVar 6) (wCons (wVar 7) wNil)))) [5, 6, 7]) (wgName 4)) (wRet (wCall F_joined_parts (wCons (wVar 0) (wCons (wLc (wiSeq (wVar 4)) (wgName 8) wYes (wCall F_part_of (wCons (wVar 0) (wCons (wVar 8) wNil))) [8]) wNil))))) wNext) (wSeq (wAsg (wCall F_distance (wCons (wVar 0) (wCons (wOp ixD (wVar 1) (wC (.int 1))) (wCons (wVar 2) wNil)))) (wgName 3)) (wSeq (wIfS (wAnd (wB (wOp (eqV false) (wOp ixD (wVar 1) (wC (.int 0))) (wC (.str "cell")))) (wB (wOp fLt (wVar 3) (wOp ixD (wVar 1) (wC (.int 2)))))) (wRet (wCall F_gap_of (wCons (wVar 0) (wCons (wOp ixD (wVar 1) (wC (.int 2))) (wCons (wVar 3) wNil))))) wNext) (wRet (wCall F_least_beyond (wCons (wVar 0) (wCons (wVar 3) (wCons (wOp ixD (wVar 1) (wNeg (wC (.int 1)))) wNil))))))))
theorem dv_floor_of {f : Addr} (T : Txt K mg aKINDS) (h_part_of : Has P w K mg base 1 "part_of" s_part_of ["kind", "difference"] F_part_of) (h_joined_parts : Has P w K mg base 1 "joined_parts" s_joined_parts ["kind", "parts"] F_joined_parts) (h_distance : Has P w K mg base 2 "distance" s_distance ["kind", "one", "other"] F_distance) (h_gap_of : Has P w K mg base 2 "gap_of" s_gap_of ["kind", "one", "other"] F_gap_of) (h_least_beyond : Has P w K mg base 3 "least_beyond" s_least_beyond ["kind", "from_centre", "radius"] F_least_beyond) (h_nearest_difference : Has P w K mg base 1 "nearest_difference" s_nearest_difference ["low", "high", "integer"] F_nearest_difference) (cdv : Value) (A : Around) (outer : List Env) (s : Shared) (H : Hp) (E : XK) (gd : A.guards = some []) (hr : Room 3 (A.deeper (envOfC "floor_of" (defScope s_floor_of) s.heap.objs.size f cdv))) :
    ∃ t, DSs (cxOf (L2.CX P w) P w K mg base ["kind", "region", "vector", "away", "steps", "low", "high", "integer", "step"] "floor_of" (defScope s_floor_of) f cdv A outer s H E) E (defBody s_floor_of) t W_floor_of := ⟨_, (dss_cons (ds_if (dt_cmp (op_eqV hr) sim_eqV (de_ix (de_var 1) de_int) de_str) (dss_cons (ds_setLc 4 (own := [("low", 5), ("high", 6), ("integer", 7)]) rfl sc_floor_of.nd (di_zip3 T.z_zip (da_cons (de_ix (de_var 1) de_int) (da_cons (de_ix (de_var 1) de_int) (da_cons (de_var 2) da_nil)))) (show BlkOk ["kind", "region", "vector", "away", "steps", "low", "high", "integer", "step"] (defScope s_floor_of) _ [("low", 5), ("high", 6), ("integer", 7)] from ⟨rfl, by decide +kernel, by decide +kernel, by decide +kernel, by decide +kernel⟩) (fun _ _ _ _ _ => (dg_tup rfl (dgs_cons (dg_name 5 sc_floor_of.nd) (dgs_cons (dg_name 6 sc_floor_of.nd) (dgs_cons (dg_name 7 sc_floor_of.nd) dgs_nil))))) (fun _ _ _ _ _ => dts_nil) (fun _ _ _ _ _ => (de_h h_nearest_difference (hr.mono (by decide)) gd (da_cons (de_var 5) (da_cons (de_var 6) (da_cons (de_var 7) da_nil))))) (keep_tup (keep_cons keep_name (keep_cons keep_name (keep_cons keep_name keep_nil (fun _ _ _ _ _ h1 h2 => h1 _ _ h2)) (fun _ _ _ _ _ h1 h2 => h1 _ _ h2)) (fun _ _ _ _ _ h1 h2 => h1 _ _ h2))) (by rfl)) (dss_one (ds_ret (de_h h_joined_parts (hr.mono (by decide)) gd (da_cons (de_var 0) (da_cons (de_lc (own := [("step", 8)]) rfl sc_floor_of.nd (di_seq (de_var 4)) (show BlkOk ["kind", "region", "vector", "away", "steps", "low", "high", "integer", "step"] (defScope s_floor_of) _ [("step", 8)] from ⟨rfl, by decide +kernel, by decide +kernel, by decide +kernel, by decide +kernel⟩) (fun _ _ _ _ _ => (dg_name 8 sc_floor_of.nd)) (fun _ _ _ _ _ => dts_nil) (fun _ _ _ _ _ => (de_h h_part_of (hr.mono (by decide)) gd (da_cons (de_var 0) (da_cons (de_var 8) da_nil)))) keep_name) da_nil)))))) dss_nil) (dss_cons (ds_set 3 sc_floor_of.nd (de_h h_distance (hr.mono (by decide)) gd (da_cons (de_var 0) (da_cons (de_ix (de_var 1) de_int) (da_cons (de_var 2) da_nil))))) (dss_cons (ds_if (DW.dt (dw_and (dt_cmp (op_eqV hr) sim_eqV (de_ix (de_var 1) de_int) de_str) (dw_and1 (dt_cmp op_lt sim_lt (de_var 3) (de_ix (de_var 1) de_int))))) (dss_one (ds_ret (de_h h_gap_of (hr.mono (by decide)) gd (da_cons (de_var 0) (da_cons (de_ix (de_var 1) de_int) (da_cons (de_var 3) da_nil)))))) dss_nil) (dss_one (ds_ret (de_h h_least_beyond (hr.mono (by decide)) gd (da_cons (de_var 0) (da_cons (de_var 3) (da_cons (de_ix (de_var 1) (de_neg de_int)) da_nil)))))))))⟩
theorem ok_floor_of {f : Addr} {fd : FuncData} (Fn : Fun K "floor_of" "floor_of" s_floor_of f fd) (T : Txt K mg aKINDS) (h_part_of : Has P w K mg base 1 "part_of" s_part_of ["kind", "difference"] F_part_of) (h_joined_parts : Has P w K mg base 1 "joined_parts" s_joined_parts ["kind", "parts"] F_joined_parts) (h_distance : Has P w K mg base 2 "distance" s_distance ["kind", "one", "other"] F_distance) (h_gap_of : Has P w K mg base 2 "gap_of" s_gap_of ["kind", "one", "other"] F_gap_of) (h_least_beyond : Has P w K mg base 3 "least_beyond" s_least_beyond ["kind", "from_centre", "radius"] F_least_beyond) (h_nearest_difference : Has P w K mg base 1 "nearest_difference" s_nearest_difference ["low", "high", "integer"] F_nearest_difference) (len : ∀ ds M Q E, F_floor_of ds M Q E → ds.length = 3)
    (body : ∀ ds M Q R, F_floor_of ds M Q R → W_floor_of { nx := fun _ M' => Q .non M', rt := Q, xr := R } (startE 9 ds) M) : FnG P w K mg base 4 f fd ["kind", "region", "vector"] (lift K F_floor_of) :=
  ok_fn Fn sc_floor_of len fun cdv A outer s H E gd hr => (dv_floor_of T h_part_of h_joined_parts h_distance h_gap_of h_least_beyond h_nearest_difference cdv A outer s H E gd hr).elim fun t ht => ⟨t, _, ht, body⟩

theorem sc_ceiling_of : FnScope ["kind", "region", "vector", "most", "steps", "low", "high", "integer", "step"] ["kind", "region", "vector"] (defScope s_ceiling_of) := ⟨rfl, rfl, rfl, by decide +kernel, rfl, by decide +kernel, by decide +kernel⟩
abbrev W_ceiling_of : WS := (wSeq (wIfS (wB (wOp (eqV false) (wOp ixD (wVar 1) (wC (.int 0))) (wC (.str "box")))) (wSeq (wAsg (wLc (wiZip3 (wCons (wOp ixD (wVar 1) (wC (.int 1))) (wCons (wOp ixD (wVar 1) (wC (.int 2))) (wCons (wVar 2) wNil)))) (wgTup 3 (wgCons (wgName 5) (wgCons (wgName 6) (wgCons (wgName 7) wgNil)))) wYes (wCall F_farthest_difference (wCons (wVar 5) (wCons (wVar 6) (wCons (wVar 7) wNil)))) [5, 6, 7]) (wgName 4)) (wRet (wCall F_joined_parts (wCons (wVar 0) (wCons (wLc (wiSeq (wVar 4)) (wgName 8) wYes (wCall F_part_of (wCons (wVar 0) (wCons (wVar 8) wNil))) [8]) wNil))))) wNext) (wSeq (wAsg (wCall F_most_beyond (wCons (wVar 0) (wCons (wCall F_distance (wCons (wVar 0) (wCons (wOp ixD (wVar 1) (wC (.int 1))) (wCons (wVar 2) wNil)))) (wCons (wOp ixD (wVar 1) (wNeg (wC (.int 1)))) wNil)))) (wgName 3)) (wRet (wIf (wB (wOp (eqV false) (wVar 0) (wC (.str "unlike")))) (wCB (f2I fun i j => if j < i then j else i) (wCons (wVar 3) (wCons (wCB fLen (wCons (wVar 2) wNil)) wNil))) (wVar 3)))))
theorem dv_ceiling_of {f : Addr} (T : Txt K mg aKINDS) (h_part_of : Has P w K mg base 1 "part_of" s_part_of ["kind", "difference"] F_part_of) (h_joined_parts : Has P w K mg base 1 "joined_parts" s_joined_parts ["kind", "parts"] F_joined_parts) (h_distance : Has P w K mg base 2 "distance" s_distance ["kind", "one", "other"] F_distance) (h_most_beyond : Has P w K mg base 2 "most_beyond" s_most_beyond ["kind", "from_centre", "radius"] F_most_beyond) (h_farthest_difference : Has P w K mg base 1 "farthest_difference" s_farthest_difference ["low", "high", "integer"] F_farthest_difference) (cdv : Value) (A : Around) (outer : List Env) (s : Shared) (H : Hp) (E : XK) (gd : A.guards = some []) (hr : Room 2 (A.deeper (envOfC "ceiling_of" (defScope s_ceiling_of) s.heap.objs.size f cdv))) :
    ∃ t, DSs (cxOf (L2.CX P w) P w K mg base ["kind", "region", "vector", "most", "steps", "low", "high", "integer", "step"] "ceiling_of" (defScope s_ceiling_of) f cdv A outer s H E) E (defBody s_ceiling_of) t W_ceiling_of := ⟨_, (dss_cons (ds_if (dt_cmp (op_eqV hr) sim_eqV (de_ix (de_var 1) de_int) de_str) (dss_cons (ds_setLc 4 (own := [("low", 5), ("high", 6), ("integer", 7)]) rfl sc_ceiling_of.nd (di_zip3 T.z_zip (da_cons (de_ix (de_var 1) de_int) (da_cons (de_ix (de_var 1) de_int) (da_cons (de_var 2) da_nil)))) (show BlkOk ["kind", "region", "vector", "most", "steps", "low", "high", "integer", "step"] (defScope s_ceiling_of) _ [("low", 5), ("high", 6), ("integer", 7)] from ⟨rfl, by decide +kernel, by decide +kernel, by decide +kernel, by decide +kernel⟩) (fun _ _ _ _ _ => (dg_tup rfl (dgs_cons (dg_name 5 sc_ceiling_of.nd) (dgs_cons (dg_name 6 sc_ceiling_of.nd) (dgs_cons (dg_name 7 sc_ceiling_of.nd) dgs_nil))))) (fun _ _ _ _ _ => dts_nil) (fun _ _ _ _ _ => (de_h h_farthest_difference (hr.mono (by decide)) gd (da_cons (de_var 5) (da_cons (de_var 6) (da_cons (de_var 7) da_nil))))) (keep_tup (keep_cons keep_name (keep_cons keep_name (keep_cons keep_name keep_nil (fun _ _ _ _ _ h1 h2 => h1 _ _ h2)) (fun _ _ _ _ _ h1 h2 => h1 _ _ h2)) (fun _ _ _ _ _ h1 h2 => h1 _ _ h2))) (by rfl)) (dss_one (ds_ret (de_h h_joined_parts (hr.mono (by decide)) gd (da_cons (de_var 0) (da_cons (de_lc (own := [("step", 8)]) rfl sc_ceiling_of.nd (di_seq (de_var 4)) (show BlkOk ["kind", "region", "vector", "most", "steps", "low", "high", "integer", "step"] (defScope s_ceiling_of) _ [("step", 8)] from ⟨rfl, by decide +kernel, by decide +kernel, by decide +kernel, by decide +kernel⟩) (fun _ _ _ _ _ => (dg_name 8 sc_ceiling_of.nd)) (fun _ _ _ _ _ => dts_nil) (fun _ _ _ _ _ => (de_h h_part_of (hr.mono (by decide)) gd (da_cons (de_var 0) (da_cons (de_var 8) da_nil)))) keep_name) da_nil)))))) dss_nil) (dss_cons (ds_set 3 sc_ceiling_of.nd (de_h h_most_beyond (hr.mono (by decide)) gd (da_cons (de_var 0) (da_cons (de_h h_distance (hr.mono (by decide)) gd (da_cons (de_var 0) (da_cons (de_ix (de_var 1) de_int) (da_cons (de_var 2) da_nil)))) (da_cons (de_ix (de_var 1) (de_neg de_int)) da_nil))))) (dss_one (ds_ret (de_if (dt_cmp (op_eqV hr) sim_eqV (de_var 0) de_str) (de_callB (call_min2 rfl) sim_2I T.z_min (show bootBuiltins "min" = some (.builtin "min") from rfl) (da_cons (de_var 3) (da_cons (de_callB call_lenA sim_len T.z_len (show bootBuiltins "len" = some (.builtin "len") from rfl) (da_cons (de_var 2) da_nil)) da_nil))) (de_var 3))))))⟩
theorem ok_ceiling_of {f : Addr} {fd : FuncData} (Fn : Fun K "ceiling_of" "ceiling_of" s_ceiling_of f fd) (T : Txt K mg aKINDS) (h_part_of : Has P w K mg base 1 "part_of" s_part_of ["kind", "difference"] F_part_of) (h_joined_parts : Has P w K mg base 1 "joined_parts" s_joined_parts ["kind", "parts"] F_joined_parts) (h_distance : Has P w K mg base 2 "distance" s_distance ["kind", "one", "other"] F_distance) (h_most_beyond : Has P w K mg base 2 "most_beyond" s_most_beyond ["kind", "from_centre", "radius"] F_most_beyond) (h_farthest_difference : Has P w K mg base 1 "farthest_difference" s_farthest_difference ["low", "high", "integer"] F_farthest_difference) (len : ∀ ds M Q E, F_ceiling_of ds M Q E → ds.length = 3)
    (body : ∀ ds M Q R, F_ceiling_of ds M Q R → W_ceiling_of { nx := fun _ M' => Q .non M', rt := Q, xr := R } (startE 9 ds) M) : FnG P w K mg base 3 f fd ["kind", "region", "vector"] (lift K F_ceiling_of) :=
  ok_fn Fn sc_ceiling_of len fun cdv A outer s H E gd hr => (dv_ceiling_of T h_part_of h_joined_parts h_distance h_most_beyond h_farthest_difference cdv A outer s H E gd hr).elim fun t ht => ⟨t, _, ht, body⟩

theorem sc__law_heap : FnScope ["script", "cell", "cells", "stir"] ["script"] (defScope s__law_heap) := ⟨rfl, rfl, rfl, by decide +kernel, rfl, by decide +kernel, by decide +kernel⟩
abbrev W__law_heap : WS := (wSeq (wPar 2 3 (wCons (wLc (wiSeq (wSl (wVar 0) wNoP (wPart (wC (.int 60))))) (wgName 1) wYes (wOp addD (wOp (fI CM fun i j => .int (i * j)) (wC (.int 2)) (wCB fAbs (wCons (wVar 1) wNil))) (wCB fInt (wCons (wOp fLt (wVar 1) (wC (.int 0))) wNil))) [1]) (wCons (wC (.int 21023)) wNil))) (wSeq (wFor (wiSeq (wVar 2)) (wgName 1) (wAsg (wOp (fI (fun _ j => 0 < j) fun i j => .int (i % j)) (wCB fInt (wCons (wOp addD (wOp addD (wOp (fI CM fun i j => .int (i * j)) (wVar 3) (wC (.int 69621))) (wOp (fI (fun _ j => 0 < j) fun i j => .int (i % j)) (wCB fInt (wCons (wVar 1) wNil)) (wC (.int 2147483543)))) (wC (.int 29))) wNil)) (wC (.int 2147483647))) (wgName 3))) (wRet (wDrw (wLc (wiSeq (wVar 2)) (wgName 1) (wB (wOp fGe (wVar 1) (wOp (fI CPow fun i j => .int (i ^ j.toNat)) (wC (.int 10)) (wC (.int 18))))) (wVar 1) [1]) 3))))
theorem dv__law_heap {f : Addr} (T : Txt K mg aKINDS) (cdv : Value) (A : Around) (outer : List Env) (s : Shared) (H : Hp) (E : XK) (gd : A.guards = some []) (hr : Room 0 (A.deeper (envOfC "_law_heap" (defScope s__law_heap) s.heap.objs.size f cdv))) :
    ∃ t, DSs (cxOf (L2.CX P w) P w K mg base ["script", "cell", "cells", "stir"] "_law_heap" (defScope s__law_heap) f cdv A outer s H E) E (defBody s__law_heap) t W__law_heap := ⟨_, (dss_cons (ds_par 2 3 rfl sc__law_heap.nd (da_cons (de_lc (own := [("cell", 1)]) rfl sc__law_heap.nd (di_seq (de_slice (de_var 0) do_none (do_some de_int))) (show BlkOk ["script", "cell", "cells", "stir"] (defScope s__law_heap) _ [("cell", 1)] from ⟨rfl, by decide +kernel, by decide +kernel, by decide +kernel, by decide +kernel⟩) (fun _ _ _ _ _ => (dg_name 1 sc__law_heap.nd)) (fun _ _ _ _ _ => dts_nil) (fun _ _ _ _ _ => (de_add (de_mul de_int (de_callB call_abs sim_abs T.z_abs (show bootBuiltins "abs" = some (.builtin "abs") from rfl) (da_cons (de_var 1) da_nil))) (de_callTy call_int1 sim_int T.z_int (show bootBuiltins "int" = some (.type "int") from rfl) (da_cons (de_cmp op_lt sim_lt (de_var 1) de_int) da_nil)))) keep_name) (da_cons de_int da_nil))) (dss_cons (ds_for (passes_of rfl) rfl (di_seq (de_var 2)) (dg_name 1 sc__law_heap.nd) (dss_one (ds_set 3 sc__law_heap.nd (de_mod (de_callTy call_int1 sim_int T.z_int (show bootBuiltins "int" = some (.type "int") from rfl) (da_cons (de_add (de_add (de_mul (de_var 3) de_int) (de_mod (de_callTy call_int1 sim_int T.z_int (show bootBuiltins "int" = some (.type "int") from rfl) (da_cons (de_var 1) da_nil)) de_int)) de_int) da_nil)) de_int)))) (dss_one (ds_ret (de_drw 3 (de_lc (own := [("cell", 1)]) rfl sc__law_heap.nd (di_seq (de_var 2)) (show BlkOk ["script", "cell", "cells", "stir"] (defScope s__law_heap) _ [("cell", 1)] from ⟨rfl, by decide +kernel, by decide +kernel, by decide +kernel, by decide +kernel⟩) (fun _ _ _ _ _ => (dg_name 1 sc__law_heap.nd)) (fun _ _ _ _ _ => (dts_one (dt_cmp op_ge sim_ge (de_var 1) (de_pow de_int de_int)))) (fun _ _ _ _ _ => (de_var 1)) keep_name))))))⟩
theorem ok__law_heap {f : Addr} {fd : FuncData} (Fn : Fun K "_law_heap" "_law_heap" s__law_heap f fd) (T : Txt K mg aKINDS) (len : ∀ ds M Q E, F__law_heap ds M Q E → ds.length = 1)
    (body : ∀ ds M Q R, F__law_heap ds M Q R → W__law_heap { nx := fun _ M' => Q .non M', rt := Q, xr := R } (startE 4 ds) M) : FnG P w K mg base 1 f fd ["script"] (lift K F__law_heap) :=
  ok_fn Fn sc__law_heap len fun cdv A outer s H E gd hr => (dv__law_heap T cdv A outer s H E gd hr).elim fun t ht => ⟨t, _, ht, body⟩

theorem sc__law_draw : FnScope ["heap", "many", "rest"] ["heap", "many"] (defScope s__law_draw) := ⟨rfl, rfl, rfl, by decide +kernel, rfl, by decide +kernel, by decide +kernel⟩

theorem sc__law_pick : FnScope ["heap", "some"] ["heap", "some"] (defScope s__law_pick) := ⟨rfl, rfl, rfl, by decide +kernel, rfl, by decide +kernel, by decide +kernel⟩
abbrev W__law_pick : WS := (wRet (wOp ixD (wVar 1) (wCall F__law_draw (wCons (wVar 0) (wCons (wCB fLen (wCons (wVar 1) wNil)) wNil)))))
theorem dv__law_pick {f : Addr} (T : Txt K mg aKINDS) (h__law_draw : Has P w K mg base 1 "_law_draw" s__law_draw ["heap", "many"] F__law_draw) (cdv : Value) (A : Around) (outer : List Env) (s : Shared) (H : Hp) (E : XK) (gd : A.guards = some []) (hr : Room 1 (A.deeper (envOfC "_law_pick" (defScope s__law_pick) s.heap.objs.size f cdv))) :
    ∃ t, DSs (cxOf (L2.CX P w) P w K mg base ["heap", "some"] "_law_pick" (defScope s__law_pick) f cdv A outer s H E) E (defBody s__law_pick) t W__law_pick := ⟨_, (dss_one (ds_ret (de_ix (de_var 1) (de_h h__law_draw (hr.mono (by decide)) gd (da_cons (de_var 0) (da_cons (de_callB call_lenA sim_len T.z_len (show bootBuiltins "len" = some (.builtin "len") from rfl) (da_cons (de_var 1) da_nil)) da_nil))))))⟩
theorem ok__law_pick {f : Addr} {fd : FuncData} (Fn : Fun K "_law_pick" "_law_pick" s__law_pick f fd) (T : Txt K mg aKINDS) (h__law_draw : Has P w K mg base 1 "_law_draw" s__law_draw ["heap", "many"] F__law_draw) (len : ∀ ds M Q E, F__law_pick ds M Q E → ds.length = 2)
    (body : ∀ ds M Q R, F__law_pick ds M Q R → W__law_pick { nx := fun _ M' => Q .non M', rt := Q, xr := R } (startE 2 ds) M) : FnG P w K mg base 2 f fd ["heap", "some"] (lift K F__law_pick) :=
  ok_fn Fn sc__law_pick len fun cdv A outer s H E gd hr => (dv__law_pick T h__law_draw cdv A outer s H E gd hr).elim fun t ht => ⟨t, _, ht, body⟩

theorem sc__law_part : FnScope ["kind", "one", "other", "size"] ["kind", "one", "other"] (defScope s__law_part) := ⟨rfl, rfl, rfl, by decide +kernel, rfl, by decide +kernel, by decide +kernel⟩
abbrev W__law_part : WS := (wSeq (wAsg (wIf (wB (wOp fGt (wVar 1) (wVar 2))) (wOp (fI0 fun i j => .int (i - j)) (wVar 1) (wVar 2)) (wOp (fI0 fun i j => .int (i - j)) (wVar 2) (wVar 1))) (wgName 3)) (wRet (wIf (wB (wOp (eqV false) (wVar 0) (wC (.str "square")))) (wOp (fI CM fun i j => .int (i * j)) (wVar 3) (wVar 3)) (wIf (wB (wOp (eqV false) (wVar 0) (wC (.str "unlike")))) (wCB fInt (wCons (wOp fGt (wVar 3) (wC (.int 0))) wNil)) (wVar 3)))))
theorem dv__law_part {f : Addr} (T : Txt K mg aKINDS) (cdv : Value) (A : Around) (outer : List Env) (s : Shared) (H : Hp) (E : XK) (gd : A.guards = some []) (hr : Room 0 (A.deeper (envOfC "_law_part" (defScope s__law_part) s.heap.objs.size f cdv))) :
    ∃ t, DSs (cxOf (L2.CX P w) P w K mg base ["kind", "one", "other", "size"] "_law_part" (defScope s__law_part) f cdv A outer s H E) E (defBody s__law_part) t W__law_part := ⟨_, (dss_cons (ds_set 3 sc__law_part.nd (de_if (dt_cmp op_gt sim_gt (de_var 1) (de_var 2)) (de_sub (de_var 1) (de_var 2)) (de_sub (de_var 2) (de_var 1)))) (dss_one (ds_ret (de_if (dt_cmp (op_eqV hr) sim_eqV (de_var 0) de_str) (de_mul (de_var 3) (de_var 3)) (de_if (dt_cmp (op_eqV hr) sim_eqV (de_var 0) de_str) (de_callTy call_int1 sim_int T.z_int (show bootBuiltins "int" = some (.type "int") from rfl) (da_cons (de_cmp op_gt sim_gt (de_var 3) de_int) da_nil)) (de_var 3))))))⟩
theorem ok__law_part {f : Addr} {fd : FuncData} (Fn : Fun K "_law_part" "_law_part" s__law_part f fd) (T : Txt K mg aKINDS) (len : ∀ ds M Q E, F__law_part ds M Q E → ds.length = 3)
    (body : ∀ ds M Q R, F__law_part ds M Q R → W__law_part { nx := fun _ M' => Q .non M', rt := Q, xr := R } (startE 4 ds) M) : FnG P w K mg base 1 f fd ["kind", "one", "other"] (lift K F__law_part) :=
  ok_fn Fn sc__law_part len fun cdv A outer s H E gd hr => (dv__law_part T cdv A outer s H E gd hr).elim fun t ht => ⟨t, _, ht, body⟩

theorem sc__law_distance : FnScope ["kind", "one", "other", "found", "place", "part"] ["kind", "one", "other"] (defScope s__law_distance) := ⟨rfl, rfl, rfl, by decide +kernel, rfl, by decide +kernel, by decide +kernel⟩
abbrev W__law_distance : WS := (wSeq (wAsg (wC (.int 0)) (wgName 3)) (wSeq (wFor (wiRange1 (wCons (wCB fLen (wCons (wVar 1) wNil)) wNil)) (wgName 4) (wSeq (wAsg (wCall F__law_part (wCons (wVar 0) (wCons (wOp ixD (wVar 1) (wVar 4)) (wCons (wOp ixD (wVar 2) (wVar 4)) wNil)))) (wgName 5)) (wAsg (wIf (wB (wOp (eqV false) (wVar 0) (wC (.str "most")))) (wIf (wB (wOp fGt (wVar 5) (wVar 3))) (wVar 5) (wVar 3)) (wOp addD (wVar 3) (wVar 5))) (wgName 3)))) (wRet (wVar 3))))
theorem dv__law_distance {f : Addr} (T : Txt K mg aKINDS) (h__law_part : Has P w K mg base 1 "_law_part" s__law_part ["kind", "one", "other"] F__law_part) (cdv : Value) (A : Around) (outer : List Env) (s : Shared) (H : Hp) (E : XK) (gd : A.guards = some []) (hr : Room 1 (A.deeper (envOfC "_law_distance" (defScope s__law_distance) s.heap.objs.size f cdv))) :
    ∃ t, DSs (cxOf (L2.CX P w) P w K mg base ["kind", "one", "other", "found", "place", "part"] "_law_distance" (defScope s__law_distance) f cdv A outer s H E) E (defBody s__law_distance) t W__law_distance := ⟨_, (dss_cons (ds_set 3 sc__law_distance.nd de_int) (dss_cons (ds_for (passes_of rfl) rfl (di_range1 T.z_range (da_cons (de_callB call_lenA sim_len T.z_len (show bootBuiltins "len" = some (.builtin "len") from rfl) (da_cons (de_var 1) da_nil)) da_nil)) (dg_name 4 sc__law_distance.nd) (dss_cons (ds_set 5 sc__law_distance.nd (de_h h__law_part (hr.mono (by decide)) gd (da_cons (de_var 0) (da_cons (de_ix (de_var 1) (de_var 4)) (da_cons (de_ix (de_var 2) (de_var 4)) da_nil))))) (dss_one (ds_set 3 sc__law_distance.nd (de_if (dt_cmp (op_eqV hr) sim_eqV (de_var 0) de_str) (de_if (dt_cmp op_gt sim_gt (de_var 5) (de_var 3)) (de_var 5) (de_var 3)) (de_add (de_var 3) (de_var 5))))))) (dss_one (ds_ret (de_var 3)))))⟩
theorem ok__law_distance {f : Addr} {fd : FuncData} (Fn : Fun K "_law_distance" "_law_distance" s__law_distance f fd) (T : Txt K mg aKINDS) (h__law_part : Has P w K mg base 1 "_law_part" s__law_part ["kind", "one", "other"] F__law_part) (len : ∀ ds M Q E, F__law_distance ds M Q E → ds.length = 3)
    (body : ∀ ds M Q R, F__law_distance ds M Q R → W__law_distance { nx := fun _ M' => Q .non M', rt := Q, xr := R } (startE 6 ds) M) : FnG P w K mg base 2 f fd ["kind", "one", "other"] (lift K F__law_distance) :=
  ok_fn Fn sc__law_distance len fun cdv A outer s H E gd hr => (dv__law_distance T h__law_part cdv A outer s H E gd hr).elim fun t ht => ⟨t, _, ht, body⟩

theorem sc__law_root : FnScope ["number", "turn", "low", "high", "middle"] ["number"] (defScope s__law_root) := ⟨rfl, rfl, rfl, by decide +kernel, rfl, by decide +kernel, by decide +kernel⟩
abbrev W__law_root : WS := (wSeq (wAsg (wTup (wCons (wC (.int 0)) (wCons (wC (.int 1)) wNil))) (wgTup 2 (wgCons (wgName 2) (wgCons (wgName 3) wgNil)))) (wSeq (wFor (wiRange1 (wCons (wC (.int 40)) wNil)) (wgName 1) (wSeq (wIfS (wB (wOp fGt (wOp (fI CM fun i j => .int (i * j)) (wVar 3) (wVar 3)) (wVar 0))) wBreak wNext) (wAsg (wOp (fI CM fun i j => .int (i * j)) (wVar 3) (wC (.int 2))) (wgName 3)))) (wSeq (wFor (wiRange1 (wCons (wC (.int 40)) wNil)) (wgName 1) (wSeq (wIfS (wB (wOp fLe (wOp (fI0 fun i j => .int (i - j)) (wVar 3) (wVar 2)) (wC (.int 1)))) wBreak wNext) (wSeq (wAsg (wOp (fI CDivW fun i j => .int (i / j)) (wOp addD (wVar 2) (wVar 3)) (wC (.int 2))) (wgName 4)) (wIfS (wB (wOp fLe (wOp (fI CM fun i j => .int (i * j)) (wVar 4) (wVar 4)) (wVar 0))) (wAsg (wVar 4) (wgName 2)) (wAsg (wVar 4) (wgName 3)))))) (wRet (wVar 2)))))
theorem dv__law_root {f : Addr} (T : Txt K mg aKINDS) (cdv : Value) (A : Around) (outer : List Env) (s : Shared) (H : Hp) (E : XK) (gd : A.guards = some []) (hr : Room 0 (A.deeper (envOfC "_law_root" (defScope s__law_root) s.heap.objs.size f cdv))) :
    ∃ t, DSs (cxOf (L2.CX P w) P w K mg base ["number", "turn", "low", "high", "middle"] "_law_root" (defScope s__law_root) f cdv A outer s H E) E (defBody s__law_root) t W__law_root := ⟨_, (dss_cons (ds_asg (de_tup (da_cons de_int (da_cons de_int da_nil))) (dg_tup rfl (dgs_cons (dg_name 2 sc__law_root.nd) (dgs_cons (dg_name 3 sc__law_root.nd) dgs_nil)))) (dss_cons (ds_for (passes_of rfl) rfl (di_range1 T.z_range (da_cons de_int da_nil)) (dg_name 1 sc__law_root.nd) (dss_cons (ds_if (dt_cmp op_gt sim_gt (de_mul (de_var 3) (de_var 3)) (de_var 0)) (dss_one ds_break) dss_nil) (dss_one (ds_set 3 sc__law_root.nd (de_mul (de_var 3) de_int))))) (dss_cons (ds_for (passes_of rfl) rfl (di_range1 T.z_range (da_cons de_int da_nil)) (dg_name 1 sc__law_root.nd) (dss_cons (ds_if (dt_cmp op_le sim_le (de_sub (de_var 3) (de_var 2)) de_int) (dss_one ds_break) dss_nil) (dss_cons (ds_set 4 sc__law_root.nd (de_fdiv (de_add (de_var 2) (de_var 3)) de_int)) (dss_one (ds_if (dt_cmp op_le sim_le (de_mul (de_var 4) (de_var 4)) (de_var 0)) (dss_one (ds_set 2 sc__law_root.nd (de_var 4))) (dss_one (ds_set 3 sc__law_root.nd (de_var 4)))))))) (dss_one (ds_ret (de_var 2))))))⟩
theorem ok__law_root {f : Addr} {fd : FuncData} (Fn : Fun K "_law_root" "_law_root" s__law_root f fd) (T : Txt K mg aKINDS) (len : ∀ ds M Q E, F__law_root ds M Q E → ds.length = 1)
    (body : ∀ ds M Q R, F__law_root ds M Q R → W__law_root { nx := fun _ M' => Q .non M', rt := Q, xr := R } (startE 5 ds) M) : FnG P w K mg base 1 f fd ["number"] (lift K F__law_root) :=
  ok_fn Fn sc__law_root len fun cdv A outer s H E gd hr => (dv__law_root T cdv A outer s H E gd hr).elim fun t ht => ⟨t, _, ht, body⟩

theorem sc__law_gap : FnScope ["kind", "one", "other"] ["kind", "one", "other"] (defScope s__law_gap) := ⟨rfl, rfl, rfl, by decide +kernel, rfl, by decide +kernel, by decide +kernel⟩
abbrev W__law_gap : WS := (wRet (wIf (wB (wOp (eqV false) (wVar 0) (wC (.str "square")))) (wOp (fI0 fun i j => .int (i - j)) (wOp addD (wVar 1) (wVar 2)) (wCall F__law_root (wCons (wOp (fI CM fun i j => .int (i * j)) (wOp (fI CM fun i j => .int (i * j)) (wC (.int 4)) (wVar 1)) (wVar 2)) wNil))) (wOp (fI0 fun i j => .int (i - j)) (wCB (f2I fun i j => if j > i then j else i) (wCons (wVar 1) (wCons (wVar 2) wNil))) (wCB (f2I fun i j => if j < i then j else i) (wCons (wVar 1) (wCons (wVar 2) wNil))))))
theorem dv__law_gap {f : Addr} (T : Txt K mg aKINDS) (h__law_root : Has P w K mg base 1 "_law_root" s__law_root ["number"] F__law_root) (cdv : Value) (A : Around) (outer : List Env) (s : Shared) (H : Hp) (E : XK) (gd : A.guards = some []) (hr : Room 1 (A.deeper (envOfC "_law_gap" (defScope s__law_gap) s.heap.objs.size f cdv))) :
    ∃ t, DSs (cxOf (L2.CX P w) P w K mg base ["kind", "one", "other"] "_law_gap" (defScope s__law_gap) f cdv A outer s H E) E (defBody s__law_gap) t W__law_gap := ⟨_, (dss_one (ds_ret (de_if (dt_cmp (op_eqV hr) sim_eqV (de_var 0) de_str) (de_sub (de_add (de_var 1) (de_var 2)) (de_h h__law_root (hr.mono (by decide)) gd (da_cons (de_mul (de_mul de_int (de_var 1)) (de_var 2)) da_nil))) (de_sub (de_callB (call_max2 rfl) sim_2I T.z_max (show bootBuiltins "max" = some (.builtin "max") from rfl) (da_cons (de_var 1) (da_cons (de_var 2) da_nil))) (de_callB (call_min2 rfl) sim_2I T.z_min (show bootBuiltins "min" = some (.builtin "min") from rfl) (da_cons (de_var 1) (da_cons (de_var 2) da_nil)))))))⟩
theorem ok__law_gap {f : Addr} {fd : FuncData} (Fn : Fun K "_law_gap" "_law_gap" s__law_gap f fd) (T : Txt K mg aKINDS) (h__law_root : Has P w K mg base 1 "_law_root" s__law_root ["number"] F__law_root) (len : ∀ ds M Q E, F__law_gap ds M Q E → ds.length = 3)
    (body : ∀ ds M Q R, F__law_gap ds M Q R → W__law_gap { nx := fun _ M' => Q .non M', rt := Q, xr := R } (startE 3 ds) M) : FnG P w K mg base 2 f fd ["kind", "one", "other"] (lift K F__law_gap) :=
  ok_fn Fn sc__law_gap len fun cdv A outer s H E gd hr => (dv__law_gap T h__law_root cdv A outer s H E gd hr).elim fun t ht => ⟨t, _, ht, body⟩

theorem sc__law_most : FnScope ["kind", "one", "other"] ["kind", "one", "other"] (defScope s__law_most) := ⟨rfl, rfl, rfl, by decide +kernel, rfl, by decide +kernel, by decide +kernel⟩
abbrev W__law_most : WS := (wRet (wOp addD (wOp addD (wVar 1) (wVar 2)) (wIf (wB (wOp (eqV false) (wVar 0) (wC (.str "square")))) (wCall F__law_root (wCons (wOp (fI CM fun i j => .int (i * j)) (wOp (fI CM fun i j => .int (i * j)) (wC (.int 4)) (wVar 1)) (wVar 2)) wNil)) (wC (.int 0)))))
theorem dv__law_most {f : Addr} (T : Txt K mg aKINDS) (h__law_root : Has P w K mg base 1 "_law_root" s__law_root ["number"] F__law_root) (cdv : Value) (A : Around) (outer : List Env) (s : Shared) (H : Hp) (E : XK) (gd : A.guards = some []) (hr : Room 1 (A.deeper (envOfC "_law_most" (defScope s__law_most) s.heap.objs.size f cdv))) :
    ∃ t, DSs (cxOf (L2.CX P w) P w K mg base ["kind", "one", "other"] "_law_most" (defScope s__law_most) f cdv A outer s H E) E (defBody s__law_most) t W__law_most := ⟨_, (dss_one (ds_ret (de_add (de_add (de_var 1) (de_var 2)) (de_if (dt_cmp (op_eqV hr) sim_eqV (de_var 0) de_str) (de_h h__law_root (hr.mono (by decide)) gd (da_cons (de_mul (de_mul de_int (de_var 1)) (de_var 2)) da_nil)) de_int))))⟩
theorem ok__law_most {f : Addr} {fd : FuncData} (Fn : Fun K "_law_most" "_law_most" s__law_most f fd) (T : Txt K mg aKINDS) (h__law_root : Has P w K mg base 1 "_law_root" s__law_root ["number"] F__law_root) (len : ∀ ds M Q E, F__law_most ds M Q E → ds.length = 3)
    (body : ∀ ds M Q R, F__law_most ds M Q R → W__law_most { nx := fun _ M' => Q .non M', rt := Q, xr := R } (startE 3 ds) M) : FnG P w K mg base 2 f fd ["kind", "one", "other"] (lift K F__law_most) :=
  ok_fn Fn sc__law_most len fun cdv A outer s H E gd hr => (dv__law_most T h__law_root cdv A outer s H E gd hr).elim fun t ht => ⟨t, _, ht, body⟩

theorem sc__law_shell : FnScope ["region"] ["region"] (defScope s__law_shell) := ⟨rfl, rfl, rfl, by decide +kernel, rfl, by decide +kernel, by decide +kernel⟩
abbrev W__law_shell : WS := (wRet (wIf (wB (wOp (eqV false) (wOp ixD (wVar 0) (wC (.int 0))) (wC (.str "ball")))) (wTup (wCons (wC (.int 0)) (wCons (wOp ixD (wVar 0) (wC (.int 2))) wNil))) (wTup (wCons (wOp ixD (wVar 0) (wC (.int 2))) (wCons (wOp ixD (wVar 0) (wC (.int 3))) wNil)))))
theorem dv__law_shell {f : Addr} (T : Txt K mg aKINDS) (cdv : Value) (A : Around) (outer : List Env) (s : Shared) (H : Hp) (E : XK) (gd : A.guards = some []) (hr : Room 0 (A.deeper (envOfC "_law_shell" (defScope s__law_shell) s.heap.objs.size f cdv))) :
    ∃ t, DSs (cxOf (L2.CX P w) P w K mg base ["region"] "_law_shell" (defScope s__law_shell) f cdv A outer s H E) E (defBody s__law_shell) t W__law_shell := ⟨_, (dss_one (ds_ret (de_if (dt_cmp (op_eqV hr) sim_eqV (de_ix (de_var 0) de_int) de_str) (de_tup (da_cons de_int (da_cons (de_ix (de_var 0) de_int) da_nil))) (de_tup (da_cons (de_ix (de_var 0) de_int) (da_cons (de_ix (de_var 0) de_int) da_nil))))))⟩
theorem ok__law_shell {f : Addr} {fd : FuncData} (Fn : Fun K "_law_shell" "_law_shell" s__law_shell f fd) (T : Txt K mg aKINDS) (len : ∀ ds M Q E, F__law_shell ds M Q E → ds.length = 1)
    (body : ∀ ds M Q R, F__law_shell ds M Q R → W__law_shell { nx := fun _ M' => Q .non M', rt := Q, xr := R } (startE 1 ds) M) : FnG P w K mg base 1 f fd ["region"] (lift K F__law_shell) :=
  ok_fn Fn sc__law_shell len fun cdv A outer s H E gd hr => (dv__law_shell T cdv A outer s H E gd hr).elim fun t ht => ⟨t, _, ht, body⟩

theorem sc__law_holds : FnScope ["kind", "region", "vector", "least", "greatest", "at"] ["kind", "region", "vector"] (defScope s__law_holds) := ⟨rfl, rfl, rfl, by decide +kernel, rfl, by decide +kernel, by decide +kernel⟩
abbrev W__law_holds : WS := (wSeq (wIfS (wB (wOp (eqV false) (wOp ixD (wVar 1) (wC (.int 0))) (wC (.str "box")))) (wRet (wCB (fBls fun bs => bs.all id) (wCons (wLc (wiRange1 (wCons (wCB fLen (wCons (wVar 2) wNil)) wNil)) (wgName 5) wYes (wChain fLe fLe (wOp ixD (wOp ixD (wVar 1) (wC (.int 1))) (wVar 5)) (wOp ixD (wVar 2) (wVar 5)) (wOp ixD (wOp ixD (wVar 1) (wC (.int 2))) (wVar 5))) [5]) wNil))) wNext) (wSeq (wAsg (wCall F__law_shell (wCons (wVar 1) wNil)) (wgTup 2 (wgCons (wgName 3) (wgCons (wgName 4) wgNil)))) (wRet (wChain fLe fLe (wVar 3) (wCall F__law_distance (wCons (wVar 0) (wCons (wOp ixD (wVar 1) (wC (.int 1))) (wCons (wVar 2) wNil)))) (wVar 4)))))
theorem dv__law_holds {f : Addr} (T : Txt K mg aKINDS) (h__law_distance : Has P w K mg base 2 "_law_distance" s__law_distance ["kind", "one", "other"] F__law_distance) (h__law_shell : Has P w K mg base 1 "_law_shell" s__law_shell ["region"] F__law_shell) (cdv : Value) (A : Around) (outer : List Env) (s : Shared) (H : Hp) (E : XK) (gd : A.guards = some []) (hr : Room 2 (A.deeper (envOfC "_law_holds" (defScope s__law_holds) s.heap.objs.size f cdv))) :
    ∃ t, DSs (cxOf (L2.CX P w) P w K mg base ["kind", "region", "vector", "least", "greatest", "at"] "_law_holds" (defScope s__law_holds) f cdv A outer s H E) E (defBody s__law_holds) t W__law_holds := ⟨_, (dss_cons (ds_if (dt_cmp (op_eqV hr) sim_eqV (de_ix (de_var 1) de_int) de_str) (dss_one (ds_ret (de_callB (cr_all rfl) sim_all T.z_all (show bootBuiltins "all" = some (.builtin "all") from rfl) (da_cons (de_lc (own := [("at", 5)]) rfl sc__law_holds.nd (di_range1 T.z_range (da_cons (de_callB call_lenA sim_len T.z_len (show bootBuiltins "len" = some (.builtin "len") from rfl) (da_cons (de_var 2) da_nil)) da_nil)) (show BlkOk ["kind", "region", "vector", "least", "greatest", "at"] (defScope s__law_holds) _ [("at", 5)] from ⟨rfl, by decide +kernel, by decide +kernel, by decide +kernel, by decide +kernel⟩) (fun _ _ _ _ _ => (dg_name 5 sc__law_holds.nd)) (fun _ _ _ _ _ => dts_nil) (fun _ _ _ _ _ => (de_chain op_le sim_le op_le sim_le (de_ix (de_ix (de_var 1) de_int) (de_var 5)) (de_ix (de_var 2) (de_var 5)) (de_ix (de_ix (de_var 1) de_int) (de_var 5)))) keep_name) da_nil)))) dss_nil) (dss_cons (ds_asg (de_h h__law_shell (hr.mono (by decide)) gd (da_cons (de_var 1) da_nil)) (dg_tup rfl (dgs_cons (dg_name 3 sc__law_holds.nd) (dgs_cons (dg_name 4 sc__law_holds.nd) dgs_nil)))) (dss_one (ds_ret (de_chain op_le sim_le op_le sim_le (de_var 3) (de_h h__law_distance (hr.mono (by decide)) gd (da_cons (de_var 0) (da_cons (de_ix (de_var 1) de_int) (da_cons (de_var 2) da_nil)))) (de_var 4))))))⟩
theorem ok__law_holds {f : Addr} {fd : FuncData} (Fn : Fun K "_law_holds" "_law_holds" s__law_holds f fd) (T : Txt K mg aKINDS) (h__law_distance : Has P w K mg base 2 "_law_distance" s__law_distance ["kind", "one", "other"] F__law_distance) (h__law_shell : Has P w K mg base 1 "_law_shell" s__law_shell ["region"] F__law_shell) (len : ∀ ds M Q E, F__law_holds ds M Q E → ds.length = 3)
    (body : ∀ ds M Q R, F__law_holds ds M Q R → W__law_holds { nx := fun _ M' => Q .non M', rt := Q, xr := R } (startE 6 ds) M) : FnG P w K mg base 3 f fd ["kind", "region", "vector"] (lift K F__law_holds) :=
  ok_fn Fn sc__law_holds len fun cdv A outer s H E gd hr => (dv__law_holds T h__law_distance h__law_shell cdv A outer s H E gd hr).elim fun t ht => ⟨t, _, ht, body⟩

theorem sc__law_region : FnScope ["heap", "kind", "places", "far", "centre", "word", "size", "place", "part"] ["heap", "kind", "places", "far"] (defScope s__law_region) := ⟨rfl, rfl, rfl, by decide +kernel, rfl, by decide +kernel, by decide +kernel⟩
abbrev W__law_region : WS := (wSeq (wAsg (wCB fTuple (wCons (wLc (wiRange1 (wCons (wVar 2) wNil)) (wgName 7) wYes (wOp (fI0 fun i j => .int (i - j)) (wCall F__law_draw (wCons (wVar 0) (wCons (wOp addD (wOp (fI CM fun i j => .int (i * j)) (wC (.int 2)) (wVar 3)) (wC (.int 1))) wNil))) (wVar 3)) [7]) wNil)) (wgName 4)) (wSeq (wAsg (wCall F__law_pick (wCons (wVar 0) (wCons (wLst (wCons (wC (.str "ball")) (wCons (wC (.str "box")) (wCons (wC (.str "cell")) wNil)))) wNil))) (wgName 5)) (wSeq (wIfS (wB (wOp (eqV false) (wVar 5) (wC (.str "box")))) (wRet (wTup (wCons (wC (.str "box")) (wCons (wVar 4) (wCons (wCB fTuple (wCons (wLc (wiSeq (wVar 4)) (wgName 8) wYes (wOp addD (wVar 8) (wCall F__law_pick (wCons (wVar 0) (wCons (wLst (wCons (wC (.int 0)) (wCons (wC (.int 1)) (wCons (wCall F__law_draw (wCons (wVar 0) (wCons (wC (.int 4)) wNil))) (wCons (wCall F__law_draw (wCons (wVar 0) (wCons (wOp addD (wVar 3) (wC (.int 1))) wNil))) wNil))))) wNil)))) [8]) wNil)) wNil))))) wNext) (wSeq (wAsg (wIf (wB (wOp (eqV false) (wVar 1) (wC (.str "unlike")))) (wCall F__law_draw (wCons (wVar 0) (wCons (wC (.int 4)) wNil))) (wCall F__law_pick (wCons (wVar 0) (wCons (wLst (wCons (wC (.int 0)) (wCons (wC (.int 1)) (wCons (wC (.int 2)) (wCons (wCall F__law_draw (wCons (wVar 0) (wCons (wC (.int 9)) wNil))) (wCons (wCall F__law_draw (wCons (wVar 0) (wCons (wOp addD (wOp (fI CM fun i j => .int (i * j)) (wVar 3) (wVar 3)) (wC (.int 1))) wNil))) wNil)))))) wNil)))) (wgName 6)) (wSeq (wIfS (wB (wOp (eqV false) (wVar 5) (wC (.str "ball")))) (wRet (wTup (wCons (wC (.str "ball")) (wCons (wVar 4) (wCons (wVar 6) wNil))))) wNext) (wRet (wTup (wCons (wC (.str "cell")) (wCons (wVar 4) (wCons (wVar 6) (wCons (wOp addD (wVar 6) (wCall F__law_pick (wCons (wVar 0) (wCons (wLst (wCons (wC (.int 0)) (wCons (wC (.int 1)) (wCons (wCall F__law_draw (wCons (wVar 0) (wCons (wC (.int 9)) wNil))) wNil)))) wNil)))) wNil)))))))))))
theorem dv__law_region {f : Addr} (T : Txt K mg aKINDS) (h__law_draw : Has P w K mg base 1 "_law_draw" s__law_draw ["heap", "many"] F__law_draw) (h__law_pick : Has P w K mg base 2 "_law_pick" s__law_pick ["heap", "some"] F__law_pick) (cdv : Value) (A : Around) (outer : List Env) (s : Shared) (H : Hp) (E : XK) (gd : A.guards = some []) (hr : Room 2 (A.deeper (envOfC "_law_region" (defScope s__law_region) s.heap.objs.size f cdv))) :
    ∃ t, DSs (cxOf (L2.CX P w) P w K mg base ["heap", "kind", "places", "far", "centre", "word", "size", "place", "part"] "_law_region" (defScope s__law_region) f cdv A outer s H E) E (defBody s__law_region) t W__law_region := ⟨_, (dss_cons (ds_set 4 sc__law_region.nd (de_callTy call_tuple_of sim_tuple T.z_tuple (show bootBuiltins "tuple" = some (.type "tuple") from rfl) (da_cons (de_lc (own := [("place", 7)]) rfl sc__law_region.nd (di_range1 T.z_range (da_cons (de_var 2) da_nil)) (show BlkOk ["heap", "kind", "places", "far", "centre", "word", "size", "place", "part"] (defScope s__law_region) _ [("place", 7)] from ⟨rfl, by decide +kernel, by decide +kernel, by decide +kernel, by decide +kernel⟩) (fun _ _ _ _ _ => (dg_name 7 sc__law_region.nd)) (fun _ _ _ _ _ => dts_nil) (fun _ _ _ _ _ => (de_sub (de_h h__law_draw (hr.mono (by decide)) gd (da_cons (de_var 0) (da_cons (de_add (de_mul de_int (de_var 3)) de_int) da_nil))) (de_var 3))) keep_name) da_nil))) (dss_cons (ds_set 5 sc__law_region.nd (de_h h__law_pick (hr.mono (by decide)) gd (da_cons (de_var 0) (da_cons (de_lst (da_cons de_str (da_cons de_str (da_cons de_str da_nil)))) da_nil)))) (dss_cons (ds_if (dt_cmp (op_eqV hr) sim_eqV (de_var 5) de_str) (dss_one (ds_ret (de_tup (da_cons de_str (da_cons (de_var 4) (da_cons (de_callTy call_tuple_of sim_tuple T.z_tuple (show bootBuiltins "tuple" = some (.type "tuple") from rfl) (da_cons (de_lc (own := [("part", 8)]) rfl sc__law_region.nd (di_seq (de_var 4)) (show BlkOk ["heap", "kind", "places", "far", "centre", "word", "size", "place", "part"] (defScope s__law_region) _ [("part", 8)] from ⟨rfl, by decide +kernel, by decide +kernel, by decide +kernel, by decide +kernel⟩) (fun _ _ _ _ _ => (dg_name 8 sc__law_region.nd)) (fun _ _ _ _ _ => dts_nil) (fun _ _ _ _ _ => (de_add (de_var 8) (de_h h__law_pick (hr.mono (by decide)) gd (da_cons (de_var 0) (da_cons (de_lst (da_cons de_int (da_cons de_int (da_cons (de_h h__law_draw (hr.mono (by decide)) gd (da_cons (de_var 0) (da_cons de_int da_nil))) (da_cons (de_h h__law_draw (hr.mono (by decide)) gd (da_cons (de_var 0) (da_cons (de_add (de_var 3) de_int) da_nil))) da_nil))))) da_nil))))) keep_name) da_nil)) da_nil)))))) dss_nil) (dss_cons (ds_set 6 sc__law_region.nd (de_if (dt_cmp (op_eqV hr) sim_eqV (de_var 1) de_str) (de_h h__law_draw (hr.mono (by decide)) gd (da_cons (de_var 0) (da_cons de_int da_nil))) (de_h h__law_pick (hr.mono (by decide)) gd (da_cons (de_var 0) (da_cons (de_lst (da_cons de_int (da_cons de_int (da_cons de_int (da_cons (de_h h__law_draw (hr.mono (by decide)) gd (da_cons (de_var 0) (da_cons de_int da_nil))) (da_cons (de_h h__law_draw (hr.mono (by decide)) gd (da_cons (de_var 0) (da_cons (de_add (de_mul (de_var 3) (de_var 3)) de_int) da_nil))) da_nil)))))) da_nil))))) (dss_cons (ds_if (dt_cmp (op_eqV hr) sim_eqV (de_var 5) de_str) (dss_one (ds_ret (de_tup (da_cons de_str (da_cons (de_var 4) (da_cons (de_var 6) da_nil)))))) dss_nil) (dss_one (ds_ret (de_tup (da_cons de_str (da_cons (de_var 4) (da_cons (de_var 6) (da_cons (de_add (de_var 6) (de_h h__law_pick (hr.mono (by decide)) gd (da_cons (de_var 0) (da_cons (de_lst (da_cons de_int (da_cons de_int (da_cons (de_h h__law_draw (hr.mono (by decide)) gd (da_cons (de_var 0) (da_cons de_int da_nil))) da_nil)))) da_nil)))) da_nil))))))))))))⟩
theorem ok__law_region {f : Addr} {fd : FuncData} (Fn : Fun K "_law_region" "_law_region" s__law_region f fd) (T : Txt K mg aKINDS) (h__law_draw : Has P w K mg base 1 "_law_draw" s__law_draw ["heap", "many"] F__law_draw) (h__law_pick : Has P w K mg base 2 "_law_pick" s__law_pick ["heap", "some"] F__law_pick) (len : ∀ ds M Q E, F__law_region ds M Q E → ds.length = 4)
    (body : ∀ ds M Q R, F__law_region ds M Q R → W__law_region { nx := fun _ M' => Q .non M', rt := Q, xr := R } (startE 9 ds) M) : FnG P w K mg base 3 f fd ["heap", "kind", "places", "far"] (lift K F__law_region) :=
  ok_fn Fn sc__law_region len fun cdv A outer s H E gd hr => (dv__law_region T h__law_draw h__law_pick cdv A outer s H E gd hr).elim fun t ht => ⟨t, _, ht, body⟩

theorem sc__law_floor : FnScope ["kind", "region", "vector", "away", "nearest", "least", "greatest", "at"] ["kind", "region", "vector"] (defScope s__law_floor) := ⟨rfl, rfl, rfl, by decide +kernel, rfl, by decide +kernel, by decide +kernel⟩
abbrev W__law_floor : WS := (wSeq (wIfS (wB (wOp (eqV false) (wOp ixD (wVar 1) (wC (.int 0))) (wC (.str "box")))) (wSeq (wAsg (wLc (wiRange1 (wCons (wCB fLen (wCons (wVar 2) wNil)) wNil)) (wgName 7) wYes (wCB (f2I fun i j => if j < i then j else i) (wCons (wCB (f2I fun i j => if j > i then j else i) (wCons (wOp ixD (wVar 2) (wVar 7)) (wCons (wOp ixD (wOp ixD (wVar 1) (wC (.int 1))) (wVar 7)) wNil))) (wCons (wOp ixD (wOp ixD (wVar 1) (wC (.int 2))) (wVar 7)) wNil))) [7]) (wgName 4)) (wRet (wCall F__law_distance (wCons (wVar 0) (wCons (wVar 2) (wCons (wVar 4) wNil)))))) wNext) (wSeq (wAsg (wCall F__law_shell (wCons (wVar 1) wNil)) (wgTup 2 (wgCons (wgName 5) (wgCons (wgName 6) wgNil)))) (wSeq (wAsg (wCall F__law_distance (wCons (wVar 0) (wCons (wVar 2) (wCons (wOp ixD (wVar 1) (wC (.int 1))) wNil)))) (wgName 3)) (wRet (wIf (wB (wOp fGt (wVar 3) (wVar 6))) (wCall F__law_gap (wCons (wVar 0) (wCons (wVar 3) (wCons (wVar 6) wNil)))) (wIf (wB (wOp fLt (wVar 3) (wVar 5))) (wCall F__law_gap (wCons (wVar 0) (wCons (wVar 3) (wCons (wVar 5) wNil)))) (wC (.int 0))))))))
theorem dv__law_floor {f : Addr} (T : Txt K mg aKINDS) (h__law_distance : Has P w K mg base 2 "_law_distance" s__law_distance ["kind", "one", "other"] F__law_distance) (h__law_gap : Has P w K mg base 2 "_law_gap" s__law_gap ["kind", "one", "other"] F__law_gap) (h__law_shell : Has P w K mg base 1 "_law_shell" s__law_shell ["region"] F__law_shell) (cdv : Value) (A : Around) (outer : List Env) (s : Shared) (H : Hp) (E : XK) (gd : A.guards = some []) (hr : Room 2 (A.deeper (envOfC "_law_floor" (defScope s__law_floor) s.heap.objs.size f cdv))) :
    ∃ t, DSs (cxOf (L2.CX P w) P w K mg base ["kind", "region", "vector", "away", "nearest", "least", "greatest", "at"] "_law_floor" (defScope s__law_floor) f cdv A outer s H E) E (defBody s__law_floor) t W__law_floor := ⟨_, (dss_cons (ds_if (dt_cmp (op_eqV hr) sim_eqV (de_ix (de_var 1) de_int) de_str) (dss_cons (ds_setLc 4 (own := [("at", 7)]) rfl sc__law_floor.nd (di_range1 T.z_range (da_cons (de_callB call_lenA sim_len T.z_len (show bootBuiltins "len" = some (.builtin "len") from rfl) (da_cons (de_var 2) da_nil)) da_nil)) (show BlkOk ["kind", "region", "vector", "away", "nearest", "least", "greatest", "at"] (defScope s__law_floor) _ [("at", 7)] from ⟨rfl, by decide +kernel, by decide +kernel, by decide +kernel, by decide +kernel⟩) (fun _ _ _ _ _ => (dg_name 7 sc__law_floor.nd)) (fun _ _ _ _ _ => dts_nil) (fun _ _ _ _ _ => (de_callB (call_min2 rfl) sim_2I T.z_min (show bootBuiltins "min" = some (.builtin "min") from rfl) (da_cons (de_callB (call_max2 rfl) sim_2I T.z_max (show bootBuiltins "max" = some (.builtin "max") from rfl) (da_cons (de_ix (de_var 2) (de_var 7)) (da_cons (de_ix (de_ix (de_var 1) de_int) (de_var 7)) da_nil))) (da_cons (de_ix (de_ix (de_var 1) de_int) (de_var 7)) da_nil)))) keep_name (by rfl)) (dss_one (ds_ret (de_h h__law_distance (hr.mono (by decide)) gd (da_cons (de_var 0) (da_cons (de_var 2) (da_cons (de_var 4) da_nil))))))) dss_nil) (dss_cons (ds_asg (de_h h__law_shell (hr.mono (by decide)) gd (da_cons (de_var 1) da_nil)) (dg_tup rfl (dgs_cons (dg_name 5 sc__law_floor.nd) (dgs_cons (dg_name 6 sc__law_floor.nd) dgs_nil)))) (dss_cons (ds_set 3 sc__law_floor.nd (de_h h__law_distance (hr.mono (by decide)) gd (da_cons (de_var 0) (da_cons (de_var 2) (da_cons (de_ix (de_var 1) de_int) da_nil))))) (dss_one (ds_ret (de_if (dt_cmp op_gt sim_gt (de_var 3) (de_var 6)) (de_h h__law_gap (hr.mono (by decide)) gd (da_cons (de_var 0) (da_cons (de_var 3) (da_cons (de_var 6) da_nil)))) (de_if (dt_cmp op_lt sim_lt (de_var 3) (de_var 5)) (de_h h__law_gap (hr.mono (by decide)) gd (da_cons (de_var 0) (da_cons (de_var 3) (da_cons (de_var 5) da_nil)))) de_int)))))))⟩
theorem ok__law_floor {f : Addr} {fd : FuncData} (Fn : Fun K "_law_floor" "_law_floor" s__law_floor f fd) (T : Txt K mg aKINDS) (h__law_distance : Has P w K mg base 2 "_law_distance" s__law_distance ["kind", "one", "other"] F__law_distance) (h__law_gap : Has P w K mg base 2 "_law_gap" s__law_gap ["kind", "one", "other"] F__law_gap) (h__law_shell : Has P w K mg base 1 "_law_shell" s__law_shell ["region"] F__law_shell) (len : ∀ ds M Q E, F__law_floor ds M Q E → ds.length = 3)
    (body : ∀ ds M Q R, F__law_floor ds M Q R → W__law_floor { nx := fun _ M' => Q .non M', rt := Q, xr := R } (startE 8 ds) M) : FnG P w K mg base 3 f fd ["kind", "region", "vector"] (lift K F__law_floor) :=
  ok_fn Fn sc__law_floor len fun cdv A outer s H E gd hr => (dv__law_floor T h__law_distance h__law_gap h__law_shell cdv A outer s H E gd hr).elim fun t ht => ⟨t, _, ht, body⟩

theorem sc__law_ceiling : FnScope ["kind", "region", "vector", "most", "farthest", "at"] ["kind", "region", "vector"] (defScope s__law_ceiling) := ⟨rfl, rfl, rfl, by decide +kernel, rfl, by decide +kernel, by decide +kernel⟩
abbrev W__law_ceiling : WS := (wSeq (wIfS (wB (wOp (eqV false) (wOp ixD (wVar 1) (wC (.int 0))) (wC (.str "box")))) (wSeq (wAsg (wLc (wiRange1 (wCons (wCB fLen (wCons (wVar 2) wNil)) wNil)) (wgName 5) wYes (wIf (wB (wOp fGe (wOp (fI CM fun i j => .int (i * j)) (wC (.int 2)) (wOp ixD (wVar 2) (wVar 5))) (wOp addD (wOp ixD (wOp ixD (wVar 1) (wC (.int 1))) (wVar 5)) (wOp ixD (wOp ixD (wVar 1) (wC (.int 2))) (wVar 5))))) (wOp ixD (wOp ixD (wVar 1) (wC (.int 1))) (wVar 5)) (wOp ixD (wOp ixD (wVar 1) (wC (.int 2))) (wVar 5))) [5]) (wgName 4)) (wSeq (wIfS (wB (wOp (eqV false) (wVar 0) (wC (.str "unlike")))) (wAsg (wLc (wiRange1 (wCons (wCB fLen (wCons (wVar 2) wNil)) wNil)) (wgName 5) wYes (wIf (wB (wOp (eqV true) (wOp ixD (wOp ixD (wVar 1) (wC (.int 2))) (wVar 5)) (wOp ixD (wVar 2) (wVar 5)))) (wOp ixD (wOp ixD (wVar 1) (wC (.int 2))) (wVar 5)) (wOp ixD (wOp ixD (wVar 1) (wC (.int 1))) (wVar 5))) [5]) (wgName 4)) wNext) (wRet (wCall F__law_distance (wCons (wVar 0) (wCons (wVar 2) (wCons (wVar 4) wNil))))))) wNext) (wSeq (wAsg (wCall F__law_most (wCons (wVar 0) (wCons (wCall F__law_distance (wCons (wVar 0) (wCons (wVar 2) (wCons (wOp ixD (wVar 1) (wC (.int 1))) wNil)))) (wCons (wOp ixD (wCall F__law_shell (wCons (wVar 1) wNil)) (wC (.int 1))) wNil)))) (wgName 3)) (wRet (wIf (wB (wOp (eqV false) (wVar 0) (wC (.str "unlike")))) (wCB (f2I fun i j => if j < i then j else i) (wCons (wVar 3) (wCons (wCB fLen (wCons (wVar 2) wNil)) wNil))) (wVar 3)))))
theorem dv__law_ceiling {f : Addr} (T : Txt K mg aKINDS) (h__law_distance : Has P w K mg base 2 "_law_distance" s__law_distance ["kind", "one", "other"] F__law_distance) (h__law_most : Has P w K mg base 2 "_law_most" s__law_most ["kind", "one", "other"] F__law_most) (h__law_shell : Has P w K mg base 1 "_law_shell" s__law_shell ["region"] F__law_shell) (cdv : Value) (A : Around) (outer : List Env) (s : Shared) (H : Hp) (E : XK) (gd : A.guards = some []) (hr : Room 2 (A.deeper (envOfC "_law_ceiling" (defScope s__law_ceiling) s.heap.objs.size f cdv))) :
    ∃ t, DSs (cxOf (L2.CX P w) P w K mg base ["kind", "region", "vector", "most", "farthest", "at"] "_law_ceiling" (defScope s__law_ceiling) f cdv A outer s H E) E (defBody s__law_ceiling) t W__law_ceiling := ⟨_, (dss_cons (ds_if (dt_cmp (op_eqV hr) sim_eqV (de_ix (de_var 1) de_int) de_str) (dss_cons (ds_setLc 4 (own := [("at", 5)]) rfl sc__law_ceiling.nd (di_range1 T.z_range (da_cons (de_callB call_lenA sim_len T.z_len (show bootBuiltins "len" = some (.builtin "len") from rfl) (da_cons (de_var 2) da_nil)) da_nil)) (show BlkOk ["kind", "region", "vector", "most", "farthest", "at"] (defScope s__law_ceiling) _ [("at", 5)] from ⟨rfl, by decide +kernel, by decide +kernel, by decide +kernel, by decide +kernel⟩) (fun _ _ _ _ _ => (dg_name 5 sc__law_ceiling.nd)) (fun _ _ _ _ _ => dts_nil) (fun _ _ _ _ _ => (de_if (dt_cmp op_ge sim_ge (de_mul de_int (de_ix (de_var 2) (de_var 5))) (de_add (de_ix (de_ix (de_var 1) de_int) (de_var 5)) (de_ix (de_ix (de_var 1) de_int) (de_var 5)))) (de_ix (de_ix (de_var 1) de_int) (de_var 5)) (de_ix (de_ix (de_var 1) de_int) (de_var 5)))) keep_name (by rfl)) (dss_cons (ds_if (dt_cmp (op_eqV hr) sim_eqV (de_var 0) de_str) (dss_one (ds_setLc 4 (own := [("at", 5)]) rfl sc__law_ceiling.nd (di_range1 T.z_range (da_cons (de_callB call_lenA sim_len T.z_len (show bootBuiltins "len" = some (.builtin "len") from rfl) (da_cons (de_var 2) da_nil)) da_nil)) (show BlkOk ["kind", "region", "vector", "most", "farthest", "at"] (defScope s__law_ceiling) _ [("at", 5)] from ⟨rfl, by decide +kernel, by decide +kernel, by decide +kernel, by decide +kernel⟩) (fun _ _ _ _ _ => (dg_name 5 sc__law_ceiling.nd)) (fun _ _ _ _ _ => dts_nil) (fun _ _ _ _ _ => (de_if (dt_cmp (op_neV hr) sim_neV (de_ix (de_ix (de_var 1) de_int) (de_var 5)) (de_ix (de_var 2) (de_var 5))) (de_ix (de_ix (de_var 1) de_int) (de_var 5)) (de_ix (de_ix (de_var 1) de_int) (de_var 5)))) keep_name (by rfl))) dss_nil) (dss_one (ds_ret (de_h h__law_distance (hr.mono (by decide)) gd (da_cons (de_var 0) (da_cons (de_var 2) (da_cons (de_var 4) da_nil)))))))) dss_nil) (dss_cons (ds_set 3 sc__law_ceiling.nd (de_h h__law_most (hr.mono (by decide)) gd (da_cons (de_var 0) (da_cons (de_h h__law_distance (hr.mono (by decide)) gd (da_cons (de_var 0) (da_cons (de_var 2) (da_cons (de_ix (de_var 1) de_int) da_nil)))) (da_cons (de_ix (de_h h__law_shell (hr.mono (by decide)) gd (da_cons (de_var 1) da_nil)) de_int) da_nil))))) (dss_one (ds_ret (de_if (dt_cmp (op_eqV hr) sim_eqV (de_var 0) de_str) (de_callB (call_min2 rfl) sim_2I T.z_min (show bootBuiltins "min" = some (.builtin "min") from rfl) (da_cons (de_var 3) (da_cons (de_callB call_lenA sim_len T.z_len (show bootBuiltins "len" = some (.builtin "len") from rfl) (da_cons (de_var 2) da_nil)) da_nil))) (de_var 3))))))⟩
theorem ok__law_ceiling {f : Addr} {fd : FuncData} (Fn : Fun K "_law_ceiling" "_law_ceiling" s__law_ceiling f fd) (T : Txt K mg aKINDS) (h__law_distance : Has P w K mg base 2 "_law_distance" s__law_distance ["kind", "one", "other"] F__law_distance) (h__law_most : Has P w K mg base 2 "_law_most" s__law_most ["kind", "one", "other"] F__law_most) (h__law_shell : Has P w K mg base 1 "_law_shell" s__law_shell ["region"] F__law_shell) (len : ∀ ds M Q E, F__law_ceiling ds M Q E → ds.length = 3)
    (body : ∀ ds M Q R, F__law_ceiling ds M Q R → W__law_ceiling { nx := fun _ M' => Q .non M', rt := Q, xr := R } (startE 6 ds) M) : FnG P w K mg base 3 f fd ["kind", "region", "vector"] (lift K F__law_ceiling) :=
  ok_fn Fn sc__law_ceiling len fun cdv A outer s H E gd hr => (dv__law_ceiling T h__law_distance h__law_most h__law_shell cdv A outer s H E gd hr).elim fun t ht => ⟨t, _, ht, body⟩

theorem sc__law_window : FnScope ["vector", "wide", "found", "part", "at", "longer", "some", "step"] ["vector", "wide"] (defScope s__law_window) := ⟨rfl, rfl, rfl, by decide +kernel, rfl, by decide +kernel, by decide +kernel⟩
abbrev W__law_window : WS := (wSeq (wIfS (wB (wOp fGt (wCB fLen (wCons (wVar 0) wNil)) (wC (.int 3)))) (wSeq (wAsg (wLst (wCons (wVar 0) wNil)) (wgName 2)) (wSeq (wFor (wiRange1 (wCons (wCB fLen (wCons (wVar 0) wNil)) wNil)) (wgName 4) (wAsg (wOp addD (wVar 2) (wLc (wiSeq (wLst (wCons (wVar 1) (wCons (wNeg (wVar 1)) wNil)))) (wgName 7) wYes (wOp addD (wOp addD (wSl (wVar 0) wNoP (wPart (wVar 4))) (wTup (wCons (wOp addD (wOp ixD (wVar 0) (wVar 4)) (wVar 7)) wNil))) (wSl (wVar 0) (wPart (wOp addD (wVar 4) (wC (.int 1)))) wNoP)) [7])) (wgName 2))) (wRet (wVar 2)))) wNext) (wSeq (wAsg (wLst (wCons (wTup wNil) wNil)) (wgName 2)) (wSeq (wFor (wiSeq (wVar 0)) (wgName 3) (wSeq (wAsg (wLstM wNil) (wgName 5)) (wSeq (wFor (wiSeq (wVar 2)) (wgName 6) (wAsg (wOp addD (wVar 5) (wLc (wiRange2 (wCons (wNeg (wVar 1)) (wCons (wOp addD (wVar 1) (wC (.int 1))) wNil))) (wgName 7) wYes (wOp addD (wVar 6) (wTup (wCons (wOp addD (wVar 3) (wVar 7)) wNil))) [7])) (wgName 5))) (wAsg (wVar 5) (wgName 2))))) (wRet (wVar 2)))))
theorem dv__law_window {f : Addr} (T : Txt K mg aKINDS) (cdv : Value) (A : Around) (outer : List Env) (s : Shared) (H : Hp) (E : XK) (gd : A.guards = some []) (hr : Room 0 (A.deeper (envOfC "_law_window" (defScope s__law_window) s.heap.objs.size f cdv))) :
    ∃ t, DSs (cxOf (L2.CX P w) P w K mg base ["vector", "wide", "found", "part", "at", "longer", "some", "step"] "_law_window" (defScope s__law_window) f cdv A outer s H E) E (defBody s__law_window) t W__law_window := ⟨_, (dss_cons (ds_if (dt_cmp op_gt sim_gt (de_callB call_lenA sim_len T.z_len (show bootBuiltins "len" = some (.builtin "len") from rfl) (da_cons (de_var 0) da_nil)) de_int) (dss_cons (ds_set 2 sc__law_window.nd (de_lst (da_cons (de_var 0) da_nil))) (dss_cons (ds_for (passes_of rfl) rfl (di_range1 T.z_range (da_cons (de_callB call_lenA sim_len T.z_len (show bootBuiltins "len" = some (.builtin "len") from rfl) (da_cons (de_var 0) da_nil)) da_nil)) (dg_name 4 sc__law_window.nd) (dss_one (ds_set 2 sc__law_window.nd (de_add (de_var 2) (de_lc (own := [("step", 7)]) rfl sc__law_window.nd (di_seq (de_lst (da_cons (de_var 1) (da_cons (de_neg (de_var 1)) da_nil)))) (show BlkOk ["vector", "wide", "found", "part", "at", "longer", "some", "step"] (defScope s__law_window) _ [("step", 7)] from ⟨rfl, by decide +kernel, by decide +kernel, by decide +kernel, by decide +kernel⟩) (fun _ _ _ _ _ => (dg_name 7 sc__law_window.nd)) (fun _ _ _ _ _ => dts_nil) (fun _ _ _ _ _ => (de_add (de_add (de_slice (de_var 0) do_none (do_some (de_var 4))) (de_tup (da_cons (de_add (de_ix (de_var 0) (de_var 4)) (de_var 7)) da_nil))) (de_slice (de_var 0) (do_some (de_add (de_var 4) de_int)) do_none))) keep_name))))) (dss_one (ds_ret (de_var 2))))) dss_nil) (dss_cons (ds_set 2 sc__law_window.nd (de_lst (da_cons (de_tup da_nil) da_nil))) (dss_cons (ds_for (passes_of rfl) rfl (di_seq (de_var 0)) (dg_name 3 sc__law_window.nd) (dss_cons (ds_set 5 sc__law_window.nd (de_lstM da_nil)) (dss_cons (ds_for (passes_of rfl) rfl (di_seq (de_var 2)) (dg_name 6 sc__law_window.nd) (dss_one (ds_set 5 sc__law_window.nd (de_add (de_var 5) (de_lc (own := [("step", 7)]) rfl sc__law_window.nd (di_range2 T.z_range (da_cons (de_neg (de_var 1)) (da_cons (de_add (de_var 1) de_int) da_nil))) (show BlkOk ["vector", "wide", "found", "part", "at", "longer", "some", "step"] (defScope s__law_window) _ [("step", 7)] from ⟨rfl, by decide +kernel, by decide +kernel, by decide +kernel, by decide +kernel⟩) (fun _ _ _ _ _ => (dg_name 7 sc__law_window.nd)) (fun _ _ _ _ _ => dts_nil) (fun _ _ _ _ _ => (de_add (de_var 6) (de_tup (da_cons (de_add (de_var 3) (de_var 7)) da_nil)))) keep_name))))) (dss_one (ds_set 2 sc__law_window.nd (de_var 5)))))) (dss_one (ds_ret (de_var 2))))))⟩
theorem ok__law_window {f : Addr} {fd : FuncData} (Fn : Fun K "_law_window" "_law_window" s__law_window f fd) (T : Txt K mg aKINDS) (len : ∀ ds M Q E, F__law_window ds M Q E → ds.length = 2)
    (body : ∀ ds M Q R, F__law_window ds M Q R → W__law_window { nx := fun _ M' => Q .non M', rt := Q, xr := R } (startE 8 ds) M) : FnG P w K mg base 1 f fd ["vector", "wide"] (lift K F__law_window) :=
  ok_fn Fn sc__law_window len fun cdv A outer s H E gd hr => (dv__law_window T cdv A outer s H E gd hr).elim fun t ht => ⟨t, _, ht, body⟩

theorem sc__law_tried_right : FnScope ["kind", "region", "vector", "low", "high", "around", "middle", "other", "held"] ["kind", "region", "vector", "low", "high"] (defScope s__law_tried_right) := ⟨rfl, rfl, rfl, by decide +kernel, rfl, by decide +kernel, by decide +kernel⟩
abbrev W__law_tried_right : WS := (wSeq (wAsg (wIf (wB (wOp (eqV false) (wOp ixD (wVar 1) (wC (.int 0))) (wC (.str "box")))) (wLst (wCons (wOp ixD (wVar 1) (wC (.int 1))) (wCons (wOp ixD (wVar 1) (wC (.int 2))) wNil))) (wLst (wCons (wOp ixD (wVar 1) (wC (.int 1))) (wCons (wVar 2) wNil)))) (wgName 5)) (wSeq (wFor (wiSeq (wVar 5)) (wgName 6) (wFor (wiSeq (wCall F__law_window (wCons (wVar 6) (wCons (wIf (wB (wOp (eqV false) (wCB fLen (wCons (wVar 2) wNil)) (wC (.int 1)))) (wC (.int 3)) (wIf (wB (wOp (eqV false) (wCB fLen (wCons (wVar 2) wNil)) (wC (.int 2)))) (wC (.int 2)) (wC (.int 1)))) wNil)))) (wgName 7) (wSeq (wAsg (wCall F__law_holds (wCons (wVar 0) (wCons (wVar 1) (wCons (wVar 7) wNil)))) (wgName 8)) (wSeq (wIfS (wB (wOp (eqV true) (wCB fRepr (wCons (wCall F_holds_vector (wCons (wVar 0) (wCons (wVar 1) (wCons (wVar 7) wNil)))) wNil)) (wCB fRepr (wCons (wVar 8) wNil)))) (wRet (wC (.bl false))) wNext) (wIfS (wAnd (wB (wVar 8)) (wNot (wB (wChain fLe fLe (wVar 3) (wCall F__law_distance (wCons (wVar 0) (wCons (wVar 2) (wCons (wVar 7) wNil)))) (wVar 4))))) (wRet (wC (.bl false))) wNext))))) (wRet (wC (.bl true)))))
theorem dv__law_tried_right {f : Addr} (T : Txt K mg aKINDS) (h_holds_vector : Has P w K mg base 3 "holds_vector" s_holds_vector ["kind", "region", "vector"] F_holds_vector) (h__law_distance : Has P w K mg base 2 "_law_distance" s__law_distance ["kind", "one", "other"] F__law_distance) (h__law_holds : Has P w K mg base 3 "_law_holds" s__law_holds ["kind", "region", "vector"] F__law_holds) (h__law_window : Has P w K mg base 1 "_law_window" s__law_window ["vector", "wide"] F__law_window) (cdv : Value) (A : Around) (outer : List Env) (s : Shared) (H : Hp) (E : XK) (gd : A.guards = some []) (hr : Room 3 (A.deeper (envOfC "_law_tried_right" (defScope s__law_tried_right) s.heap.objs.size f cdv))) :
    ∃ t, DSs (cxOf (L2.CX P w) P w K mg base ["kind", "region", "vector", "low", "high", "around", "middle", "other", "held"] "_law_tried_right" (defScope s__law_tried_right) f cdv A outer s H E) E (defBody s__law_tried_right) t W__law_tried_right := ⟨_, (dss_cons (ds_set 5 sc__law_tried_right.nd (de_if (dt_cmp (op_eqV hr) sim_eqV (de_ix (de_var 1) de_int) de_str) (de_lst (da_cons (de_ix (de_var 1) de_int) (da_cons (de_ix (de_var 1) de_int) da_nil))) (de_lst (da_cons (de_ix (de_var 1) de_int) (da_cons (de_var 2) da_nil))))) (dss_cons (ds_for (passes_of rfl) rfl (di_seq (de_var 5)) (dg_name 6 sc__law_tried_right.nd) (dss_one (ds_for (passes_of rfl) rfl (di_seq (de_h h__law_window (hr.mono (by decide)) gd (da_cons (de_var 6) (da_cons (de_if (dt_cmp (op_eqV hr) sim_eqV (de_callB call_lenA sim_len T.z_len (show bootBuiltins "len" = some (.builtin "len") from rfl) (da_cons (de_var 2) da_nil)) de_int) de_int (de_if (dt_cmp (op_eqV hr) sim_eqV (de_callB call_lenA sim_len T.z_len (show bootBuiltins "len" = some (.builtin "len") from rfl) (da_cons (de_var 2) da_nil)) de_int) de_int de_int)) da_nil)))) (dg_name 7 sc__law_tried_right.nd) (dss_cons (ds_set 8 sc__law_tried_right.nd (de_h h__law_holds (hr.mono (by decide)) gd (da_cons (de_var 0) (da_cons (de_var 1) (da_cons (de_var 7) da_nil))))) (dss_cons (ds_if (dt_cmp (op_neV hr) sim_neV (de_callB (call_repr_any hr gd) sim_repr T.z_repr (show bootBuiltins "repr" = some (.builtin "repr") from rfl) (da_cons (de_h h_holds_vector (hr.mono (by decide)) gd (da_cons (de_var 0) (da_cons (de_var 1) (da_cons (de_var 7) da_nil)))) da_nil)) (de_callB (call_repr_any hr gd) sim_repr T.z_repr (show bootBuiltins "repr" = some (.builtin "repr") from rfl) (da_cons (de_var 8) da_nil))) (dss_one (ds_ret de_bl)) dss_nil) (dss_one (ds_if (DW.dt (dw_and (dt_val (de_var 8)) (dw_and1 (dt_not (dt_chain op_le sim_le op_le sim_le (de_var 3) (de_h h__law_distance (hr.mono (by decide)) gd (da_cons (de_var 0) (da_cons (de_var 2) (da_cons (de_var 7) da_nil)))) (de_var 4)))))) (dss_one (ds_ret de_bl)) dss_nil))))))) (dss_one (ds_ret de_bl))))⟩
theorem ok__law_tried_right {f : Addr} {fd : FuncData} (Fn : Fun K "_law_tried_right" "_law_tried_right" s__law_tried_right f fd) (T : Txt K mg aKINDS) (h_holds_vector : Has P w K mg base 3 "holds_vector" s_holds_vector ["kind", "region", "vector"] F_holds_vector) (h__law_distance : Has P w K mg base 2 "_law_distance" s__law_distance ["kind", "one", "other"] F__law_distance) (h__law_holds : Has P w K mg base 3 "_law_holds" s__law_holds ["kind", "region", "vector"] F__law_holds) (h__law_window : Has P w K mg base 1 "_law_window" s__law_window ["vector", "wide"] F__law_window) (len : ∀ ds M Q E, F__law_tried_right ds M Q E → ds.length = 5)
    (body : ∀ ds M Q R, F__law_tried_right ds M Q R → W__law_tried_right { nx := fun _ M' => Q .non M', rt := Q, xr := R } (startE 9 ds) M) : FnG P w K mg base 4 f fd ["kind", "region", "vector", "low", "high"] (lift K F__law_tried_right) :=
  ok_fn Fn sc__law_tried_right len fun cdv A outer s H E gd hr => (dv__law_tried_right T h_holds_vector h__law_distance h__law_holds h__law_window cdv A outer s H E gd hr).elim fun t ht => ⟨t, _, ht, body⟩

theorem sc__law_pick_far : FnScope ["kind", "part", "low", "high"] ["kind", "part", "low", "high"] (defScope s__law_pick_far) := ⟨rfl, rfl, rfl, by decide +kernel, rfl, by decide +kernel, by decide +kernel⟩
abbrev W__law_pick_far : WS := (wRet (wIf (wOr (wB (wOp fGt (wOp (fI0 fun i j => .int (i - j)) (wVar 1) (wVar 2)) (wOp (fI0 fun i j => .int (i - j)) (wVar 3) (wVar 1)))) (wAnd (wB (wOp (eqV false) (wVar 0) (wC (.str "unlike")))) (wB (wOp (eqV false) (wVar 1) (wVar 3))))) (wVar 2) (wVar 3)))
theorem dv__law_pick_far {f : Addr} (T : Txt K mg aKINDS) (cdv : Value) (A : Around) (outer : List Env) (s : Shared) (H : Hp) (E : XK) (gd : A.guards = some []) (hr : Room 0 (A.deeper (envOfC "_law_pick_far" (defScope s__law_pick_far) s.heap.objs.size f cdv))) :
    ∃ t, DSs (cxOf (L2.CX P w) P w K mg base ["kind", "part", "low", "high"] "_law_pick_far" (defScope s__law_pick_far) f cdv A outer s H E) E (defBody s__law_pick_far) t W__law_pick_far := ⟨_, (dss_one (ds_ret (de_if (DW.dt (dw_or (dt_cmp op_gt sim_gt (de_sub (de_var 1) (de_var 2)) (de_sub (de_var 3) (de_var 1))) (dw_or1 (DW.dt (dw_and (dt_cmp (op_eqV hr) sim_eqV (de_var 0) de_str) (dw_and1 (dt_cmp (op_eqV hr) sim_eqV (de_var 1) (de_var 3)))))))) (de_var 2) (de_var 3))))⟩
theorem ok__law_pick_far {f : Addr} {fd : FuncData} (Fn : Fun K "_law_pick_far" "_law_pick_far" s__law_pick_far f fd) (T : Txt K mg aKINDS) (len : ∀ ds M Q E, F__law_pick_far ds M Q E → ds.length = 4)
    (body : ∀ ds M Q R, F__law_pick_far ds M Q R → W__law_pick_far { nx := fun _ M' => Q .non M', rt := Q, xr := R } (startE 4 ds) M) : FnG P w K mg base 1 f fd ["kind", "part", "low", "high"] (lift K F__law_pick_far) :=
  ok_fn Fn sc__law_pick_far len fun cdv A outer s H E gd hr => (dv__law_pick_far T cdv A outer s H E gd hr).elim fun t ht => ⟨t, _, ht, body⟩

theorem sc__law_box_reached : FnScope ["kind", "box", "vector", "low", "high", "nearest", "far", "at"] ["kind", "box", "vector", "low", "high"] (defScope s__law_box_reached) := ⟨rfl, rfl, rfl, by decide +kernel, rfl, by decide +kernel, by decide +kernel⟩
abbrev W__law_box_reached : WS := (wSeq (wAsg (wCB fTuple (wCons (wLc (wiRange1 (wCons (wCB fLen (wCons (wVar 2) wNil)) wNil)) (wgName 7) wYes (wCB (f2I fun i j => if j < i then j else i) (wCons (wCB (f2I fun i j => if j > i then j else i) (wCons (wOp ixD (wVar 2) (wVar 7)) (wCons (wOp ixD (wOp ixD (wVar 1) (wC (.int 1))) (wVar 7)) wNil))) (wCons (wOp ixD (wOp ixD (wVar 1) (wC (.int 2))) (wVar 7)) wNil))) [7]) wNil)) (wgName 5)) (wSeq (wIfS (wOr (wNot (wB (wCall F_holds_vector (wCons (wVar 0) (wCons (wVar 1) (wCons (wVar 5) wNil)))))) (wB (wOp (eqV true) (wCall F__law_distance (wCons (wVar 0) (wCons (wVar 2) (wCons (wVar 5) wNil)))) (wVar 3)))) (wRet (wC (.bl false))) wNext) (wSeq (wAsg (wCB fTuple (wCons (wLc (wiRange1 (wCons (wCB fLen (wCons (wVar 2) wNil)) wNil)) (wgName 7) wYes (wCall F__law_pick_far (wCons (wVar 0) (wCons (wOp ixD (wVar 2) (wVar 7)) (wCons (wOp ixD (wOp ixD (wVar 1) (wC (.int 1))) (wVar 7)) (wCons (wOp ixD (wOp ixD (wVar 1) (wC (.int 2))) (wVar 7)) wNil))))) [7]) wNil)) (wgName 6)) (wRet (wAndV (wCall F_holds_vector (wCons (wVar 0) (wCons (wVar 1) (wCons (wVar 6) wNil)))) (wOp (eqV false) (wCall F__law_distance (wCons (wVar 0) (wCons (wVar 2) (wCons (wVar 6) wNil)))) (wVar 4)))))))
theorem dv__law_box_reached {f : Addr} (T : Txt K mg aKINDS) (h_holds_vector : Has P w K mg base 3 "holds_vector" s_holds_vector ["kind", "region", "vector"] F_holds_vector) (h__law_distance : Has P w K mg base 2 "_law_distance" s__law_distance ["kind", "one", "other"] F__law_distance) (h__law_pick_far : Has P w K mg base 1 "_law_pick_far" s__law_pick_far ["kind", "part", "low", "high"] F__law_pick_far) (cdv : Value) (A : Around) (outer : List Env) (s : Shared) (H : Hp) (E : XK) (gd : A.guards = some []) (hr : Room 3 (A.deeper (envOfC "_law_box_reached" (defScope s__law_box_reached) s.heap.objs.size f cdv))) :
    ∃ t, DSs (cxOf (L2.CX P w) P w K mg base ["kind", "box", "vector", "low", "high", "nearest", "far", "at"] "_law_box_reached" (defScope s__law_box_reached) f cdv A outer s H E) E (defBody s__law_box_reached) t W__law_box_reached := ⟨_, (dss_cons (ds_set 5 sc__law_box_reached.nd (de_callTy call_tuple_of sim_tuple T.z_tuple (show bootBuiltins "tuple" = some (.type "tuple") from rfl) (da_cons (de_lc (own := [("at", 7)]) rfl sc__law_box_reached.nd (di_range1 T.z_range (da_cons (de_callB call_lenA sim_len T.z_len (show bootBuiltins "len" = some (.builtin "len") from rfl) (da_cons (de_var 2) da_nil)) da_nil)) (show BlkOk ["kind", "box", "vector", "low", "high", "nearest", "far", "at"] (defScope s__law_box_reached) _ [("at", 7)] from ⟨rfl, by decide +kernel, by decide +kernel, by decide +kernel, by decide +kernel⟩) (fun _ _ _ _ _ => (dg_name 7 sc__law_box_reached.nd)) (fun _ _ _ _ _ => dts_nil) (fun _ _ _ _ _ => (de_callB (call_min2 rfl) sim_2I T.z_min (show bootBuiltins "min" = some (.builtin "min") from rfl) (da_cons (de_callB (call_max2 rfl) sim_2I T.z_max (show bootBuiltins "max" = some (.builtin "max") from rfl) (da_cons (de_ix (de_var 2) (de_var 7)) (da_cons (de_ix (de_ix (de_var 1) de_int) (de_var 7)) da_nil))) (da_cons (de_ix (de_ix (de_var 1) de_int) (de_var 7)) da_nil)))) keep_name) da_nil))) (dss_cons (ds_if (DW.dt (dw_or (dt_not (dt_val (de_h h_holds_vector (hr.mono (by decide)) gd (da_cons (de_var 0) (da_cons (de_var 1) (da_cons (de_var 5) da_nil)))))) (dw_or1 (dt_cmp (op_neV hr) sim_neV (de_h h__law_distance (hr.mono (by decide)) gd (da_cons (de_var 0) (da_cons (de_var 2) (da_cons (de_var 5) da_nil)))) (de_var 3))))) (dss_one (ds_ret de_bl)) dss_nil) (dss_cons (ds_set 6 sc__law_box_reached.nd (de_callTy call_tuple_of sim_tuple T.z_tuple (show bootBuiltins "tuple" = some (.type "tuple") from rfl) (da_cons (de_lc (own := [("at", 7)]) rfl sc__law_box_reached.nd (di_range1 T.z_range (da_cons (de_callB call_lenA sim_len T.z_len (show bootBuiltins "len" = some (.builtin "len") from rfl) (da_cons (de_var 2) da_nil)) da_nil)) (show BlkOk ["kind", "box", "vector", "low", "high", "nearest", "far", "at"] (defScope s__law_box_reached) _ [("at", 7)] from ⟨rfl, by decide +kernel, by decide +kernel, by decide +kernel, by decide +kernel⟩) (fun _ _ _ _ _ => (dg_name 7 sc__law_box_reached.nd)) (fun _ _ _ _ _ => dts_nil) (fun _ _ _ _ _ => (de_h h__law_pick_far (hr.mono (by decide)) gd (da_cons (de_var 0) (da_cons (de_ix (de_var 2) (de_var 7)) (da_cons (de_ix (de_ix (de_var 1) de_int) (de_var 7)) (da_cons (de_ix (de_ix (de_var 1) de_int) (de_var 7)) da_nil)))))) keep_name) da_nil))) (dss_one (ds_ret (de_and (de_h h_holds_vector (hr.mono (by decide)) gd (da_cons (de_var 0) (da_cons (de_var 1) (da_cons (de_var 6) da_nil)))) (de_one (de_cmp (op_eqV hr) sim_eqV (de_h h__law_distance (hr.mono (by decide)) gd (da_cons (de_var 0) (da_cons (de_var 2) (da_cons (de_var 6) da_nil)))) (de_var 4)))))))))⟩
theorem ok__law_box_reached {f : Addr} {fd : FuncData} (Fn : Fun K "_law_box_reached" "_law_box_reached" s__law_box_reached f fd) (T : Txt K mg aKINDS) (h_holds_vector : Has P w K mg base 3 "holds_vector" s_holds_vector ["kind", "region", "vector"] F_holds_vector) (h__law_distance : Has P w K mg base 2 "_law_distance" s__law_distance ["kind", "one", "other"] F__law_distance) (h__law_pick_far : Has P w K mg base 1 "_law_pick_far" s__law_pick_far ["kind", "part", "low", "high"] F__law_pick_far) (len : ∀ ds M Q E, F__law_box_reached ds M Q E → ds.length = 5)
    (body : ∀ ds M Q R, F__law_box_reached ds M Q R → W__law_box_reached { nx := fun _ M' => Q .non M', rt := Q, xr := R } (startE 8 ds) M) : FnG P w K mg base 4 f fd ["kind", "box", "vector", "low", "high"] (lift K F__law_box_reached) :=
  ok_fn Fn sc__law_box_reached len fun cdv A outer s H E gd hr => (dv__law_box_reached T h_holds_vector h__law_distance h__law_pick_far cdv A outer s H E gd hr).elim fun t ht => ⟨t, _, ht, body⟩

theorem sc__law_right : FnScope ["kind", "region", "vector", "low", "high"] ["kind", "region", "vector"] (defScope s__law_right) := ⟨rfl, rfl, rfl, by decide +kernel, rfl, by decide +kernel, by decide +kernel⟩
abbrev W__law_right : WS := (wSeq (wPar 3 4 (wCons (wCall F_floor_of (wCons (wVar 0) (wCons (wVar 1) (wCons (wVar 2) wNil)))) (wCons (wCall F_ceiling_of (wCons (wVar 0) (wCons (wVar 1) (wCons (wVar 2) wNil)))) wNil))) (wSeq (wIfS (wOr (wB (wOp (eqV true) (wCB fRepr (wCons (wVar 3) wNil)) (wCB fRepr (wCons (wCall F__law_floor (wCons (wVar 0) (wCons (wVar 1) (wCons (wVar 2) wNil)))) wNil)))) (wB (wOp (eqV true) (wCB fRepr (wCons (wVar 4) wNil)) (wCB fRepr (wCons (wCall F__law_ceiling (wCons (wVar 0) (wCons (wVar 1) (wCons (wVar 2) wNil)))) wNil))))) (wRet (wC (.bl false))) wNext) (wSeq (wIfS (wOr (wB (wOp (eqV true) (wCallK 0 3 [2, 1, 0] F_floor_of wNil (wCons (wVar 2) (wCons (wVar 1) (wCons (wVar 0) wNil)))) (wVar 3))) (wB (wOp (eqV true) (wCallK 0 3 [2, 1, 0] F_ceiling_of wNil (wCons (wVar 2) (wCons (wVar 1) (wCons (wVar 0) wNil)))) (wVar 4)))) (wRet (wC (.bl false))) wNext) (wSeq (wIfS (wAnd (wB (wCall F_holds_vector (wCons (wVar 0) (wCons (wVar 1) (wCons (wVar 2) wNil))))) (wB (wOp (eqV true) (wVar 3) (wC (.int 0))))) (wRet (wC (.bl false))) wNext) (wSeq (wIfS (wAnd (wB (wOp (eqV false) (wOp ixD (wVar 1) (wC (.int 0))) (wC (.str "box")))) (wNot (wB (wCall F__law_box_reached (wCons (wVar 0) (wCons (wVar 1) (wCons (wVar 2) (wCons (wVar 3) (wCons (wVar 4) wNil))))))))) (wRet (wC (.bl false))) wNext) (wRet (wCall F__law_tried_right (wCons (wVar 0) (wCons (wVar 1) (wCons (wVar 2) (wCons (wVar 3) (wCons (wVar 4) wNil))))))))))))
theorem dv__law_right {f : Addr} (T : Txt K mg aKINDS) (h_holds_vector : Has P w K mg base 3 "holds_vector" s_holds_vector ["kind", "region", "vector"] F_holds_vector) (h_floor_of : Has P w K mg base 4 "floor_of" s_floor_of ["kind", "region", "vector"] F_floor_of) (h_ceiling_of : Has P w K mg base 3 "ceiling_of" s_ceiling_of ["kind", "region", "vector"] F_ceiling_of) (h__law_floor : Has P w K mg base 3 "_law_floor" s__law_floor ["kind", "region", "vector"] F__law_floor) (h__law_ceiling : Has P w K mg base 3 "_law_ceiling" s__law_ceiling ["kind", "region", "vector"] F__law_ceiling) (h__law_tried_right : Has P w K mg base 4 "_law_tried_right" s__law_tried_right ["kind", "region", "vector", "low", "high"] F__law_tried_right) (h__law_box_reached : Has P w K mg base 4 "_law_box_reached" s__law_box_reached ["kind", "box", "vector", "low", "high"] F__law_box_reached) (cdv : Value) (A : Around) (outer : List Env) (s : Shared) (H : Hp) (E : XK) (gd : A.guards = some []) (hr : Room 4 (A.deeper (envOfC "_law_right" (defScope s__law_right) s.heap.objs.size f cdv))) :
    ∃ t, DSs (cxOf (L2.CX P w) P w K mg base ["kind", "region", "vector", "low", "high"] "_law_right" (defScope s__law_right) f cdv A outer s H E) E (defBody s__law_right) t W__law_right := ⟨_, (dss_cons (ds_par 3 4 rfl sc__law_right.nd (da_cons (de_h h_floor_of (hr.mono (by decide)) gd (da_cons (de_var 0) (da_cons (de_var 1) (da_cons (de_var 2) da_nil)))) (da_cons (de_h h_ceiling_of (hr.mono (by decide)) gd (da_cons (de_var 0) (da_cons (de_var 1) (da_cons (de_var 2) da_nil)))) da_nil))) (dss_cons (ds_if (DW.dt (dw_or (dt_cmp (op_neV hr) sim_neV (de_callB (call_repr_any hr gd) sim_repr T.z_repr (show bootBuiltins "repr" = some (.builtin "repr") from rfl) (da_cons (de_var 3) da_nil)) (de_callB (call_repr_any hr gd) sim_repr T.z_repr (show bootBuiltins "repr" = some (.builtin "repr") from rfl) (da_cons (de_h h__law_floor (hr.mono (by decide)) gd (da_cons (de_var 0) (da_cons (de_var 1) (da_cons (de_var 2) da_nil)))) da_nil))) (dw_or1 (dt_cmp (op_neV hr) sim_neV (de_callB (call_repr_any hr gd) sim_repr T.z_repr (show bootBuiltins "repr" = some (.builtin "repr") from rfl) (da_cons (de_var 4) da_nil)) (de_callB (call_repr_any hr gd) sim_repr T.z_repr (show bootBuiltins "repr" = some (.builtin "repr") from rfl) (da_cons (de_h h__law_ceiling (hr.mono (by decide)) gd (da_cons (de_var 0) (da_cons (de_var 1) (da_cons (de_var 2) da_nil)))) da_nil)))))) (dss_one (ds_ret de_bl)) dss_nil) (dss_cons (ds_if (DW.dt (dw_or (dt_cmp (op_neV hr) sim_neV (de_hk0 (ks := ["vector", "region", "kind"]) (idx := [2, 1, 0]) h_floor_of (hr.mono (by decide)) gd (fun _ _ _ _ _ _ us ws h1 h2 => match us, ws, h1, h2 with | [], [_, _, _], _, _ => rfl) (dk_cons (de_var 2) (dk_cons (de_var 1) (dk_cons (de_var 0) dk_nil)))) (de_var 3)) (dw_or1 (dt_cmp (op_neV hr) sim_neV (de_hk0 (ks := ["vector", "region", "kind"]) (idx := [2, 1, 0]) h_ceiling_of (hr.mono (by decide)) gd (fun _ _ _ _ _ _ us ws h1 h2 => match us, ws, h1, h2 with | [], [_, _, _], _, _ => rfl) (dk_cons (de_var 2) (dk_cons (de_var 1) (dk_cons (de_var 0) dk_nil)))) (de_var 4))))) (dss_one (ds_ret de_bl)) dss_nil) (dss_cons (ds_if (DW.dt (dw_and (dt_val (de_h h_holds_vector (hr.mono (by decide)) gd (da_cons (de_var 0) (da_cons (de_var 1) (da_cons (de_var 2) da_nil))))) (dw_and1 (dt_cmp (op_neV hr) sim_neV (de_var 3) de_int)))) (dss_one (ds_ret de_bl)) dss_nil) (dss_cons (ds_if (DW.dt (dw_and (dt_cmp (op_eqV hr) sim_eqV (de_ix (de_var 1) de_int) de_str) (dw_and1 (dt_not (dt_val (de_h h__law_box_reached (hr.mono (by decide)) gd (da_cons (de_var 0) (da_cons (de_var 1) (da_cons (de_var 2) (da_cons (de_var 3) (da_cons (de_var 4) da_nil))))))))))) (dss_one (ds_ret de_bl)) dss_nil) (dss_one (ds_ret (de_h h__law_tried_right (hr.mono (by decide)) gd (da_cons (de_var 0) (da_cons (de_var 1) (da_cons (de_var 2) (da_cons (de_var 3) (da_cons (de_var 4) da_nil)))))))))))))⟩
theorem ok__law_right {f : Addr} {fd : FuncData} (Fn : Fun K "_law_right" "_law_right" s__law_right f fd) (T : Txt K mg aKINDS) (h_holds_vector : Has P w K mg base 3 "holds_vector" s_holds_vector ["kind", "region", "vector"] F_holds_vector) (h_floor_of : Has P w K mg base 4 "floor_of" s_floor_of ["kind", "region", "vector"] F_floor_of) (h_ceiling_of : Has P w K mg base 3 "ceiling_of" s_ceiling_of ["kind", "region", "vector"] F_ceiling_of) (h__law_floor : Has P w K mg base 3 "_law_floor" s__law_floor ["kind", "region", "vector"] F__law_floor) (h__law_ceiling : Has P w K mg base 3 "_law_ceiling" s__law_ceiling ["kind", "region", "vector"] F__law_ceiling) (h__law_tried_right : Has P w K mg base 4 "_law_tried_right" s__law_tried_right ["kind", "region", "vector", "low", "high"] F__law_tried_right) (h__law_box_reached : Has P w K mg base 4 "_law_box_reached" s__law_box_reached ["kind", "box", "vector", "low", "high"] F__law_box_reached) (len : ∀ ds M Q E, F__law_right ds M Q E → ds.length = 3)
    (body : ∀ ds M Q R, F__law_right ds M Q R → W__law_right { nx := fun _ M' => Q .non M', rt := Q, xr := R } (startE 5 ds) M) : FnG P w K mg base 5 f fd ["kind", "region", "vector"] (lift K F__law_right) :=
  ok_fn Fn sc__law_right len fun cdv A outer s H E gd hr => (dv__law_right T h_holds_vector h_floor_of h_ceiling_of h__law_floor h__law_ceiling h__law_tried_right h__law_box_reached cdv A outer s H E gd hr).elim fun t ht => ⟨t, _, ht, body⟩

theorem sc_law : FnScope ["script", "heap", "turn", "kind", "ball", "box", "cell", "places", "far", "region", "near", "vector", "kept", "part"] ["script"] (defScope s_law) := ⟨rfl, rfl, rfl, by decide +kernel, rfl, by decide +kernel, by decide +kernel⟩
abbrev W_law : WS := (wSeq (wAsg (wCall F__law_heap (wCons (wVar 0) wNil)) (wgName 1)) (wSeq (wFor (wiRange1 (wCons (wOp addD (wC (.int 1)) (wCB fInt (wCons (wOp fGt (wCB fLen (wCons (wVar 0) wNil)) (wC (.int 2))) wNil))) wNil)) (wgName 2) (wSeq (wAsg (wTup (wCons (wCall F__law_pick (wCons (wVar 1) (wCons (wLst (wCons (wC (.int 2)) (wCons (wC (.int 1)) (wCons (wC (.int 2)) (wCons (wC (.int 3)) (wCons (wC (.int 5)) (wCons (wC (.int 8)) wNil))))))) wNil))) (wCons (wCall F__law_pick (wCons (wVar 1) (wCons (wLst (wCons (wC (.int 3)) (wCons (wC (.int 3)) (wCons (wC (.int 6)) (wCons (wC (.int 4900)) wNil))))) wNil))) wNil))) (wgTup 2 (wgCons (wgName 7) (wgCons (wgName 8) wgNil)))) (wFor (wiSeq (wC c_KINDS)) (wgName 3) (wSeq (wAsg (wCall F__law_region (wCons (wVar 1) (wCons (wVar 3) (wCons (wVar 7) (wCons (wVar 8) wNil))))) (wgName 9)) (wSeq (wAsg (wCB fTuple (wCons (wLc (wiSeq (wOp ixD (wVar 9) (wC (.int 1)))) (wgName 13) wYes (wOp (fI0 fun i j => .int (i - j)) (wOp addD (wVar 13) (wCall F__law_draw (wCons (wVar 1) (wCons (wC (.int 9)) wNil)))) (wC (.int 4))) [13]) wNil)) (wgName 10)) (wSeq (wAsg (wCall F__law_pick (wCons (wVar 1) (wCons (wLst (wCons (wOp ixD (wVar 9) (wC (.int 1))) (wCons (wVar 10) (wCons (wVar 10) (wCons (wCB fTuple (wCons (wLc (wiSeq (wVar 10)) (wgName 13) wYes (wOp (fI0 fun i j => .int (i - j)) (wCall F__law_draw (wCons (wVar 1) (wCons (wOp addD (wOp (fI CM fun i j => .int (i * j)) (wC (.int 2)) (wVar 8)) (wC (.int 1))) wNil))) (wVar 8)) [13]) wNil)) wNil))))) wNil))) (wgName 11)) (wSeq (wAsg (wCB fRepr (wCons (wVar 9) wNil)) (wgName 12)) (wIfS (wOr (wNot (wB (wCall F__law_right (wCons (wVar 3) (wCons (wVar 9) (wCons (wVar 11) wNil)))))) (wOr (wNot (wB (wCall F__law_right (wCons (wVar 3) (wCons (wVar 9) (wCons (wVar 10) wNil)))))) (wB (wOp (eqV true) (wCB fRepr (wCons (wVar 9) wNil)) (wVar 12))))) (wRet (wC (.bl false))) wNext)))))))) (wSeq (wAsg (wTup (wCons (wTup (wCons (wC (.str "ball")) (wCons (wTup (wCons (wC (.int 0)) (wCons (wC (.int 0)) wNil))) (wCons (wC (.int 25)) wNil)))) (wCons (wTup (wCons (wC (.str "box")) (wCons (wTup (wCons (wC (.int 1)) (wCons (wC (.int 1)) wNil))) (wCons (wTup (wCons (wC (.int 3)) (wCons (wC (.int 6)) wNil))) wNil)))) (wCons (wTup (wCons (wC (.str "cell")) (wCons (wTup (wCons (wC (.int 0)) (wCons (wC (.int 0)) wNil))) (wCons (wC (.int 25)) (wCons (wC (.int 36)) wNil))))) wNil)))) (wgTup 3 (wgCons (wgName 4) (wgCons (wgName 5) (wgCons (wgName 6) wgNil))))) (wSeq (wIfS (wOr (wB (wOp (eqV true) (wCall F_floor_of (wCons (wC (.str "square")) (wCons (wVar 4) (wCons (wTup (wCons (wC (.int 6)) (wCons (wC (.int 8)) wNil))) wNil)))) (wC (.int 25)))) (wOr (wB (wOp (eqV true) (wCall F_ceiling_of (wCons (wC (.str "square")) (wCons (wVar 4) (wCons (wTup (wCons (wC (.int 6)) (wCons (wC (.int 8)) wNil))) wNil)))) (wC (.int 225)))) (wB (wOp (eqV true) (wCall F_floor_of (wCons (wC (.str "square")) (wCons (wVar 6) (wCons (wTup (wCons (wC (.int 0)) (wCons (wC (.int 2)) wNil))) wNil)))) (wC (.int 9)))))) (wRet (wC (.bl false))) wNext) (wSeq (wIfS (wOr (wB (wOp (eqV true) (wCall F_floor_of (wCons (wC (.str "sum")) (wCons (wVar 5) (wCons (wTup (wCons (wC (.int 0)) (wCons (wC (.int 9)) wNil))) wNil)))) (wC (.int 4)))) (wOr (wB (wOp (eqV true) (wCall F_ceiling_of (wCons (wC (.str "most")) (wCons (wVar 5) (wCons (wTup (wCons (wC (.int 0)) (wCons (wC (.int 9)) wNil))) wNil)))) (wC (.int 8)))) (wB (wOp (eqV true) (wCall F_floor_of (wCons (wC (.str "unlike")) (wCons (wVar 5) (wCons (wTup (wCons (wC (.int 0)) (wCons (wC (.int 5)) wNil))) wNil)))) (wC (.int 1)))))) (wRet (wC (.bl false))) wNext) (wSeq (wIfS (wOr (wB (wOp (eqV true) (wCall F_ceiling_of (wCons (wC (.str "unlike")) (wCons (wVar 5) (wCons (wTup (wCons (wC (.int 1)) (wCons (wC (.int 5)) wNil))) wNil)))) (wC (.int 2)))) (wOr (wB (wOp (eqV true) (wCall F_ceiling_of (wCons (wC (.str "unlike")) (wCons (wTup (wCons (wC (.str "box")) (wCons (wTup (wCons (wC (.int 4)) (wCons (wC (.int 1)) wNil))) (wCons (wTup (wCons (wC (.int 4)) (wCons (wC (.int 3)) wNil))) wNil)))) (wCons (wTup (wCons (wC (.int 4)) (wCons (wC (.int 1)) wNil))) wNil)))) (wC (.int 1)))) (wB (wOp (eqV true) (wCall F_ceiling_of (wCons (wC (.str "unlike")) (wCons (wVar 4) (wCons (wTup (wCons (wC (.int 9)) (wCons (wC (.int 9)) wNil))) wNil)))) (wC (.int 2)))))) (wRet (wC (.bl false))) wNext) (wRet (wAndV (wOp (eqV false) (wCall F_floor_of (wCons (wC (.str "square")) (wCons (wVar 6) (wCons (wTup (wCons (wC (.int 8)) (wCons (wC (.int 0)) wNil))) wNil)))) (wC (.int 4))) (wAndV (wOp (eqV false) (wCall F_floor_of (wCons (wC (.str "square")) (wCons (wTup (wCons (wC (.str "ball")) (wCons (wTup (wCons (wC (.int 0)) (wCons (wC (.int 0)) wNil))) (wCons (wC (.int 2)) wNil)))) (wCons (wTup (wCons (wC (.int 2)) (wCons (wC (.int 2)) wNil))) wNil)))) (wC (.int 2))) (wOp (eqV false) (wCall F_floor_of (wCons (wC (.str "most")) (wCons (wVar 6) (wCons (wTup (wCons (wC (.int 0)) (wCons (wC (.int 30)) wNil))) wNil)))) (wC (.int 0))))))))))))
theorem dv_law {f : Addr} (T : Txt K mg aKINDS) (h_floor_of : Has P w K mg base 4 "floor_of" s_floor_of ["kind", "region", "vector"] F_floor_of) (h_ceiling_of : Has P w K mg base 3 "ceiling_of" s_ceiling_of ["kind", "region", "vector"] F_ceiling_of) (h__law_heap : Has P w K mg base 1 "_law_heap" s__law_heap ["script"] F__law_heap) (h__law_draw : Has P w K mg base 1 "_law_draw" s__law_draw ["heap", "many"] F__law_draw) (h__law_pick : Has P w K mg base 2 "_law_pick" s__law_pick ["heap", "some"] F__law_pick) (h__law_region : Has P w K mg base 3 "_law_region" s__law_region ["heap", "kind", "places", "far"] F__law_region) (h__law_right : Has P w K mg base 5 "_law_right" s__law_right ["kind", "region", "vector"] F__law_right) (cdv : Value) (A : Around) (outer : List Env) (s : Shared) (H : Hp) (E : XK) (gd : A.guards = some []) (hr : Room 5 (A.deeper (envOfC "law" (defScope s_law) s.heap.objs.size f cdv))) :
    ∃ t, DSs (cxOf (L2.CX P w) P w K mg base ["script", "heap", "turn", "kind", "ball", "box", "cell", "places", "far", "region", "near", "vector", "kept", "part"] "law" (defScope s_law) f cdv A outer s H E) E (defBody s_law) t W_law := ⟨_, (dss_cons (ds_set 1 sc_law.nd (de_h h__law_heap (hr.mono (by decide)) gd (da_cons (de_var 0) da_nil))) (dss_cons (ds_for (passes_of rfl) rfl (di_range1 T.z_range (da_cons (de_add de_int (de_callTy call_int1 sim_int T.z_int (show bootBuiltins "int" = some (.type "int") from rfl) (da_cons (de_cmp op_gt sim_gt (de_callB call_lenA sim_len T.z_len (show bootBuiltins "len" = some (.builtin "len") from rfl) (da_cons (de_var 0) da_nil)) de_int) da_nil))) da_nil)) (dg_name 2 sc_law.nd) (dss_cons (ds_asg (de_tup (da_cons (de_h h__law_pick (hr.mono (by decide)) gd (da_cons (de_var 1) (da_cons (de_lst (da_cons de_int (da_cons de_int (da_cons de_int (da_cons de_int (da_cons de_int (da_cons de_int da_nil))))))) da_nil))) (da_cons (de_h h__law_pick (hr.mono (by decide)) gd (da_cons (de_var 1) (da_cons (de_lst (da_cons de_int (da_cons de_int (da_cons de_int (da_cons de_int da_nil))))) da_nil))) da_nil))) (dg_tup rfl (dgs_cons (dg_name 7 sc_law.nd) (dgs_cons (dg_name 8 sc_law.nd) dgs_nil)))) (dss_one (ds_for (passes_of rfl) rfl (di_seq (de_glob (v := .ref aKINDS) (by rfl) T.m_KINDS rfl T.r_KINDS)) (dg_name 3 sc_law.nd) (dss_cons (ds_set 9 sc_law.nd (de_h h__law_region (hr.mono (by decide)) gd (da_cons (de_var 1) (da_cons (de_var 3) (da_cons (de_var 7) (da_cons (de_var 8) da_nil)))))) (dss_cons (ds_set 10 sc_law.nd (de_callTy call_tuple_of sim_tuple T.z_tuple (show bootBuiltins "tuple" = some (.type "tuple") from rfl) (da_cons (de_lc (own := [("part", 13)]) rfl sc_law.nd (di_seq (de_ix (de_var 9) de_int)) (show BlkOk ["script", "heap", "turn", "kind", "ball", "box", "cell", "places", "far", "region", "near", "vector", "kept", "part"] (defScope s_law) _ [("part", 13)] from ⟨rfl, by decide +kernel, by decide +kernel, by decide +kernel, by decide +kernel⟩) (fun _ _ _ _ _ => (dg_name 13 sc_law.nd)) (fun _ _ _ _ _ => dts_nil) (fun _ _ _ _ _ => (de_sub (de_add (de_var 13) (de_h h__law_draw (hr.mono (by decide)) gd (da_cons (de_var 1) (da_cons de_int da_nil)))) de_int)) keep_name) da_nil))) (dss_cons (ds_set 11 sc_law.nd (de_h h__law_pick (hr.mono (by decide)) gd (da_cons (de_var 1) (da_cons (de_lst (da_cons (de_ix (de_var 9) de_int) (da_cons (de_var 10) (da_cons (de_var 10) (da_cons (de_callTy call_tuple_of sim_tuple T.z_tuple (show bootBuiltins "tuple" = some (.type "tuple") from rfl) (da_cons (de_lc (own := [("part", 13)]) rfl sc_law.nd (di_seq (de_var 10)) (show BlkOk ["script", "heap", "turn", "kind", "ball", "box", "cell", "places", "far", "region", "near", "vector", "kept", "part"] (defScope s_law) _ [("part", 13)] from ⟨rfl, by decide +kernel, by decide +kernel, by decide +kernel, by decide +kernel⟩) (fun _ _ _ _ _ => (dg_name 13 sc_law.nd)) (fun _ _ _ _ _ => dts_nil) (fun _ _ _ _ _ => (de_sub (de_h h__law_draw (hr.mono (by decide)) gd (da_cons (de_var 1) (da_cons (de_add (de_mul de_int (de_var 8)) de_int) da_nil))) (de_var 8))) keep_name) da_nil)) da_nil))))) da_nil)))) (dss_cons (ds_set 12 sc_law.nd (de_callB (call_repr_any hr gd) sim_repr T.z_repr (show bootBuiltins "repr" = some (.builtin "repr") from rfl) (da_cons (de_var 9) da_nil))) (dss_one (ds_if (DW.dt (dw_or (dt_not (dt_val (de_h h__law_right (hr.mono (by decide)) gd (da_cons (de_var 3) (da_cons (de_var 9) (da_cons (de_var 11) da_nil)))))) (dw_or (dt_not (dt_val (de_h h__law_right (hr.mono (by decide)) gd (da_cons (de_var 3) (da_cons (de_var 9) (da_cons (de_var 10) da_nil)))))) (dw_or1 (dt_cmp (op_neV hr) sim_neV (de_callB (call_repr_any hr gd) sim_repr T.z_repr (show bootBuiltins "repr" = some (.builtin "repr") from rfl) (da_cons (de_var 9) da_nil)) (de_var 12)))))) (dss_one (ds_ret de_bl)) dss_nil)))))))))) (dss_cons (ds_asg (de_tup (da_cons (de_tup (da_cons de_str (da_cons (de_tup (da_cons de_int (da_cons de_int da_nil))) (da_cons de_int da_nil)))) (da_cons (de_tup (da_cons de_str (da_cons (de_tup (da_cons de_int (da_cons de_int da_nil))) (da_cons (de_tup (da_cons de_int (da_cons de_int da_nil))) da_nil)))) (da_cons (de_tup (da_cons de_str (da_cons (de_tup (da_cons de_int (da_cons de_int da_nil))) (da_cons de_int (da_cons de_int da_nil))))) da_nil)))) (dg_tup rfl (dgs_cons (dg_name 4 sc_law.nd) (dgs_cons (dg_name 5 sc_law.nd) (dgs_cons (dg_name 6 sc_law.nd) dgs_nil))))) (dss_cons (ds_if (DW.dt (dw_or (dt_cmp (op_neV hr) sim_neV (de_h h_floor_of (hr.mono (by decide)) gd (da_cons de_str (da_cons (de_var 4) (da_cons (de_tup (da_cons de_int (da_cons de_int da_nil))) da_nil)))) de_int) (dw_or (dt_cmp (op_neV hr) sim_neV (de_h h_ceiling_of (hr.mono (by decide)) gd (da_cons de_str (da_cons (de_var 4) (da_cons (de_tup (da_cons de_int (da_cons de_int da_nil))) da_nil)))) de_int) (dw_or1 (dt_cmp (op_neV hr) sim_neV (de_h h_floor_of (hr.mono (by decide)) gd (da_cons de_str (da_cons (de_var 6) (da_cons (de_tup (da_cons de_int (da_cons de_int da_nil))) da_nil)))) de_int))))) (dss_one (ds_ret de_bl)) dss_nil) (dss_cons (ds_if (DW.dt (dw_or (dt_cmp (op_neV hr) sim_neV (de_h h_floor_of (hr.mono (by decide)) gd (da_cons de_str (da_cons (de_var 5) (da_cons (de_tup (da_cons de_int (da_cons de_int da_nil))) da_nil)))) de_int) (dw_or (dt_cmp (op_neV hr) sim_neV (de_h h_ceiling_of (hr.mono (by decide)) gd (da_cons de_str (da_cons (de_var 5) (da_cons (de_tup (da_cons de_int (da_cons de_int da_nil))) da_nil)))) de_int) (dw_or1 (dt_cmp (op_neV hr) sim_neV (de_h h_floor_of (hr.mono (by decide)) gd (da_cons de_str (da_cons (de_var 5) (da_cons (de_tup (da_cons de_int (da_cons de_int da_nil))) da_nil)))) de_int))))) (dss_one (ds_ret de_bl)) dss_nil) (dss_cons (ds_if (DW.dt (dw_or (dt_cmp (op_neV hr) sim_neV (de_h h_ceiling_of (hr.mono (by decide)) gd (da_cons de_str (da_cons (de_var 5) (da_cons (de_tup (da_cons de_int (da_cons de_int da_nil))) da_nil)))) de_int) (dw_or (dt_cmp (op_neV hr) sim_neV (de_h h_ceiling_of (hr.mono (by decide)) gd (da_cons de_str (da_cons (de_tup (da_cons de_str (da_cons (de_tup (da_cons de_int (da_cons de_int da_nil))) (da_cons (de_tup (da_cons de_int (da_cons de_int da_nil))) da_nil)))) (da_cons (de_tup (da_cons de_int (da_cons de_int da_nil))) da_nil)))) de_int) (dw_or1 (dt_cmp (op_neV hr) sim_neV (de_h h_ceiling_of (hr.mono (by decide)) gd (da_cons de_str (da_cons (de_var 4) (da_cons (de_tup (da_cons de_int (da_cons de_int da_nil))) da_nil)))) de_int))))) (dss_one (ds_ret de_bl)) dss_nil) (dss_one (ds_ret (de_and (de_cmp (op_eqV hr) sim_eqV (de_h h_floor_of (hr.mono (by decide)) gd (da_cons de_str (da_cons (de_var 6) (da_cons (de_tup (da_cons de_int (da_cons de_int da_nil))) da_nil)))) de_int) (de_and (de_cmp (op_eqV hr) sim_eqV (de_h h_floor_of (hr.mono (by decide)) gd (da_cons de_str (da_cons (de_tup (da_cons de_str (da_cons (de_tup (da_cons de_int (da_cons de_int da_nil))) (da_cons de_int da_nil)))) (da_cons (de_tup (da_cons de_int (da_cons de_int da_nil))) da_nil)))) de_int) (de_one (de_cmp (op_eqV hr) sim_eqV (de_h h_floor_of (hr.mono (by decide)) gd (da_cons de_str (da_cons (de_var 6) (da_cons (de_tup (da_cons de_int (da_cons de_int da_nil))) da_nil)))) de_int))))))))))))⟩
theorem ok_law {f : Addr} {fd : FuncData} (Fn : Fun K "law" "law" s_law f fd) (T : Txt K mg aKINDS) (h_floor_of : Has P w K mg base 4 "floor_of" s_floor_of ["kind", "region", "vector"] F_floor_of) (h_ceiling_of : Has P w K mg base 3 "ceiling_of" s_ceiling_of ["kind", "region", "vector"] F_ceiling_of) (h__law_heap : Has P w K mg base 1 "_law_heap" s__law_heap ["script"] F__law_heap) (h__law_draw : Has P w K mg base 1 "_law_draw" s__law_draw ["heap", "many"] F__law_draw) (h__law_pick : Has P w K mg base 2 "_law_pick" s__law_pick ["heap", "some"] F__law_pick) (h__law_region : Has P w K mg base 3 "_law_region" s__law_region ["heap", "kind", "places", "far"] F__law_region) (h__law_right : Has P w K mg base 5 "_law_right" s__law_right ["kind", "region", "vector"] F__law_right) (len : ∀ ds M Q E, F_law ds M Q E → ds.length = 1)
    (body : ∀ ds M Q R, F_law ds M Q R → W_law { nx := fun _ M' => Q .non M', rt := Q, xr := R } (startE 14 ds) M) : FnG P w K mg base 6 f fd ["script"] (lift K F_law) :=
  ok_fn Fn sc_law len fun cdv A outer s H E gd hr => (dv_law T h_floor_of h_ceiling_of h__law_heap h__law_draw h__law_pick h__law_region h__law_right cdv A outer s H E gd hr).elim fun t ht => ⟨t, _, ht, body⟩
theorem ok__law_draw {f : Addr} {fd : FuncData} (Fn : Fun K "_law_draw" "_law_draw" s__law_draw f fd) (T : Txt K mg aKINDS) : FnG P w K mg base 1 f fd ["heap", "many"] (lift K drawF) := by
  refine fn_g Fn sc__law_draw (fun vs H Q E h => ?_) (fun cdv A outer s H vs Q E gd hr h => ?_)
  · obtain ⟨Z, ds, M, Qd, Rd, _, r, ⟨a, a0, n, rfl, _⟩, _⟩ := h
    exact r.len
  · obtain ⟨Z, ds, M, Qd, Rd, sat, r, ⟨a, a0, n, rfl, hm, hn, hn2, q⟩, kq, _⟩ := h
    cases r with
    | cons r1 r2 =>
    cases r2 with
    | cons r2 r3 =>
    cases r3
    cases r1
    cases r2
    obtain ⟨m0, cs, st, ea, e0, s0, s1, cl, cn⟩ := sat.cell a _ hm
    have d0 : Dr H a a0 cs st H := ⟨fun _ _ _ _ e => e, ea, e0, s0, s1, cl, cn⟩
    have fin : ∀ (H' : Hp) (cs' : List Int) (st' k : Int), Dr H a a0 cs' st' H' → 0 ≤ k → k < n → Q (.int k) H' := fun H' cs' st' k d h1 h2 => kq _ _ H' M (Go.drawn sat hm d.keep d.ok) (.int k) (q k h1 h2)
    have last : ∀ cs' : List Int, cs' ≠ [] → ∃ cs0 c, cs' = cs0 ++ [c] := fun cs' h => ⟨_, _, (List.dropLast_concat_getLast h).symm⟩
    have tail : ∃ t2, PSs (cxOf (L2.CX P w) P w K mg base ["heap", "many", "rest"] "_law_draw" (defScope s__law_draw) f cdv A outer s H E) (defBody s__law_draw).tail t2 ∧
        ∀ (H2 : Hp) (cs' : List Int), Dr H a a0 cs' st H2 → t2 { nx := fun _ J => Q .non J, rt := Q } [some (.ref a), some (.int n), none] H2 := by
      refine ⟨_, pss_cons (ps_if (dt_cmp (op_neG hr) sim_ne (de_ix (de_var 0) de_int) (de_lst da_nil)).pe
            (pss_cons (ps_set (i := 2) sc__law_draw.nd rfl (Or.inl rfl) (pe_bm0 PySem.F.plainAttrs_list PySem.F.slot_list_pop PySem.F.type_list_pop mt_pop (de_ix (de_var 0) de_int).pe))
              (pss_cons (ps_expr (pe_bm PySem.F.plainAttrs_list PySem.F.slot_list_append PySem.F.type_list_append mt_append (de_ix (de_var 0) de_int).pe (da_cons (de_fdiv (de_var 2) (de_var 1)) da_nil).pe))
                (pss_one (ps_ret (de_mod (de_callTy call_int1 sim_int T.z_int (by rfl) (da_cons (de_var 2) da_nil)) (de_var 1)).pe)))) pss_nil)
          (pss_cons (ds_asg (E := E) (de_mod (de_callTy call_int1 sim_int T.z_int (by rfl) (da_cons (de_add (de_mul (de_ix (de_var 0) de_int) de_int) de_int) da_nil)) de_int) (dg_sub (de_var 0) de_int)).pe
            (pss_one (ps_ret (de_mod (de_callTy call_int1 sim_int T.z_int (by rfl) (da_cons (de_fdiv (de_ix (de_var 0) de_int) de_int) da_nil)) (de_var 1)).pe))), fun H2 cs' d2 => ?_⟩
      refine ⟨_, rfl, ix_l d2.ha rfl ⟨Nat.zero_le _, fun p hp => ?_⟩⟩
      have d3 := d2.new (o := .lst []) hp
      refine ne_nil d3.h0 upd_same ⟨_, rfl, ?_⟩
      refine ite2 (fun hc => ?_) (fun hc => ?_)
      · obtain ⟨cs0, c, rfl⟩ := last cs' (of_decide_eq_true hc)
        have c0 : 0 ≤ c := d3.pos c (List.mem_append_right _ (List.mem_singleton.mpr rfl))
        have d4 := d3.put (cs' := cs0) (by have z := d3.len; rw [List.length_append] at z; omega) (fun x hx => d3.pos x (List.mem_append_left _ hx))
        have l4 : cs0.length < 100 := by
          have z := d3.len
          rw [List.length_append, List.length_singleton] at z
          omega
        refine ⟨_, rfl, ix_l d3.ha rfl ⟨.inl ⟨rfl, _, SqL.of d3.h0⟩, pop_last d3.h0 ?_⟩⟩
        refine ⟨_, rfl, ix_l d4.ha rfl ⟨.inl ⟨rfl, _, SqL.of d4.h0⟩, _, rfl, _, rfl, _, _, rfl, rfl, ⟨hn, hn2⟩, a0, _, _, rfl, rfl, d4.h0, by rw [List.length_map]; exact Nat.lt_of_lt_of_le l4 (by decide), ?_⟩⟩
        have d5 := d4.put (cs' := cs0 ++ [c / n]) (by rw [List.length_append, List.length_singleton]; omega) (fun x hx => by
          rcases List.mem_append.mp hx with z | z
          · exact d4.pos x z
          · rw [List.mem_singleton.mp z]
            exact Int.ediv_nonneg c0 (by omega))
        rw [List.map_append] at d5
        refine ⟨_, rfl, .inl ⟨_, rfl, _, rfl, _, _, rfl, rfl, hn, ?_⟩⟩
        exact fin _ _ _ _ d5 (Int.emod_nonneg _ (by omega)) (Int.emod_lt_of_pos _ hn)
      · refine ⟨_, rfl, ix_l d3.ha rfl ⟨_, _, rfl, rfl, .inl (.inr ⟨by decide, by decide⟩), .inl ⟨_, _, rfl, rfl, .inl ⟨_, rfl, _, _, rfl, rfl, (by show (0 : Int) < 2147483647; decide), _, rfl, a, _, _, _, rfl, rfl, d3.ha, rfl, ?_⟩⟩⟩⟩
        have d5 := d3.stir (s' := (st * 48271 + 13) % 2147483647) (Int.emod_nonneg _ (by decide)) (Int.lt_trans (Int.emod_lt_of_pos _ (by decide)) (by decide))
        exact ⟨_, rfl, ix_l d5.ha rfl ⟨_, _, rfl, rfl, ⟨(by decide), (by decide)⟩, .inl ⟨_, rfl, _, rfl, _, _, rfl, rfl, hn, fin _ _ _ _ d5 (Int.emod_nonneg _ (by omega)) (Int.emod_lt_of_pos _ hn)⟩⟩⟩
    obtain ⟨t2, ht2, out⟩ := tail
    refine ⟨_, pss_cons (ps_while (passes_of rfl) (DW.dt (dw_and (dt_cmp (op_neG hr) sim_ne (de_ix (de_var 0) de_int) (de_lst da_nil)) (dw_and1 (dt_cmp (op_eqG hr) sim_eq (de_ix (de_ix (de_var 0) de_int) (de_neg de_int)) de_int)))).pe
        (pss_one (ps_expr (pe_bm0 PySem.F.plainAttrs_list PySem.F.slot_list_pop PySem.F.type_list_pop mt_pop (de_ix (de_var 0) de_int).pe)))) ht2, ?_⟩
    refine ⟨fun m σ' H' => σ' = [some (.ref a), some (.int n), none] ∧ ∃ cs' : List Int, Dr H a a0 cs' st H' ∧ m = cs'.length, ⟨_, rfl, cs, d0, rfl⟩, ?_⟩
    rintro m σ' H' ⟨rfl, cs', d, rfl⟩
    refine ⟨_, rfl, ix_l d.ha rfl ⟨Nat.zero_le _, fun p hp => ?_⟩⟩
    have d1 := d.new (o := .lst []) hp
    refine ne_nil d1.h0 upd_same ⟨_, rfl, ?_⟩
    refine ite2 (fun hc => ?_) (fun hc => ?_)
    · obtain ⟨cs0, c, rfl⟩ := last cs' (of_decide_eq_true hc)
      refine ⟨_, rfl, ix_l d1.ha rfl ⟨_, rfl, ix_l d1.h0 at_last ?_⟩⟩
      unfold tC
      refine eq_int ⟨_, rfl, ?_⟩
      refine ite2 (fun h0 => ?_) (fun h0 => ?_)
      · have dp := d1.put (cs' := cs0) (by have z := d1.len; rw [List.length_append] at z; omega) (fun x hx => d1.pos x (List.mem_append_left _ hx))
        refine ⟨fun σ2 H2 => σ2 = [some (.ref a), some (.int n), none] ∧ Dr H a a0 cs0 st H2, fun σ2 H2 ⟨e, d2⟩ => ⟨cs0.length, by rw [List.length_append, List.length_singleton]; omega, e, cs0, d2, rfl⟩, ?_⟩
        exact ⟨_, rfl, ix_l d1.ha rfl ⟨.inl ⟨rfl, _, SqL.of d1.h0⟩, pop_last d1.h0 ⟨rfl, dp⟩⟩⟩
      · exact out _ _ d1
    · exact out _ _ d1
end
end K21
namespace K21
open PySem L2 L3
theorem wp_part_of : ∀ ds M Q R, F_part_of ds M Q R → W_part_of { nx := fun _ M' => Q .non M', rt := Q, xr := R } (startE 2 ds) M := by
  rintro ds M Q R ⟨k, d, rfl, d0, d1, q⟩
  have c : CM d d := cm_of (by omega) (by omega)
  unfold W_part_of
  simp (disch := first | assumption | decide) only [wSeq, wNext, wAsg, wgName, wIfS, wB, wOp, wVar, wC, wCall, wCallK, wCons, wNil, wRet, wRetN, wDrop, wTup, wLst, wIf, wAnd, wOr, wNot, wAndV, wOrV, wNotV, wNeg, wChain, fI, fI0, addD, fLt, fLe, fGt, fGe, fIsB, wCB, fAbs, f2I, fInt, fIsq, wPar, wPar3, permD, startE, List.map_cons, List.map_nil, List.cons_append, List.nil_append, List.append_nil, List.length_cons, List.length_nil, List.replicate, List.getElem?_cons_zero, List.getElem?_cons_succ, List.set_cons_zero, List.set_cons_succ, List.getD_cons_zero, List.getD_cons_succ, Nat.reduceAdd, Nat.reduceSub, Nat.zero_add, true_and, and_true, Bool.not_true, Bool.not_false, if_true, if_false, Bool.false_eq_true, reduceIte, decide_eq_true_eq, Bool.not_eq_true', decide_eq_false_iff_not, eqV_int, eqV_str, eqV_bl, decide_true, reduceCtorEq, not_true_eq_false, not_false_eq_true, Bool.not_eq_true, List.not_mem_nil, false_implies, implies_true, Int.reduceNeg, Int.reduceToNat, Int.reducePow, Int.reduceMul, Int.reduceAdd, draw_i, ix_t0, ix_t1, ix_t2, ix_t3, ix_m3, ix_m4, sn_ball_box, sn_cell_box, sn_cell_ball, sn_ball_cell, sn_box_ball, sn_box_cell, decide_false]
  unfold partI at q
  split
  · rename_i h
    rw [if_pos h] at q
    exact ⟨c, q⟩
  · rename_i h
    rw [if_neg h] at q
    split
    · rename_i h2
      rw [if_pos h2] at q
      split
      · rename_i h3
        rw [if_pos h3] at q
        exact q
      · rename_i h3
        rw [if_neg h3] at q
        exact q
    · rename_i h2
      rw [if_neg h2] at q
      exact q
theorem wp__law_part : ∀ ds M Q R, F__law_part ds M Q R → W__law_part { nx := fun _ M' => Q .non M', rt := Q, xr := R } (startE 4 ds) M := by
  rintro ds M Q R ⟨k, a, b, rfl, a0, a1, b0, b1, q⟩
  unfold W__law_part
  refine seq_gen fun K hK => ?_
  simp (disch := first | assumption | decide) only [wSeq, wNext, wAsg, wgName, wIfS, wB, wOp, wVar, wC, wCall, wCallK, wCons, wNil, wRet, wRetN, wDrop, wTup, wLst, wIf, wAnd, wOr, wNot, wAndV, wOrV, wNotV, wNeg, wChain, fI, fI0, addD, fLt, fLe, fGt, fGe, fIsB, wCB, fAbs, f2I, fInt, fIsq, wPar, wPar3, permD, startE, List.map_cons, List.map_nil, List.cons_append, List.nil_append, List.append_nil, List.length_cons, List.length_nil, List.replicate, List.getElem?_cons_zero, List.getElem?_cons_succ, List.set_cons_zero, List.set_cons_succ, List.getD_cons_zero, List.getD_cons_succ, Nat.reduceAdd, Nat.reduceSub, Nat.zero_add, true_and, and_true, Bool.not_true, Bool.not_false, if_true, if_false, Bool.false_eq_true, reduceIte, decide_eq_true_eq, Bool.not_eq_true', decide_eq_false_iff_not, eqV_int, eqV_str, eqV_bl, decide_true, reduceCtorEq, not_true_eq_false, not_false_eq_true, Bool.not_eq_true, List.not_mem_nil, false_implies, implies_true, Int.reduceNeg, Int.reduceToNat, Int.reducePow, Int.reduceMul, Int.reduceAdd, draw_i, ix_t0, ix_t1, ix_t2, ix_t3, ix_m3, ix_m4, sn_ball_box, sn_cell_box, sn_cell_ball, sn_ball_cell, sn_box_ball, sn_box_cell, decide_false]
  have main : ∀ z : Int, 0 ≤ z → z ≤ 4000000 → (z = a - b ∨ z = b - a) → K [some (D.str k), some (D.int a), some (D.int b), some (D.int z)] M := fun z z0 z1 zor => by
    have ep : partI k z = partI k (a - b) := by
      rcases zor with h | h
      · rw [h]
      · have e : b - a = -(a - b) := by omega
        rw [h, e, part_neg]
    rw [← ep] at q
    have c : CM z z := cm_of (by omega) (by omega)
    subst hK
    simp (disch := first | assumption | decide) only [wSeq, wNext, wAsg, wgName, wIfS, wB, wOp, wVar, wC, wCall, wCallK, wCons, wNil, wRet, wRetN, wDrop, wTup, wLst, wIf, wAnd, wOr, wNot, wAndV, wOrV, wNotV, wNeg, wChain, fI, fI0, addD, fLt, fLe, fGt, fGe, fIsB, wCB, fAbs, f2I, fInt, fIsq, wPar, wPar3, permD, startE, List.map_cons, List.map_nil, List.cons_append, List.nil_append, List.append_nil, List.length_cons, List.length_nil, List.replicate, List.getElem?_cons_zero, List.getElem?_cons_succ, List.set_cons_zero, List.set_cons_succ, List.getD_cons_zero, List.getD_cons_succ, Nat.reduceAdd, Nat.reduceSub, Nat.zero_add, true_and, and_true, Bool.not_true, Bool.not_false, if_true, if_false, Bool.false_eq_true, reduceIte, decide_eq_true_eq, Bool.not_eq_true', decide_eq_false_iff_not, eqV_int, eqV_str, eqV_bl, decide_true, reduceCtorEq, not_true_eq_false, not_false_eq_true, Bool.not_eq_true, List.not_mem_nil, false_implies, implies_true, Int.reduceNeg, Int.reduceToNat, Int.reducePow, Int.reduceMul, Int.reduceAdd, draw_i, ix_t0, ix_t1, ix_t2, ix_t3, ix_m3, ix_m4, sn_ball_box, sn_cell_box, sn_cell_ball, sn_ball_cell, sn_box_ball, sn_box_cell, decide_false]
    unfold partI at q
    split
    · rename_i h
      rw [if_pos h] at q
      exact ⟨c, q⟩
    · rename_i h
      rw [if_neg h] at q
      split
      · rename_i h2
        rw [if_pos h2] at q
        by_cases h3 : z = 0
        · subst h3
          rw [if_pos rfl] at q
          rw [if_neg (by omega)]
          exact q
        · rw [if_neg h3] at q
          rw [if_pos (by omega)]
          exact q
      · rename_i h2
        rw [if_neg h2, if_neg (by omega)] at q
        exact q
  split
  · exact main _ (by omega) (by omega) (.inl rfl)
  · exact main _ (by omega) (by omega) (.inr rfl)
theorem wp_joined_parts : ∀ ds M Q R, F_joined_parts ds M Q R → W_joined_parts { nx := fun _ M' => Q .non M', rt := Q, xr := R } (startE 2 ds) M := by
  rintro ds M Q R ⟨k, d, ns, rfl, hs, hn, q⟩
  unfold W_joined_parts
  simp (disch := first | assumption | decide) only [wSeq, wNext, wAsg, wgName, wIfS, wB, wOp, wVar, wC, wCall, wCallK, wCons, wNil, wRet, wRetN, wDrop, wTup, wLst, wIf, wAnd, wOr, wNot, wAndV, wOrV, wNotV, wNeg, wChain, fI, fI0, addD, fLt, fLe, fGt, fGe, fIsB, wCB, fAbs, f2I, fInt, fIsq, wPar, wPar3, permD, startE, List.map_cons, List.map_nil, List.cons_append, List.nil_append, List.append_nil, List.length_cons, List.length_nil, List.replicate, List.getElem?_cons_zero, List.getElem?_cons_succ, List.set_cons_zero, List.set_cons_succ, List.getD_cons_zero, List.getD_cons_succ, Nat.reduceAdd, Nat.reduceSub, Nat.zero_add, true_and, and_true, Bool.not_true, Bool.not_false, if_true, if_false, Bool.false_eq_true, reduceIte, decide_eq_true_eq, Bool.not_eq_true', decide_eq_false_iff_not, eqV_int, eqV_str, eqV_bl, decide_true, reduceCtorEq, not_true_eq_false, not_false_eq_true, Bool.not_eq_true, List.not_mem_nil, false_implies, implies_true, Int.reduceNeg, Int.reduceToNat, Int.reducePow, Int.reduceMul, Int.reduceAdd, draw_i, ix_t0, ix_t1, ix_t2, ix_t3, ix_m3, ix_m4, sn_ball_box, sn_cell_box, sn_cell_ball, sn_ball_cell, sn_box_ball, sn_box_cell, decide_false, wKw, fMaxDf, fSumA]
  unfold joinI at q
  split
  · rename_i h
    rw [if_pos h] at q
    refine ⟨ns, hs, fun e => ?_, fun m h1 h2 => ?_⟩
    · subst e
      exact q
    · rw [← mxI_is (fun n hh => (hn.2 n hh).1) h1 h2]
      exact q
  · rename_i h
    rw [if_neg h] at q
    refine ⟨ns, hs, fun j hj => ?_, q⟩
    have b1 := hn.2 (ns.getD j 0) (by rw [List.getD_eq_getElem?_getD, List.getElem?_eq_getElem hj]; exact List.getElem_mem hj)
    have b2 := sum_bound (B := 100000000000000) (by decide) (ns := ns.take (j + 1)) fun n hh => hn.2 n (List.mem_of_mem_take hh)
    have b3 : (ns.take (j + 1)).length ≤ 64 := by
      rw [List.length_take]
      have := hn.1
      omega
    exact ⟨⟨by omega, by omega⟩, ⟨by omega, by omega⟩⟩
def fSub : D → D := fun d => match d with
  | .tup [.int a, .int b] => .int (a - b)
  | _ => .non
theorem zip_sub (v u : List Int) : (zipD (v.map .int) (u.map .int)).map fSub = (subI v u).map D.int := by
  unfold zipD subI
  induction v generalizing u with
  | nil => rfl
  | cons a v ih =>
    cases u with
    | nil => rfl
    | cons b u =>
      rw [List.map_cons, List.map_cons, List.zipWith_cons_cons, List.zipWith_cons_cons, List.map_cons, List.map_cons, ih]
      rfl
theorem zip_mem {v u : List Int} {d : D} (h : d ∈ zipD (v.map .int) (u.map .int)) : ∃ a b : Int, d = .tup [.int a, .int b] := by
  obtain ⟨i, hi⟩ := List.mem_iff_getElem?.mp h
  obtain ⟨x, y, e1, e2, rfl⟩ := zip_get hi
  have i1 := List.mem_of_getElem? e1
  have i2 := List.mem_of_getElem? e2
  obtain ⟨a, _, rfl⟩ := List.mem_map.mp i1
  obtain ⟨b, _, rfl⟩ := List.mem_map.mp i2
  exact ⟨a, b, rfl⟩
theorem zip_len {xs ys : List D} : (zipD xs ys).length ≤ xs.length := by
  unfold zipD
  rw [List.length_zipWith]
  omega
theorem wp_differences : ∀ ds M Q R, F_differences ds M Q R → W_differences { nx := fun _ M' => Q .non M', rt := Q, xr := R } (startE 4 ds) M := by
  rintro ds M Q R ⟨v, u, rfl, hv, hu, q⟩
  unfold W_differences
  simp (disch := first | assumption | decide) only [wSeq, wNext, wAsg, wgName, wIfS, wB, wOp, wVar, wC, wCall, wCallK, wCons, wNil, wRet, wRetN, wDrop, wTup, wLst, wIf, wAnd, wOr, wNot, wAndV, wOrV, wNotV, wNeg, wChain, fI, fI0, addD, fLt, fLe, fGt, fGe, fIsB, wCB, fAbs, f2I, fInt, fIsq, wPar, wPar3, permD, startE, List.map_cons, List.map_nil, List.cons_append, List.nil_append, List.append_nil, List.length_cons, List.length_nil, List.replicate, List.getElem?_cons_zero, List.getElem?_cons_succ, List.set_cons_zero, List.set_cons_succ, List.getD_cons_zero, List.getD_cons_succ, Nat.reduceAdd, Nat.reduceSub, Nat.zero_add, true_and, and_true, Bool.not_true, Bool.not_false, if_true, if_false, Bool.false_eq_true, reduceIte, decide_eq_true_eq, Bool.not_eq_true', decide_eq_false_iff_not, eqV_int, eqV_str, eqV_bl, decide_true, reduceCtorEq, not_true_eq_false, not_false_eq_true, Bool.not_eq_true, List.not_mem_nil, false_implies, implies_true, Int.reduceNeg, Int.reduceToNat, Int.reducePow, Int.reduceMul, Int.reduceAdd, draw_i, ix_t0, ix_t1, ix_t2, ix_t3, ix_m3, ix_m4, sn_ball_box, sn_cell_box, sn_cell_ball, sn_ball_cell, sn_box_ball, sn_box_cell, decide_false, wLc, wiZip, wipeE, vec, fTuple]
  refine lc_pure fSub True.intro _ [] ?_ (fun d hd K hK => ?_) ?_
  · have := zip_len (xs := v.map D.int) (ys := u.map D.int)
    rw [List.length_map] at this
    have := hv.1
    simp only [List.length_nil]
    omega
  · obtain ⟨a, b, rfl⟩ := zip_mem hd
    simp (disch := first | assumption | decide) only [wSeq, wNext, wAsg, wgName, wIfS, wB, wOp, wVar, wC, wCall, wCallK, wCons, wNil, wRet, wRetN, wDrop, wTup, wLst, wIf, wAnd, wOr, wNot, wAndV, wOrV, wNotV, wNeg, wChain, fI, fI0, addD, fLt, fLe, fGt, fGe, fIsB, wCB, fAbs, f2I, fInt, fIsq, wPar, wPar3, permD, startE, List.map_cons, List.map_nil, List.cons_append, List.nil_append, List.append_nil, List.length_cons, List.length_nil, List.replicate, List.getElem?_cons_zero, List.getElem?_cons_succ, List.set_cons_zero, List.set_cons_succ, List.getD_cons_zero, List.getD_cons_succ, Nat.reduceAdd, Nat.reduceSub, Nat.zero_add, true_and, and_true, Bool.not_true, Bool.not_false, if_true, if_false, Bool.false_eq_true, reduceIte, decide_eq_true_eq, Bool.not_eq_true', decide_eq_false_iff_not, eqV_int, eqV_str, eqV_bl, decide_true, reduceCtorEq, not_true_eq_false, not_false_eq_true, Bool.not_eq_true, List.not_mem_nil, false_implies, implies_true, Int.reduceNeg, Int.reduceToNat, Int.reducePow, Int.reduceMul, Int.reduceAdd, draw_i, ix_t0, ix_t1, ix_t2, ix_t3, ix_m3, ix_m4, sn_ball_box, sn_cell_box, sn_cell_ball, sn_ball_cell, sn_box_ball, sn_box_cell, decide_false, wgTup, wgCons, wgNil]
    exact hK
  · rw [List.nil_append, zip_sub]
    exact ⟨_, rfl, q⟩
theorem atI_nat {v : List Int} {p : Nat} (h : p < v.length) : atI (v.map D.int) (p : Int) = some (.int (v.getD p 0)) := by
  unfold atI ixN
  rw [List.getD_eq_getElem?_getD, List.getElem?_eq_getElem h]
  simp [h]
theorem parts_lc {M : Mp} {Q : KD} {k : Str} {v u : List Int} {v1 v2 : Option D} (hv : sm v) (hu : sm u) (q : Q (.lst (((subI v u).map (partI k)).map .int)) M) :
    wLcL (wgName 3) wYes (wCall F_part_of (wCons (wVar 0) (wCons (wVar 3) wNil))) AnyM [some (.str k), v1, v2, none] ((subI v u).map .int) [] M Q := by
  refine lc_pure (fun d => match d with | .int i => .int (partI k i) | _ => .non) True.intro _ [] ?_ (fun d hd K hK => ?_) ?_
  · rw [List.length_map]
    have := sub_len (u := u) hv.1
    simp only [List.length_nil]
    omega
  · obtain ⟨c, hc, rfl⟩ := List.mem_map.mp hd
    obtain ⟨a, ha, b, hb, rfl⟩ := mem_zw hc
    have h1 := hv.2 a ha
    have h2 := hu.2 b hb
    simp (disch := first | assumption | decide) only [wSeq, wNext, wAsg, wgName, wIfS, wB, wOp, wVar, wC, wCall, wCallK, wCons, wNil, wRet, wRetN, wDrop, wTup, wLst, wIf, wAnd, wOr, wNot, wAndV, wOrV, wNotV, wNeg, wChain, fI, fI0, addD, fLt, fLe, fGt, fGe, fIsB, wCB, fAbs, f2I, fInt, fIsq, wPar, wPar3, permD, startE, List.map_cons, List.map_nil, List.cons_append, List.nil_append, List.append_nil, List.length_cons, List.length_nil, List.replicate, List.getElem?_cons_zero, List.getElem?_cons_succ, List.set_cons_zero, List.set_cons_succ, List.getD_cons_zero, List.getD_cons_succ, Nat.reduceAdd, Nat.reduceSub, Nat.zero_add, true_and, and_true, Bool.not_true, Bool.not_false, if_true, if_false, Bool.false_eq_true, reduceIte, decide_eq_true_eq, Bool.not_eq_true', decide_eq_false_iff_not, eqV_int, eqV_str, eqV_bl, decide_true, reduceCtorEq, not_true_eq_false, not_false_eq_true, Bool.not_eq_true, List.not_mem_nil, false_implies, implies_true, Int.reduceNeg, Int.reduceToNat, Int.reducePow, Int.reduceMul, Int.reduceAdd, draw_i, ix_t0, ix_t1, ix_t2, ix_t3, ix_m3, ix_m4, sn_ball_box, sn_cell_box, sn_cell_ball, sn_ball_cell, sn_box_ball, sn_box_cell, decide_false]
    exact ⟨k, a - b, rfl, by omega, by omega, hK⟩
  · rw [List.nil_append, List.map_map]
    rw [List.map_map] at q
    exact q
theorem wp_distance : ∀ ds M Q R, F_distance ds M Q R → W_distance { nx := fun _ M' => Q .non M', rt := Q, xr := R } (startE 4 ds) M := by
  rintro ds M Q R ⟨k, v, u, rfl, hv, hu, q⟩
  unfold W_distance
  simp (disch := first | assumption | decide) only [wSeq, wNext, wAsg, wgName, wIfS, wB, wOp, wVar, wC, wCall, wCallK, wCons, wNil, wRet, wRetN, wDrop, wTup, wLst, wIf, wAnd, wOr, wNot, wAndV, wOrV, wNotV, wNeg, wChain, fI, fI0, addD, fLt, fLe, fGt, fGe, fIsB, wCB, fAbs, f2I, fInt, fIsq, wPar, wPar3, permD, startE, List.map_cons, List.map_nil, List.cons_append, List.nil_append, List.append_nil, List.length_cons, List.length_nil, List.replicate, List.getElem?_cons_zero, List.getElem?_cons_succ, List.set_cons_zero, List.set_cons_succ, List.getD_cons_zero, List.getD_cons_succ, Nat.reduceAdd, Nat.reduceSub, Nat.zero_add, true_and, and_true, Bool.not_true, Bool.not_false, if_true, if_false, Bool.false_eq_true, reduceIte, decide_eq_true_eq, Bool.not_eq_true', decide_eq_false_iff_not, eqV_int, eqV_str, eqV_bl, decide_true, reduceCtorEq, not_true_eq_false, not_false_eq_true, Bool.not_eq_true, List.not_mem_nil, false_implies, implies_true, Int.reduceNeg, Int.reduceToNat, Int.reducePow, Int.reduceMul, Int.reduceAdd, draw_i, ix_t0, ix_t1, ix_t2, ix_t3, ix_m3, ix_m4, sn_ball_box, sn_cell_box, sn_cell_ball, sn_ball_cell, sn_box_ball, sn_box_cell, decide_false, wLc, wiSeq, wipeE, vec, fTuple]
  refine ⟨v, u, rfl, hv, hu, ?_⟩
  refine parts_lc hv hu ?_
  exact ⟨k, _, _, rfl, rfl, small_parts hv hu, q⟩
theorem wp__law_pick : ∀ ds M Q R, pickF ds M Q R → W__law_pick { nx := fun _ M' => Q .non M', rt := Q, xr := R } (startE 2 ds) M := by
  rintro ds M Q R ⟨a, a0, d, es, rfl, hm, hs, h0, h1, q⟩
  unfold W__law_pick
  simp (disch := first | assumption | decide) only [wSeq, wNext, wAsg, wgName, wIfS, wB, wOp, wVar, wC, wCall, wCallK, wCons, wNil, wRet, wRetN, wDrop, wTup, wLst, wIf, wAnd, wOr, wNot, wAndV, wOrV, wNotV, wNeg, wChain, fI, fI0, addD, fLt, fLe, fGt, fGe, fIsB, wCB, fAbs, f2I, fInt, fIsq, wPar, wPar3, permD, startE, List.map_cons, List.map_nil, List.cons_append, List.nil_append, List.append_nil, List.length_cons, List.length_nil, List.replicate, List.getElem?_cons_zero, List.getElem?_cons_succ, List.set_cons_zero, List.set_cons_succ, List.getD_cons_zero, List.getD_cons_succ, Nat.reduceAdd, Nat.reduceSub, Nat.zero_add, true_and, and_true, Bool.not_true, Bool.not_false, if_true, if_false, Bool.false_eq_true, reduceIte, decide_eq_true_eq, Bool.not_eq_true', decide_eq_false_iff_not, eqV_int, eqV_str, eqV_bl, decide_true, reduceCtorEq, not_true_eq_false, not_false_eq_true, Bool.not_eq_true, List.not_mem_nil, false_implies, implies_true, Int.reduceNeg, Int.reduceToNat, Int.reducePow, Int.reduceMul, Int.reduceAdd, draw_i, ix_t0, ix_t1, ix_t2, ix_t3, ix_m3, ix_m4, sn_ball_box, sn_cell_box, sn_cell_ball, sn_ball_cell, sn_box_ball, sn_box_cell, decide_false]
  have fl : ∀ Q' : KD, Q' (.int (es.length : Int)) M → fLen [d] M Q' := fun Q' h => by
    cases d <;> first | exact ⟨es, hs, h⟩ | cases hs
  refine fl _ ?_
  have hl : (0 : Int) < (es.length : Int) := by omega
  have hg : ((es.length : Nat) : Int).natAbs.log2 < 9000 := by
    rw [Int.natAbs_natCast]
    have := Nat.log2_le_self es.length
    have h2 : es.length.log2 < 20 := (Nat.log2_lt (by omega)).mpr (by omega)
    omega
  refine ⟨a, a0, _, rfl, hm, hl, hg, fun k k0 k1 => ?_⟩
  obtain ⟨i, rfl⟩ := Int.eq_ofNat_of_zero_le k0
  have hi : i < es.length := by omega
  have e : atI es (i : Int) = some es[i] := by
    unfold atI ixN
    simp [hi]
  have fx : ∀ Q' : KD, Q' es[i] M → ixD d (.int (i : Int)) M Q' := fun Q' h => by
    cases d <;> first | exact ⟨es, _, hs, e, h⟩ | cases hs
  exact fx _ (q _ (List.getElem_mem hi))
theorem cut_ints (ns : List Int) (lo hi : Option Int) : ∃ ms : List Int, cutD (ns.map .int) lo hi = ms.map .int ∧ ms.length ≤ ns.length := by
  unfold cutD
  refine ⟨(ns.drop (HT.sIx (ns.map D.int).length 0 lo)).take (HT.sIx (ns.map D.int).length (ns.map D.int).length hi - HT.sIx (ns.map D.int).length 0 lo), ?_, ?_⟩
  · rw [← List.map_drop, ← List.map_take]
  · rw [List.length_take, List.length_drop]
    omega
theorem heap_cells {Q : KD} {M : Mp} {sc : Option D} {v2 v3 : Option D} : ∀ (ns acc : List Int), acc.length + ns.length ≤ 63 → (∀ c ∈ acc, 0 ≤ c) → (∀ cs : List Int, cs.length ≤ 63 → (∀ c ∈ cs, 0 ≤ c) → Q (.lst (cs.map .int)) M) →
    wLcL (wgName 1) wYes (wOp addD (wOp (fI CM fun i j => .int (i * j)) (wC (.int 2)) (wCB fAbs (wCons (wVar 1) wNil))) (wCB fInt (wCons (wOp fLt (wVar 1) (wC (.int 0))) wNil))) AnyM [sc, none, v2, v3] (ns.map .int) (acc.map .int) M Q
  | [], acc, hl, hp, q => ⟨True.intro, q acc (by simpa using hl) hp⟩
  | n :: ns, acc, hl, hp, q => by
    refine ⟨True.intro, ?_, ?_⟩
    · rw [List.length_map]
      rw [List.length_cons] at hl
      exact Nat.lt_of_lt_of_le (by omega : acc.length < 63) (by decide)
    · have e : ∀ c : Int, acc.map D.int ++ [.int c] = (acc ++ [c]).map .int := fun c => by rw [List.map_append]; rfl
      simp (disch := first | assumption | decide) only [wSeq, wNext, wAsg, wgName, wIfS, wB, wOp, wVar, wC, wCall, wCallK, wCons, wNil, wRet, wRetN, wDrop, wTup, wLst, wIf, wAnd, wOr, wNot, wAndV, wOrV, wNotV, wNeg, wChain, fI, fI0, addD, fLt, fLe, fGt, fGe, fIsB, wCB, fAbs, f2I, fInt, fIsq, wPar, wPar3, permD, startE, List.map_cons, List.map_nil, List.cons_append, List.nil_append, List.append_nil, List.length_cons, List.length_nil, List.replicate, List.getElem?_cons_zero, List.getElem?_cons_succ, List.set_cons_zero, List.set_cons_succ, List.getD_cons_zero, List.getD_cons_succ, Nat.reduceAdd, Nat.reduceSub, Nat.zero_add, true_and, and_true, Bool.not_true, Bool.not_false, if_true, if_false, Bool.false_eq_true, reduceIte, decide_eq_true_eq, Bool.not_eq_true', decide_eq_false_iff_not, eqV_int, eqV_str, eqV_bl, decide_true, reduceCtorEq, not_true_eq_false, not_false_eq_true, Bool.not_eq_true, List.not_mem_nil, false_implies, implies_true, Int.reduceNeg, Int.reduceToNat, Int.reducePow, Int.reduceMul, Int.reduceAdd, draw_i, ix_t0, ix_t1, ix_t2, ix_t3, ix_m3, ix_m4, sn_ball_box, sn_cell_box, sn_cell_ball, sn_ball_cell, sn_box_ball, sn_box_cell, decide_false, wYes]
      refine ⟨.inl (.inl ⟨by decide, by decide⟩), ?_⟩
      rw [e]
      refine heap_cells ns _ (by rw [List.length_append, List.length_singleton]; rw [List.length_cons] at hl; omega) (fun c hc => ?_) q
      rcases List.mem_append.mp hc with z | z
      · exact hp c z
      · rw [List.mem_singleton.mp z]
        split <;> omega
theorem heap_great {Q : KD} {M : Mp} {v0 v2 v3 : Option D} : ∀ (ns acc : List Int), acc.length + ns.length ≤ 63 → (∀ c ∈ acc, 0 ≤ c) → (∀ c ∈ ns, 0 ≤ c) → (∀ cs : List Int, cs.length ≤ 63 → (∀ c ∈ cs, 0 ≤ c) → Q (.lst (cs.map .int)) M) →
    wLcL (wgName 1) (wB (wOp fGe (wVar 1) (wOp (fI CPow fun i j => .int (i ^ j.toNat)) (wC (.int 10)) (wC (.int 18))))) (wVar 1) AnyM [v0, none, v2, v3] (ns.map .int) (acc.map .int) M Q
  | [], acc, hl, hp, hq, q => ⟨True.intro, q acc (by simpa using hl) hp⟩
  | n :: ns, acc, hl, hp, hq, q => by
    rw [List.length_cons] at hl
    refine ⟨True.intro, ?_, ?_⟩
    · rw [List.length_map]
      exact Nat.lt_of_lt_of_le (by omega : acc.length < 63) (by decide)
    · have e : ∀ c : Int, acc.map D.int ++ [.int c] = (acc ++ [c]).map .int := fun c => by rw [List.map_append]; rfl
      simp (disch := first | assumption | decide) only [wSeq, wNext, wAsg, wgName, wIfS, wB, wOp, wVar, wC, wCall, wCallK, wCons, wNil, wRet, wRetN, wDrop, wTup, wLst, wIf, wAnd, wOr, wNot, wAndV, wOrV, wNotV, wNeg, wChain, fI, fI0, addD, fLt, fLe, fGt, fGe, fIsB, wCB, fAbs, f2I, fInt, fIsq, wPar, wPar3, permD, startE, List.map_cons, List.map_nil, List.cons_append, List.nil_append, List.append_nil, List.length_cons, List.length_nil, List.replicate, List.getElem?_cons_zero, List.getElem?_cons_succ, List.set_cons_zero, List.set_cons_succ, List.getD_cons_zero, List.getD_cons_succ, Nat.reduceAdd, Nat.reduceSub, Nat.zero_add, true_and, and_true, Bool.not_true, Bool.not_false, if_true, if_false, Bool.false_eq_true, reduceIte, decide_eq_true_eq, Bool.not_eq_true', decide_eq_false_iff_not, eqV_int, eqV_str, eqV_bl, decide_true, reduceCtorEq, not_true_eq_false, not_false_eq_true, Bool.not_eq_true, List.not_mem_nil, false_implies, implies_true, Int.reduceNeg, Int.reduceToNat, Int.reducePow, Int.reduceMul, Int.reduceAdd, draw_i, ix_t0, ix_t1, ix_t2, ix_t3, ix_m3, ix_m4, sn_ball_box, sn_cell_box, sn_cell_ball, sn_ball_cell, sn_box_ball, sn_box_cell, decide_false]
      refine ⟨⟨by decide, by decide, by decide⟩, ?_⟩
      have hq2 : ∀ c ∈ ns, 0 ≤ c := fun c hc => hq c (List.mem_cons_of_mem _ hc)
      split
      · rw [e]
        refine heap_great ns _ (by rw [List.length_append, List.length_singleton]; omega) (fun c hc => ?_) hq2 q
        rcases List.mem_append.mp hc with z | z
        · exact hp c z
        · rw [List.mem_singleton.mp z]
          exact hq n List.mem_cons_self
      · exact heap_great ns acc (by omega) hp hq2 q
theorem wp__law_heap : ∀ ds M Q R, F__law_heap ds M Q R → W__law_heap { nx := fun _ M' => Q .non M', rt := Q, xr := R } (startE 4 ds) M := by
  rintro ds M Q R ⟨ns, rfl, hn, q⟩
  unfold W__law_heap
  refine seq_gen fun K hK => ?_
  simp (disch := first | assumption | decide) only [wSeq, wNext, wAsg, wgName, wIfS, wB, wOp, wVar, wC, wCall, wCallK, wCons, wNil, wRet, wRetN, wDrop, wTup, wLst, wIf, wAnd, wOr, wNot, wAndV, wOrV, wNotV, wNeg, wChain, fI, fI0, addD, fLt, fLe, fGt, fGe, fIsB, wCB, fAbs, f2I, fInt, fIsq, wPar, wPar3, permD, startE, List.map_cons, List.map_nil, List.cons_append, List.nil_append, List.append_nil, List.length_cons, List.length_nil, List.replicate, List.getElem?_cons_zero, List.getElem?_cons_succ, List.set_cons_zero, List.set_cons_succ, List.getD_cons_zero, List.getD_cons_succ, Nat.reduceAdd, Nat.reduceSub, Nat.zero_add, true_and, and_true, Bool.not_true, Bool.not_false, if_true, if_false, Bool.false_eq_true, reduceIte, decide_eq_true_eq, Bool.not_eq_true', decide_eq_false_iff_not, eqV_int, eqV_str, eqV_bl, decide_true, reduceCtorEq, not_true_eq_false, not_false_eq_true, Bool.not_eq_true, List.not_mem_nil, false_implies, implies_true, Int.reduceNeg, Int.reduceToNat, Int.reducePow, Int.reduceMul, Int.reduceAdd, draw_i, ix_t0, ix_t1, ix_t2, ix_t3, ix_m3, ix_m4, sn_ball_box, sn_cell_box, sn_cell_ball, sn_ball_cell, sn_box_ball, sn_box_cell, decide_false, wLc, wSl, wNoP, wPart, slD, wiSeq, wipeE]
  obtain ⟨ms, em, lm⟩ := cut_ints ns none (some 60)
  refine ⟨_, ⟨0, .inr rfl⟩, rfl, ?_⟩
  rw [em]
  refine heap_cells ms [] (by simp; omega) (fun c hc => by cases hc) fun cs hc hp => ?_
  subst hK
  refine seq_gen fun K hK => ?_
  refine for_gen fun B hB => ?_
  simp (disch := first | assumption | decide) only [wSeq, wNext, wAsg, wgName, wIfS, wB, wOp, wVar, wC, wCall, wCallK, wCons, wNil, wRet, wRetN, wDrop, wTup, wLst, wIf, wAnd, wOr, wNot, wAndV, wOrV, wNotV, wNeg, wChain, fI, fI0, addD, fLt, fLe, fGt, fGe, fIsB, wCB, fAbs, f2I, fInt, fIsq, wPar, wPar3, permD, startE, List.map_cons, List.map_nil, List.cons_append, List.nil_append, List.append_nil, List.length_cons, List.length_nil, List.replicate, List.getElem?_cons_zero, List.getElem?_cons_succ, List.set_cons_zero, List.set_cons_succ, List.getD_cons_zero, List.getD_cons_succ, Nat.reduceAdd, Nat.reduceSub, Nat.zero_add, true_and, and_true, Bool.not_true, Bool.not_false, if_true, if_false, Bool.false_eq_true, reduceIte, decide_eq_true_eq, Bool.not_eq_true', decide_eq_false_iff_not, eqV_int, eqV_str, eqV_bl, decide_true, reduceCtorEq, not_true_eq_false, not_false_eq_true, Bool.not_eq_true, List.not_mem_nil, false_implies, implies_true, Int.reduceNeg, Int.reduceToNat, Int.reducePow, Int.reduceMul, Int.reduceAdd, draw_i, ix_t0, ix_t1, ix_t2, ix_t3, ix_m3, ix_m4, sn_ball_box, sn_cell_box, sn_cell_ball, sn_ball_cell, sn_box_ball, sn_box_cell, decide_false, wFor, wiSeq]
  refine loop_ix (fun i ρ' M' => M' = M ∧ ∃ (v1 : Option D) (s : Int), ρ' = [some (.lst (ns.map .int)), v1, some (.lst (cs.map .int)), some (.int s)] ∧ 0 ≤ s ∧ s < 4294967296) ?_ ?_ ⟨rfl, _, _, rfl, by decide, by decide⟩
  · rintro i d ρ' M' hi ⟨rfl, v1, s, rfl, s0, s1⟩
    refine ⟨True.intro, fun K' hK' => ?_⟩
    obtain ⟨c, rfl⟩ : ∃ c : Int, d = .int c := by
      rw [List.getElem?_map] at hi
      cases e : cs[i]? with
      | none =>
        rw [e] at hi
        cases hi
      | some c =>
        rw [e] at hi
        exact ⟨c, (Option.some.inj hi).symm⟩
    subst hB
    simp (disch := first | assumption | decide) only [wSeq, wNext, wAsg, wgName, wIfS, wB, wOp, wVar, wC, wCall, wCallK, wCons, wNil, wRet, wRetN, wDrop, wTup, wLst, wIf, wAnd, wOr, wNot, wAndV, wOrV, wNotV, wNeg, wChain, fI, fI0, addD, fLt, fLe, fGt, fGe, fIsB, wCB, fAbs, f2I, fInt, fIsq, wPar, wPar3, permD, startE, List.map_cons, List.map_nil, List.cons_append, List.nil_append, List.append_nil, List.length_cons, List.length_nil, List.replicate, List.getElem?_cons_zero, List.getElem?_cons_succ, List.set_cons_zero, List.set_cons_succ, List.getD_cons_zero, List.getD_cons_succ, Nat.reduceAdd, Nat.reduceSub, Nat.zero_add, true_and, and_true, Bool.not_true, Bool.not_false, if_true, if_false, Bool.false_eq_true, reduceIte, decide_eq_true_eq, Bool.not_eq_true', decide_eq_false_iff_not, eqV_int, eqV_str, eqV_bl, decide_true, reduceCtorEq, not_true_eq_false, not_false_eq_true, Bool.not_eq_true, List.not_mem_nil, false_implies, implies_true, Int.reduceNeg, Int.reduceToNat, Int.reducePow, Int.reduceMul, Int.reduceAdd, draw_i, ix_t0, ix_t1, ix_t2, ix_t3, ix_m3, ix_m4, sn_ball_box, sn_cell_box, sn_cell_ball, sn_ball_cell, sn_box_ball, sn_box_cell, decide_false]
    refine ⟨.inl (.inr ⟨by decide, by decide⟩), by decide, by decide, ?_⟩
    exact hK' _ _ ⟨rfl, _, _, rfl, Int.emod_nonneg _ (by decide), Int.lt_trans (Int.emod_lt_of_pos _ (by decide)) (by decide)⟩
  · rintro ρ' M' ⟨rfl, v1, s, rfl, s0, s1⟩
    refine ⟨True.intro, ?_⟩
    show K _ _
    subst hK
    simp (disch := first | assumption | decide) only [wSeq, wNext, wAsg, wgName, wIfS, wB, wOp, wVar, wC, wCall, wCallK, wCons, wNil, wRet, wRetN, wDrop, wTup, wLst, wIf, wAnd, wOr, wNot, wAndV, wOrV, wNotV, wNeg, wChain, fI, fI0, addD, fLt, fLe, fGt, fGe, fIsB, wCB, fAbs, f2I, fInt, fIsq, wPar, wPar3, permD, startE, List.map_cons, List.map_nil, List.cons_append, List.nil_append, List.append_nil, List.length_cons, List.length_nil, List.replicate, List.getElem?_cons_zero, List.getElem?_cons_succ, List.set_cons_zero, List.set_cons_succ, List.getD_cons_zero, List.getD_cons_succ, Nat.reduceAdd, Nat.reduceSub, Nat.zero_add, true_and, and_true, Bool.not_true, Bool.not_false, if_true, if_false, Bool.false_eq_true, reduceIte, decide_eq_true_eq, Bool.not_eq_true', decide_eq_false_iff_not, eqV_int, eqV_str, eqV_bl, decide_true, reduceCtorEq, not_true_eq_false, not_false_eq_true, Bool.not_eq_true, List.not_mem_nil, false_implies, implies_true, Int.reduceNeg, Int.reduceToNat, Int.reducePow, Int.reduceMul, Int.reduceAdd, draw_i, ix_t0, ix_t1, ix_t2, ix_t3, ix_m3, ix_m4, sn_ball_box, sn_cell_box, sn_cell_ball, sn_ball_cell, sn_box_ball, sn_box_cell, decide_false, wDrw, wLc, wiSeq, wipeE]
    refine heap_great cs [] (by simp; omega) (fun c hc => by cases hc) hp fun cs2 hc2 hp2 => ?_
    refine ⟨cs2, s, rfl, rfl, by omega, hp2, s0, s1, fun p q' _ _ _ => q _ q' p setM_same⟩
theorem mxI_snoc : ∀ (ns : List Int) {n : Int}, 0 ≤ n → mxI (ns ++ [n]) = if n > mxI ns then n else mxI ns
  | [], n, h => by
    show (if mxI [] ≤ n then n else mxI []) = if n > mxI [] then n else mxI []
    have e : mxI [] = 0 := rfl
    rw [e]
    split <;> split <;> omega
  | m :: ns, n, h => by
    have ih := mxI_snoc ns h
    show (if mxI (ns ++ [n]) ≤ m then m else mxI (ns ++ [n])) = if n > (if mxI ns ≤ m then m else mxI ns) then n else (if mxI ns ≤ m then m else mxI ns)
    rw [ih]
    split <;> split <;> (try split) <;> omega
theorem sub_snoc {v u : List Int} {i : Nat} (h1 : i < v.length) (h2 : i < u.length) : subI (v.take (i + 1)) (u.take (i + 1)) = subI (v.take i) (u.take i) ++ [v.getD i 0 - u.getD i 0] := by
  unfold subI
  rw [List.take_succ, List.take_succ, List.zipWith_append (by rw [List.length_take, List.length_take]; omega), List.getElem?_eq_getElem h1, List.getElem?_eq_getElem h2, List.getD_eq_getElem?_getD, List.getD_eq_getElem?_getD, List.getElem?_eq_getElem h1, List.getElem?_eq_getElem h2]
  rfl
theorem ix_seqd {M : Mp} {d : D} {v : List Int} {i : Nat} {Q : KD} (h : seqD M d = some (v.map .int)) (hi : i < v.length) (q : Q (.int (v.getD i 0)) M) : ixD d (.int (i : Int)) M Q := by
  have e := atI_nat hi
  cases d <;> first | exact ⟨_, _, h, e, q⟩ | cases h
theorem get_sm {v : List Int} (hv : sm v) {i : Nat} (hi : i < v.length) : -1000000 ≤ v.getD i 0 ∧ v.getD i 0 ≤ 1000000 := by
  rw [List.getD_eq_getElem?_getD, List.getElem?_eq_getElem hi]
  exact hv.2 _ (List.getElem_mem hi)
theorem wp__law_distance : ∀ ds M Q R, F__law_distance ds M Q R → W__law_distance { nx := fun _ M' => Q .non M', rt := Q, xr := R } (startE 6 ds) M := by
  rintro ds M Q R ⟨k, d, e, v, u, rfl, hd, he, hl, hv, hu, q⟩
  unfold W__law_distance
  refine seq_gen fun K hK => ?_
  simp (disch := first | assumption | decide) only [wSeq, wNext, wAsg, wgName, wIfS, wB, wOp, wVar, wC, wCall, wCallK, wCons, wNil, wRet, wRetN, wDrop, wTup, wLst, wIf, wAnd, wOr, wNot, wAndV, wOrV, wNotV, wNeg, wChain, fI, fI0, addD, fLt, fLe, fGt, fGe, fIsB, wCB, fAbs, f2I, fInt, fIsq, wPar, wPar3, permD, startE, List.map_cons, List.map_nil, List.cons_append, List.nil_append, List.append_nil, List.length_cons, List.length_nil, List.replicate, List.getElem?_cons_zero, List.getElem?_cons_succ, List.set_cons_zero, List.set_cons_succ, List.getD_cons_zero, List.getD_cons_succ, Nat.reduceAdd, Nat.reduceSub, Nat.zero_add, true_and, and_true, Bool.not_true, Bool.not_false, if_true, if_false, Bool.false_eq_true, reduceIte, decide_eq_true_eq, Bool.not_eq_true', decide_eq_false_iff_not, eqV_int, eqV_str, eqV_bl, decide_true, reduceCtorEq, not_true_eq_false, not_false_eq_true, Bool.not_eq_true, List.not_mem_nil, false_implies, implies_true, Int.reduceNeg, Int.reduceToNat, Int.reducePow, Int.reduceMul, Int.reduceAdd, draw_i, ix_t0, ix_t1, ix_t2, ix_t3, ix_m3, ix_m4, sn_ball_box, sn_cell_box, sn_cell_ball, sn_ball_cell, sn_box_ball, sn_box_cell, decide_false]
  subst hK
  refine seq_gen fun K hK => ?_
  refine for_gen fun B hB => ?_
  simp (disch := first | assumption | decide) only [wSeq, wNext, wAsg, wgName, wIfS, wB, wOp, wVar, wC, wCall, wCallK, wCons, wNil, wRet, wRetN, wDrop, wTup, wLst, wIf, wAnd, wOr, wNot, wAndV, wOrV, wNotV, wNeg, wChain, fI, fI0, addD, fLt, fLe, fGt, fGe, fIsB, wCB, fAbs, f2I, fInt, fIsq, wPar, wPar3, permD, startE, List.map_cons, List.map_nil, List.cons_append, List.nil_append, List.append_nil, List.length_cons, List.length_nil, List.replicate, List.getElem?_cons_zero, List.getElem?_cons_succ, List.set_cons_zero, List.set_cons_succ, List.getD_cons_zero, List.getD_cons_succ, Nat.reduceAdd, Nat.reduceSub, Nat.zero_add, true_and, and_true, Bool.not_true, Bool.not_false, if_true, if_false, Bool.false_eq_true, reduceIte, decide_eq_true_eq, Bool.not_eq_true', decide_eq_false_iff_not, eqV_int, eqV_str, eqV_bl, decide_true, reduceCtorEq, not_true_eq_false, not_false_eq_true, Bool.not_eq_true, List.not_mem_nil, false_implies, implies_true, Int.reduceNeg, Int.reduceToNat, Int.reducePow, Int.reduceMul, Int.reduceAdd, draw_i, ix_t0, ix_t1, ix_t2, ix_t3, ix_m3, ix_m4, sn_ball_box, sn_cell_box, sn_cell_ball, sn_ball_cell, sn_box_ball, sn_box_cell, decide_false, wFor, wiRange1]
  have fl : ∀ Q' : KD, Q' (.int (v.length : Int)) M → fLen [d] M Q' := fun Q' h => by
    have h' : Q' (.int (((v.map D.int).length : Nat) : Int)) M := by rw [List.length_map]; exact h
    cases d <;> first | exact ⟨_, hd, h'⟩ | cases hd
  refine fl _ ?_
  dsimp only
  have v64 := hv.1
  refine ⟨by omega, by omega, ?_⟩
  have ln : (v.length : Int).toNat = v.length := Int.toNat_natCast _
  rw [ln]
  refine loop_ix (fun i ρ' M' => M' = M ∧ ∃ (v4 v5 : Option D), ρ' = [some (.str k), some d, some e, some (.int (joinI k ((subI (v.take i) (u.take i)).map (partI k)))), v4, v5]) ?_ ?_ ⟨rfl, none, none, ?_⟩
  · rintro i dd ρ' M' hi ⟨rfl, v4, v5, rfl⟩
    obtain ⟨li, rfl⟩ := intsD_get hi
    refine ⟨True.intro, fun K' hK' => ?_⟩
    have b1 := get_sm hv li
    have b2 := get_sm hu (i := i) (by omega)
    obtain ⟨f, ef⟩ : ∃ f, f = joinI k ((subI (v.take i) (u.take i)).map (partI k)) := ⟨_, rfl⟩
    obtain ⟨c, ec⟩ : ∃ c, c = partI k (v.getD i 0 - u.getD i 0) := ⟨_, rfl⟩
    have pb := part_bound k (d := v.getD i 0 - u.getD i 0) (by omega) (by omega)
    have ej : joinI k ((subI (v.take (i + 1)) (u.take (i + 1))).map (partI k)) = if k = "most" then (if c > f then c else f) else f + c := by
      rw [sub_snoc li (by omega), List.map_append, List.map_cons, List.map_nil, ← ec, ef]
      unfold joinI
      split
      · exact mxI_snoc _ (by omega)
      · rw [List.sum_append]
        simp
    rw [← ef]
    rw [ej] at hK'
    rw [Int.zero_add]
    simp only [wgName, List.set_cons_succ, List.set_cons_zero]
    subst hB
    refine seq_gen fun K2 hK2 => ?_
    simp (disch := first | assumption | decide) only [wSeq, wNext, wAsg, wgName, wIfS, wB, wOp, wVar, wC, wCall, wCallK, wCons, wNil, wRet, wRetN, wDrop, wTup, wLst, wIf, wAnd, wOr, wNot, wAndV, wOrV, wNotV, wNeg, wChain, fI, fI0, addD, fLt, fLe, fGt, fGe, fIsB, wCB, fAbs, f2I, fInt, fIsq, wPar, wPar3, permD, startE, List.map_cons, List.map_nil, List.cons_append, List.nil_append, List.append_nil, List.length_cons, List.length_nil, List.replicate, List.getElem?_cons_zero, List.getElem?_cons_succ, List.set_cons_zero, List.set_cons_succ, List.getD_cons_zero, List.getD_cons_succ, Nat.reduceAdd, Nat.reduceSub, Nat.zero_add, true_and, and_true, Bool.not_true, Bool.not_false, if_true, if_false, Bool.false_eq_true, reduceIte, decide_eq_true_eq, Bool.not_eq_true', decide_eq_false_iff_not, eqV_int, eqV_str, eqV_bl, decide_true, reduceCtorEq, not_true_eq_false, not_false_eq_true, Bool.not_eq_true, List.not_mem_nil, false_implies, implies_true, Int.reduceNeg, Int.reduceToNat, Int.reducePow, Int.reduceMul, Int.reduceAdd, draw_i, ix_t0, ix_t1, ix_t2, ix_t3, ix_m3, ix_m4, sn_ball_box, sn_cell_box, sn_cell_ball, sn_ball_cell, sn_box_ball, sn_box_cell, decide_false]
    refine ix_seqd hd li ?_
    refine ix_seqd he (by omega) ?_
    refine ⟨k, _, _, rfl, by omega, by omega, by omega, by omega, ?_⟩
    rw [← ec]
    subst hK2
    simp (disch := first | assumption | decide) only [wSeq, wNext, wAsg, wgName, wIfS, wB, wOp, wVar, wC, wCall, wCallK, wCons, wNil, wRet, wRetN, wDrop, wTup, wLst, wIf, wAnd, wOr, wNot, wAndV, wOrV, wNotV, wNeg, wChain, fI, fI0, addD, fLt, fLe, fGt, fGe, fIsB, wCB, fAbs, f2I, fInt, fIsq, wPar, wPar3, permD, startE, List.map_cons, List.map_nil, List.cons_append, List.nil_append, List.append_nil, List.length_cons, List.length_nil, List.replicate, List.getElem?_cons_zero, List.getElem?_cons_succ, List.set_cons_zero, List.set_cons_succ, List.getD_cons_zero, List.getD_cons_succ, Nat.reduceAdd, Nat.reduceSub, Nat.zero_add, true_and, and_true, Bool.not_true, Bool.not_false, if_true, if_false, Bool.false_eq_true, reduceIte, decide_eq_true_eq, Bool.not_eq_true', decide_eq_false_iff_not, eqV_int, eqV_str, eqV_bl, decide_true, reduceCtorEq, not_true_eq_false, not_false_eq_true, Bool.not_eq_true, List.not_mem_nil, false_implies, implies_true, Int.reduceNeg, Int.reduceToNat, Int.reducePow, Int.reduceMul, Int.reduceAdd, draw_i, ix_t0, ix_t1, ix_t2, ix_t3, ix_m3, ix_m4, sn_ball_box, sn_cell_box, sn_cell_ball, sn_ball_cell, sn_box_ball, sn_box_cell, decide_false]
    split
    · rename_i h
      rw [if_pos h] at hK'
      split
      · rename_i h2
        rw [if_pos h2] at hK'
        exact hK' _ _ ⟨rfl, _, _, rfl⟩
      · rename_i h2
        rw [if_neg h2] at hK'
        exact hK' _ _ ⟨rfl, _, _, rfl⟩
    · rename_i h
      rw [if_neg h] at hK'
      exact hK' _ _ ⟨rfl, _, _, rfl⟩
  · rintro ρ' M' ⟨rfl, v4, v5, rfl⟩
    refine ⟨True.intro, ?_⟩
    show K _ _
    subst hK
    rw [intsD_len, List.take_length]
    have e1 : u.take v.length = u := by rw [hl, List.take_length]
    rw [e1]
    simp (disch := first | assumption | decide) only [wSeq, wNext, wAsg, wgName, wIfS, wB, wOp, wVar, wC, wCall, wCallK, wCons, wNil, wRet, wRetN, wDrop, wTup, wLst, wIf, wAnd, wOr, wNot, wAndV, wOrV, wNotV, wNeg, wChain, fI, fI0, addD, fLt, fLe, fGt, fGe, fIsB, wCB, fAbs, f2I, fInt, fIsq, wPar, wPar3, permD, startE, List.map_cons, List.map_nil, List.cons_append, List.nil_append, List.append_nil, List.length_cons, List.length_nil, List.replicate, List.getElem?_cons_zero, List.getElem?_cons_succ, List.set_cons_zero, List.set_cons_succ, List.getD_cons_zero, List.getD_cons_succ, Nat.reduceAdd, Nat.reduceSub, Nat.zero_add, true_and, and_true, Bool.not_true, Bool.not_false, if_true, if_false, Bool.false_eq_true, reduceIte, decide_eq_true_eq, Bool.not_eq_true', decide_eq_false_iff_not, eqV_int, eqV_str, eqV_bl, decide_true, reduceCtorEq, not_true_eq_false, not_false_eq_true, Bool.not_eq_true, List.not_mem_nil, false_implies, implies_true, Int.reduceNeg, Int.reduceToNat, Int.reducePow, Int.reduceMul, Int.reduceAdd, draw_i, ix_t0, ix_t1, ix_t2, ix_t3, ix_m3, ix_m4, sn_ball_box, sn_cell_box, sn_cell_ball, sn_ball_cell, sn_box_ball, sn_box_cell, decide_false]
    exact q
  · have e0 : joinI k ((subI (v.take 0) (u.take 0)).map (partI k)) = 0 := by
      unfold joinI
      split <;> rfl
    rw [e0]
theorem ints_of {R : Int → Prop} : ∀ {ys : List D}, (∀ y ∈ ys, ∃ b : Int, y = .int b ∧ R b) → ∃ ns : List Int, ys = ns.map .int ∧ ∀ b ∈ ns, R b
  | [], _ => ⟨[], rfl, fun b h => by cases h⟩
  | y :: ys, h => by
    obtain ⟨b, rfl, hb⟩ := h y List.mem_cons_self
    obtain ⟨ns, rfl, hn⟩ := ints_of (fun z hz => h z (List.mem_cons_of_mem _ hz))
    refine ⟨b :: ns, rfl, fun c hc => ?_⟩
    rcases List.mem_cons.mp hc with rfl | hc
    · exact hb
    · exact hn c hc
theorem repr_bl {M : Mp} {b : Bool} {Q : KD} : fRepr [.bl b] M Q ↔ Q (.str (shown (.bl b))) M :=
  ⟨fun h => h.2.2, fun q => ⟨⟨1, by decide, True.intro⟩, by simp [res, cost], q⟩⟩
theorem kinds_lc {we : WE} {ρ : En} {M : Mp} {Q : KD} {j : Nat} (f : Str → Int) (hs : ∀ (k : Str) (K : KD), K (.int (f k)) M → we (ρ.set j (some (.str k))) M K) (q : Q (.lst ([f "square", f "sum", f "most", f "unlike"].map .int)) M) : wLcL (wgName j) wYes we AnyM ρ [.str "square", .str "sum", .str "most", .str "unlike"] [] M Q := by
  refine lc_pure (fun d => match d with | .str k => .int (f k) | _ => .non) True.intro _ [] (by decide) (fun d hd K hK => ?_) q
  obtain ⟨k, rfl⟩ : ∃ k : Str, d = .str k := by
    simp only [List.mem_cons, List.not_mem_nil, or_false] at hd
    rcases hd with rfl | rfl | rfl | rfl <;> exact ⟨_, rfl⟩
  exact hs k K hK
theorem del_set {M : Mp} {p : Addr} {c : Cell} (h : M p = none) : delM (setM M p c) p = M := by
  funext b
  unfold delM setM
  split
  · rename_i e
    rw [e, h]
  · rfl
theorem set_set {M : Mp} {p : Addr} {c d : Cell} : setM (setM M p c) p d = setM M p d := by
  funext b
  unfold setM
  split <;> rfl
theorem dist_i {M : Mp} {k : Str} {v u : List Int} {Q : KD} {R} (hv : sm v) (hu : sm u) : F_distance [.str k, vec v, vec u] M Q R ↔ Q (.int (distI k v u)) M := by
  constructor
  · rintro ⟨k', v', u', h, _, _, q⟩
    unfold vec at h
    simp only [List.cons.injEq, D.str.injEq, D.tup.injEq, and_true] at h
    obtain ⟨rfl, h1, h2⟩ := h
    have inj : ∀ {x y : List Int}, x.map D.int = y.map D.int → x = y := fun {x y} e => by
      induction x generalizing y with
      | nil => cases y with
        | nil => rfl
        | cons _ _ => cases e
      | cons a x ih =>
        cases y with
        | nil => cases e
        | cons b y =>
          rw [List.map_cons, List.map_cons] at e
          obtain ⟨e1, e2⟩ := List.cons.inj e
          cases e1
          rw [ih e2]
    rw [inj h1, inj h2]
    exact q
  · exact fun q => ⟨k, v, u, rfl, hv, hu, q⟩
end K21
namespace K21
open PySem L2 L3
theorem root_i {M : Mp} {a b : Int} {Q : KD} {R} (na : nb a) (nb' : nb b) : F_root_of_both [.int a, .int b] M Q R ↔ Q (.int (rt (4 * a * b))) M := by
  constructor
  · rintro ⟨_, _, h, _, _, q⟩
    cases h
    exact q
  · exact fun q => ⟨a, b, rfl, na, nb', q⟩
theorem gap_i {M : Mp} {k : Str} {a b : Int} {Q : KD} {R} (na : nb a) (nb' : nb b) : F_gap_of [.str k, .int a, .int b] M Q R ↔ Q (.int (gapI (sq k) a b)) M := by
  constructor
  · rintro ⟨_, _, _, h, _, _, q⟩
    cases h
    exact q
  · exact fun q => ⟨k, a, b, rfl, na, nb', q⟩
theorem least_i {M : Mp} {k : Str} {a b : Int} {Q : KD} {R} (na : nb a) (nb' : nb b) : F_least_beyond [.str k, .int a, .int b] M Q R ↔ Q (.int (leastI (sq k) a b)) M := by
  constructor
  · rintro ⟨_, _, _, h, _, _, q⟩
    cases h
    exact q
  · exact fun q => ⟨k, a, b, rfl, na, nb', q⟩
theorem most_i {M : Mp} {k : Str} {a b : Int} {Q : KD} {R} (na : nb a) (nb' : nb b) : F_most_beyond [.str k, .int a, .int b] M Q R ↔ Q (.int (mostI (sq k) a b)) M := by
  constructor
  · rintro ⟨_, _, _, h, _, _, q⟩
    cases h
    exact q
  · exact fun q => ⟨k, a, b, rfl, na, nb', q⟩
theorem wp_root_of_both : ∀ ds M Q R, F_root_of_both ds M Q R → W_root_of_both { nx := fun _ M' => Q .non M', rt := Q, xr := R } (startE 2 ds) M := by
  rintro ds M Q R ⟨a, b, rfl, na, nb', q⟩
  unfold W_root_of_both
  have h1 : 4 * a * b < 2 ^ 13000 := by
    have : 4 * a * b ≤ (4 * 2 ^ 50) * 2 ^ 50 := Int.mul_le_mul (by have := na.2; omega) (by have := nb'.2; omega) nb'.1 (by decide)
    exact Int.lt_of_le_of_lt this (by decide +kernel)
  exact ⟨.inl (.inl ⟨by decide, by decide⟩), .inl (.inr ⟨by have := nb'.1; omega, by have := nb'.2; omega⟩), p4 na.1 nb'.1, h1, q⟩
theorem wp_gap_of : ∀ ds M Q R, F_gap_of ds M Q R → W_gap_of { nx := fun _ M' => Q .non M', rt := Q, xr := R } (startE 3 ds) M := by
  rintro ds M Q R ⟨k, a, b, rfl, na, nb', q⟩
  unfold W_gap_of
  simp (disch := first | assumption | decide) only [wSeq, wNext, wAsg, wgName, wIfS, wB, wOp, wVar, wC, wCall, wCallK, wCons, wNil, wRet, wRetN, wDrop, wTup, wLst, wIf, wAnd, wOr, wNot, wAndV, wOrV, wNotV, wNeg, wChain, fI, fI0, addD, fLt, fLe, fGt, fGe, fIsB, wCB, fAbs, f2I, fInt, fIsq, wPar, wPar3, permD, startE, List.map_cons, List.map_nil, List.cons_append, List.nil_append, List.append_nil, List.length_cons, List.length_nil, List.replicate, List.getElem?_cons_zero, List.getElem?_cons_succ, List.set_cons_zero, List.set_cons_succ, List.getD_cons_zero, List.getD_cons_succ, Nat.reduceAdd, Nat.reduceSub, Nat.zero_add, true_and, and_true, Bool.not_true, Bool.not_false, if_true, if_false, Bool.false_eq_true, reduceIte, decide_eq_true_eq, Bool.not_eq_true', decide_eq_false_iff_not, eqV_int, eqV_str, eqV_bl, decide_true, reduceCtorEq, not_true_eq_false, not_false_eq_true, Bool.not_eq_true, List.not_mem_nil, false_implies, implies_true, Int.reduceNeg, Int.reduceToNat, Int.reducePow, Int.reduceMul, Int.reduceAdd, draw_i, ix_t0, ix_t1, ix_t2, ix_t3, ix_m3, ix_m4, sn_ball_box, sn_cell_box, sn_cell_ball, sn_ball_cell, sn_box_ball, sn_box_cell, decide_false, root_i]
  unfold gapI sq at q
  simp only [decide_eq_true_eq] at q
  split <;> simp_all
theorem wp_least_beyond : ∀ ds M Q R, F_least_beyond ds M Q R → W_least_beyond { nx := fun _ M' => Q .non M', rt := Q, xr := R } (startE 3 ds) M := by
  rintro ds M Q R ⟨k, a, b, rfl, na, nb', q⟩
  unfold W_least_beyond
  simp (disch := first | assumption | decide) only [wSeq, wNext, wAsg, wgName, wIfS, wB, wOp, wVar, wC, wCall, wCallK, wCons, wNil, wRet, wRetN, wDrop, wTup, wLst, wIf, wAnd, wOr, wNot, wAndV, wOrV, wNotV, wNeg, wChain, fI, fI0, addD, fLt, fLe, fGt, fGe, fIsB, wCB, fAbs, f2I, fInt, fIsq, wPar, wPar3, permD, startE, List.map_cons, List.map_nil, List.cons_append, List.nil_append, List.append_nil, List.length_cons, List.length_nil, List.replicate, List.getElem?_cons_zero, List.getElem?_cons_succ, List.set_cons_zero, List.set_cons_succ, List.getD_cons_zero, List.getD_cons_succ, Nat.reduceAdd, Nat.reduceSub, Nat.zero_add, true_and, and_true, Bool.not_true, Bool.not_false, if_true, if_false, Bool.false_eq_true, reduceIte, decide_eq_true_eq, Bool.not_eq_true', decide_eq_false_iff_not, eqV_int, eqV_str, eqV_bl, decide_true, reduceCtorEq, not_true_eq_false, not_false_eq_true, Bool.not_eq_true, List.not_mem_nil, false_implies, implies_true, Int.reduceNeg, Int.reduceToNat, Int.reducePow, Int.reduceMul, Int.reduceAdd, draw_i, ix_t0, ix_t1, ix_t2, ix_t3, ix_m3, ix_m4, sn_ball_box, sn_cell_box, sn_cell_ball, sn_ball_cell, sn_box_ball, sn_box_cell, decide_false, gap_i]
  unfold leastI at q
  split <;> simp_all
theorem wp_most_beyond : ∀ ds M Q R, F_most_beyond ds M Q R → W_most_beyond { nx := fun _ M' => Q .non M', rt := Q, xr := R } (startE 3 ds) M := by
  rintro ds M Q R ⟨k, a, b, rfl, na, nb', q⟩
  unfold W_most_beyond
  simp (disch := first | assumption | decide) only [wSeq, wNext, wAsg, wgName, wIfS, wB, wOp, wVar, wC, wCall, wCallK, wCons, wNil, wRet, wRetN, wDrop, wTup, wLst, wIf, wAnd, wOr, wNot, wAndV, wOrV, wNotV, wNeg, wChain, fI, fI0, addD, fLt, fLe, fGt, fGe, fIsB, wCB, fAbs, f2I, fInt, fIsq, wPar, wPar3, permD, startE, List.map_cons, List.map_nil, List.cons_append, List.nil_append, List.append_nil, List.length_cons, List.length_nil, List.replicate, List.getElem?_cons_zero, List.getElem?_cons_succ, List.set_cons_zero, List.set_cons_succ, List.getD_cons_zero, List.getD_cons_succ, Nat.reduceAdd, Nat.reduceSub, Nat.zero_add, true_and, and_true, Bool.not_true, Bool.not_false, if_true, if_false, Bool.false_eq_true, reduceIte, decide_eq_true_eq, Bool.not_eq_true', decide_eq_false_iff_not, eqV_int, eqV_str, eqV_bl, decide_true, reduceCtorEq, not_true_eq_false, not_false_eq_true, Bool.not_eq_true, List.not_mem_nil, false_implies, implies_true, Int.reduceNeg, Int.reduceToNat, Int.reducePow, Int.reduceMul, Int.reduceAdd, draw_i, ix_t0, ix_t1, ix_t2, ix_t3, ix_m3, ix_m4, sn_ball_box, sn_cell_box, sn_cell_ball, sn_ball_cell, sn_box_ball, sn_box_cell, decide_false, root_i]
  unfold mostI sq at q
  simp only [decide_eq_true_eq] at q
  split <;> simp_all
end K21
namespace K21
open PySem L2 L3
theorem wp_nearest_difference : ∀ ds M Q R, F_nearest_difference ds M Q R → W_nearest_difference { nx := fun _ M' => Q .non M', rt := Q, xr := R } (startE 3 ds) M := by
  rintro ds M Q R ⟨a, b, c, rfl, q⟩
  unfold W_nearest_difference
  simp (disch := first | assumption | decide) only [wSeq, wNext, wAsg, wgName, wIfS, wB, wOp, wVar, wC, wCall, wCallK, wCons, wNil, wRet, wRetN, wDrop, wTup, wLst, wIf, wAnd, wOr, wNot, wAndV, wOrV, wNotV, wNeg, wChain, fI, fI0, addD, fLt, fLe, fGt, fGe, fIsB, wCB, fAbs, f2I, fInt, fIsq, wPar, wPar3, permD, startE, List.map_cons, List.map_nil, List.cons_append, List.nil_append, List.append_nil, List.length_cons, List.length_nil, List.replicate, List.getElem?_cons_zero, List.getElem?_cons_succ, List.set_cons_zero, List.set_cons_succ, List.getD_cons_zero, List.getD_cons_succ, Nat.reduceAdd, Nat.reduceSub, Nat.zero_add, true_and, and_true, Bool.not_true, Bool.not_false, if_true, if_false, Bool.false_eq_true, reduceIte, decide_eq_true_eq, Bool.not_eq_true', decide_eq_false_iff_not, eqV_int, eqV_str, eqV_bl, decide_true, reduceCtorEq, not_true_eq_false, not_false_eq_true, Bool.not_eq_true, List.not_mem_nil, false_implies, implies_true, Int.reduceNeg, Int.reduceToNat, Int.reducePow, Int.reduceMul, Int.reduceAdd, draw_i, ix_t0, ix_t1, ix_t2, ix_t3, ix_m3, ix_m4, sn_ball_box, sn_cell_box, sn_cell_ball, sn_ball_cell, sn_box_ball, sn_box_cell, decide_false, f3I]
  exact q
theorem wp_farthest_difference : ∀ ds M Q R, F_farthest_difference ds M Q R → W_farthest_difference { nx := fun _ M' => Q .non M', rt := Q, xr := R } (startE 3 ds) M := by
  rintro ds M Q R ⟨a, b, c, rfl, q⟩
  unfold W_farthest_difference
  simp (disch := first | assumption | decide) only [wSeq, wNext, wAsg, wgName, wIfS, wB, wOp, wVar, wC, wCall, wCallK, wCons, wNil, wRet, wRetN, wDrop, wTup, wLst, wIf, wAnd, wOr, wNot, wAndV, wOrV, wNotV, wNeg, wChain, fI, fI0, addD, fLt, fLe, fGt, fGe, fIsB, wCB, fAbs, f2I, fInt, fIsq, wPar, wPar3, permD, startE, List.map_cons, List.map_nil, List.cons_append, List.nil_append, List.append_nil, List.length_cons, List.length_nil, List.replicate, List.getElem?_cons_zero, List.getElem?_cons_succ, List.set_cons_zero, List.set_cons_succ, List.getD_cons_zero, List.getD_cons_succ, Nat.reduceAdd, Nat.reduceSub, Nat.zero_add, true_and, and_true, Bool.not_true, Bool.not_false, if_true, if_false, Bool.false_eq_true, reduceIte, decide_eq_true_eq, Bool.not_eq_true', decide_eq_false_iff_not, eqV_int, eqV_str, eqV_bl, decide_true, reduceCtorEq, not_true_eq_false, not_false_eq_true, Bool.not_eq_true, List.not_mem_nil, false_implies, implies_true, Int.reduceNeg, Int.reduceToNat, Int.reducePow, Int.reduceMul, Int.reduceAdd, draw_i, ix_t0, ix_t1, ix_t2, ix_t3, ix_m3, ix_m4, sn_ball_box, sn_cell_box, sn_cell_ball, sn_ball_cell, sn_box_ball, sn_box_cell, decide_false]
  exact q
theorem near_i {M : Mp} {a b c : Int} {Q : KD} {R} : F_nearest_difference [.int a, .int b, .int c] M Q R ↔ Q (.int (mx3 (a - c) (c - b) 0)) M := by
  constructor
  · rintro ⟨_, _, _, h, q⟩
    cases h
    exact q
  · exact fun q => ⟨a, b, c, rfl, q⟩
theorem far_i {M : Mp} {a b c : Int} {Q : KD} {R} : F_farthest_difference [.int a, .int b, .int c] M Q R ↔ Q (.int (mx2 (c - a) (b - c))) M := by
  constructor
  · rintro ⟨_, _, _, h, q⟩
    cases h
    exact q
  · exact fun q => ⟨a, b, c, rfl, q⟩
theorem vk_sm {p : Nat} {B : Int} {v : List Int} (hp : p ≤ 8) (hB : B ≤ 1000000) (h : vk p B v) : sm v := ⟨by rw [h.1]; omega, fun a ha => by have := h.2 a ha; omega⟩
/-- distances are not great -/
theorem dist_nc {k : Str} {p : Nat} {v u : List Int} (hp : p ≤ 8) (hv : vk p 60000 v) (hu : vk p 60000 u) : nc (distI k v u) := by
  refine ⟨dist_nn k v u, ?_⟩
  have pb : ∀ n ∈ (subI v u).map (partI k), 0 ≤ n ∧ n ≤ 14400000000 := fun n hn => by
    obtain ⟨c, hc, rfl⟩ := List.mem_map.mp hn
    obtain ⟨a, ha, b, hb, rfl⟩ := mem_zw hc
    have h1 := hv.2 a ha
    have h2 := hu.2 b hb
    refine ⟨part_nn k _, ?_⟩
    have q := part_ge k (a := 120000) (b := a - b) (by omega) (by omega)
    have z : partI k 120000 ≤ 14400000000 := by
      unfold partI
      split
      · decide
      · split
        · decide
        · decide
    omega
  have l8 : ((subI v u).map (partI k)).length ≤ 8 := by
    rw [List.length_map]
    unfold subI
    rw [List.length_zipWith, hv.1, hu.1]
    omega
  have sb := sum_bound (B := 14400000000) (by decide) pb
  show (if k = "most" then mxI ((subI v u).map (partI k)) else ((subI v u).map (partI k)).sum) < 2 ^ 39
  split
  · by_cases e : (subI v u).map (partI k) = []
    · rw [e]
      decide
    · have := (pb _ (mxI_mem (fun n hn => (pb n hn).1) e)).2
      omega
  · omega
theorem nc_nb {a : Int} (h : nc a) : nb a := ⟨h.1, by have := h.2; omega⟩
theorem zip3_lc {we : WE} {ρ : En} {M : Mp} {Q : KD} {i j l : Nat} {xs ys zs : List Int} (f : Int → Int → Int → Int) (hn : min (min xs.length ys.length) zs.length ≤ 64) (hs : ∀ (a b c : Int) (K : KD), K (.int (f a b c)) M → we (((ρ.set i (some (.int a))).set j (some (.int b))).set l (some (.int c))) M K)
    (q : Q (.lst (((List.range (min (min xs.length ys.length) zs.length)).map fun n => f (xs.getD n 0) (ys.getD n 0) (zs.getD n 0)).map .int)) M) :
    wLcL (wgTup 3 (wgCons (wgName i) (wgCons (wgName j) (wgCons (wgName l) wgNil)))) wYes we AnyM ρ (zip3D (xs.map .int) (ys.map .int) (zs.map .int)) [] M Q := by
  refine lc_pure (fun d => match d with | .tup [.int a, .int b, .int c] => .int (f a b c) | _ => .non) True.intro _ [] ?_ (fun d hd K hK => ?_) ?_
  · unfold zip3D
    simp only [List.length_map, List.length_range, List.length_nil]
    omega
  · unfold zip3D at hd
    obtain ⟨n, hn, rfl⟩ := List.mem_map.mp hd
    simp only [List.length_map, List.mem_range] at hn
    have e : ∀ (us : List Int), n < us.length → (us.map D.int).getD n .non = .int (us.getD n 0) := fun us h => by
      rw [List.getD_eq_getElem?_getD, List.getElem?_map, List.getD_eq_getElem?_getD, List.getElem?_eq_getElem h]
      rfl
    rw [e xs (by omega), e ys (by omega), e zs (by omega)] at hK ⊢
    exact ⟨rfl, rfl, hs _ _ _ K hK⟩
  · rw [List.nil_append]
    have e : (zip3D (xs.map .int) (ys.map .int) (zs.map .int)).map (fun d => match d with | .tup [.int a, .int b, .int c] => D.int (f a b c) | _ => .non) = ((List.range (min (min xs.length ys.length) zs.length)).map fun n => f (xs.getD n 0) (ys.getD n 0) (zs.getD n 0)).map D.int := by
      unfold zip3D
      simp only [List.length_map, List.map_map]
      refine List.map_congr_left fun n hn => ?_
      have hn := List.mem_range.mp hn
      have e : ∀ (us : List Int), n < us.length → (us.map D.int).getD n .non = .int (us.getD n 0) := fun us h => by
        rw [List.getD_eq_getElem?_getD, List.getElem?_map, List.getD_eq_getElem?_getD, List.getElem?_eq_getElem h]
        rfl
      show (match D.tup [(xs.map D.int).getD n .non, (ys.map D.int).getD n .non, (zs.map D.int).getD n .non] with | .tup [.int a, .int b, .int c] => D.int (f a b c) | _ => .non) = _
      rw [e xs (by omega), e ys (by omega), e zs (by omega)]
      rfl
    rw [e]
    exact q
theorem all_bls {M : Mp} {bs : List Bool} {Q : KD} (g : List Bool → Bool) (q : Q (.bl (g bs)) M) : fBls g [.lst (bs.map .bl)] M Q := ⟨bs, ⟨0, .inr rfl⟩, rfl, q⟩
theorem zip3b_lc {we : WE} {ρ : En} {M : Mp} {Q : KD} {i j l : Nat} {xs ys zs : List Int} (f : Int → Int → Int → Bool) (hn : min (min xs.length ys.length) zs.length ≤ 64) (hs : ∀ (a b c : Int) (K : KD), K (.bl (f a b c)) M → we (((ρ.set i (some (.int a))).set j (some (.int b))).set l (some (.int c))) M K)
    (q : Q (.lst (((List.range (min (min xs.length ys.length) zs.length)).map fun n => f (xs.getD n 0) (ys.getD n 0) (zs.getD n 0)).map .bl)) M) :
    wLcL (wgTup 3 (wgCons (wgName i) (wgCons (wgName j) (wgCons (wgName l) wgNil)))) wYes we AnyM ρ (zip3D (xs.map .int) (ys.map .int) (zs.map .int)) [] M Q := by
  refine lc_pure (fun d => match d with | .tup [.int a, .int b, .int c] => .bl (f a b c) | _ => .non) True.intro _ [] ?_ (fun d hd K hK => ?_) ?_
  · unfold zip3D
    simp only [List.length_map, List.length_range, List.length_nil]
    omega
  · unfold zip3D at hd
    obtain ⟨n, hn, rfl⟩ := List.mem_map.mp hd
    simp only [List.length_map, List.mem_range] at hn
    have e : ∀ (us : List Int), n < us.length → (us.map D.int).getD n .non = .int (us.getD n 0) := fun us h => by
      rw [List.getD_eq_getElem?_getD, List.getElem?_map, List.getD_eq_getElem?_getD, List.getElem?_eq_getElem h]
      rfl
    rw [e xs (by omega), e ys (by omega), e zs (by omega)] at hK ⊢
    exact ⟨rfl, rfl, hs _ _ _ K hK⟩
  · rw [List.nil_append]
    have e : (zip3D (xs.map .int) (ys.map .int) (zs.map .int)).map (fun d => match d with | .tup [.int a, .int b, .int c] => D.bl (f a b c) | _ => .non) = ((List.range (min (min xs.length ys.length) zs.length)).map fun n => f (xs.getD n 0) (ys.getD n 0) (zs.getD n 0)).map D.bl := by
      unfold zip3D
      simp only [List.length_map, List.map_map]
      refine List.map_congr_left fun n hn => ?_
      have hn := List.mem_range.mp hn
      have e : ∀ (us : List Int), n < us.length → (us.map D.int).getD n .non = .int (us.getD n 0) := fun us h => by
        rw [List.getD_eq_getElem?_getD, List.getElem?_map, List.getD_eq_getElem?_getD, List.getElem?_eq_getElem h]
        rfl
      show (match D.tup [(xs.map D.int).getD n .non, (ys.map D.int).getD n .non, (zs.map D.int).getD n .non] with | .tup [.int a, .int b, .int c] => D.bl (f a b c) | _ => .non) = _
      rw [e xs (by omega), e ys (by omega), e zs (by omega)]
      rfl
    rw [e]
    exact q
theorem all_range {n : Nat} {f : Nat → Bool} : (((List.range n).map f).all id) = (List.range n).all f := by
  rw [List.all_map]
  rfl
theorem chain_le {a b c : Int} {M : Mp} {K : KD} (q : K (.bl (decide (a ≤ b ∧ b ≤ c))) M) : fLe (.int a) (.int b) M fun z M3 => match z with
  | .bl true => fLe (.int b) (.int c) M3 K
  | .bl false => K (.bl false) M3
  | _ => False := by
  show (match D.bl (decide (a ≤ b)) with
  | .bl true => fLe (.int b) (.int c) M K
  | .bl false => K (.bl false) M
  | _ => False)
  by_cases h : a ≤ b
  · rw [decide_eq_true h]
    show K (.bl (decide (b ≤ c))) M
    have e : decide (a ≤ b ∧ b ≤ c) = decide (b ≤ c) := decide_eq_decide.mpr ⟨fun z => z.2, fun z => ⟨h, z⟩⟩
    rw [← e]
    exact q
  · rw [decide_eq_false h]
    show K (.bl false) M
    have e : decide (a ≤ b ∧ b ≤ c) = false := decide_eq_false fun z => h z.1
    rw [← e]
    exact q
theorem wp_holds_vector : ∀ ds M Q R, F_holds_vector ds M Q R → W_holds_vector { nx := fun _ M' => Q .non M', rt := Q, xr := R } (startE 7 ds) M := by
  rintro ds M Q R ⟨k, r, v, p, rfl, hp, ok, hv, q⟩
  have sv := vk_sm hp (by decide) hv
  unfold W_holds_vector
  cases r with
  | box l h =>
    unfold Rg.d
    refine seq_gen fun K hK => ?_
    simp (disch := first | assumption | decide) only [wSeq, wNext, wAsg, wgName, wIfS, wB, wOp, wVar, wC, wCall, wCallK, wCons, wNil, wRet, wRetN, wDrop, wTup, wLst, wIf, wAnd, wOr, wNot, wAndV, wOrV, wNotV, wNeg, wChain, fI, fI0, addD, fLt, fLe, fGt, fGe, fIsB, wCB, fAbs, f2I, fInt, fIsq, wPar, wPar3, permD, startE, List.map_cons, List.map_nil, List.cons_append, List.nil_append, List.append_nil, List.length_cons, List.length_nil, List.replicate, List.getElem?_cons_zero, List.getElem?_cons_succ, List.set_cons_zero, List.set_cons_succ, List.getD_cons_zero, List.getD_cons_succ, Nat.reduceAdd, Nat.reduceSub, Nat.zero_add, true_and, and_true, Bool.not_true, Bool.not_false, if_true, if_false, Bool.false_eq_true, reduceIte, decide_eq_true_eq, Bool.not_eq_true', decide_eq_false_iff_not, eqV_int, eqV_str, eqV_bl, decide_true, reduceCtorEq, not_true_eq_false, not_false_eq_true, Bool.not_eq_true, List.not_mem_nil, false_implies, implies_true, Int.reduceNeg, Int.reduceToNat, Int.reducePow, Int.reduceMul, Int.reduceAdd, draw_i, ix_t0, ix_t1, ix_t2, ix_t3, ix_m3, ix_m4, sn_ball_box, sn_cell_box, sn_cell_ball, sn_ball_cell, sn_box_ball, sn_box_cell, decide_false]
    simp (disch := first | assumption | decide) only [wSeq, wNext, wAsg, wgName, wIfS, wB, wOp, wVar, wC, wCall, wCallK, wCons, wNil, wRet, wRetN, wDrop, wTup, wLst, wIf, wAnd, wOr, wNot, wAndV, wOrV, wNotV, wNeg, wChain, fI, fI0, addD, fLt, fLe, fGt, fGe, fIsB, wCB, fAbs, f2I, fInt, fIsq, wPar, wPar3, permD, startE, List.map_cons, List.map_nil, List.cons_append, List.nil_append, List.append_nil, List.length_cons, List.length_nil, List.replicate, List.getElem?_cons_zero, List.getElem?_cons_succ, List.set_cons_zero, List.set_cons_succ, List.getD_cons_zero, List.getD_cons_succ, Nat.reduceAdd, Nat.reduceSub, Nat.zero_add, true_and, and_true, Bool.not_true, Bool.not_false, if_true, if_false, Bool.false_eq_true, reduceIte, decide_eq_true_eq, Bool.not_eq_true', decide_eq_false_iff_not, eqV_int, eqV_str, eqV_bl, decide_true, reduceCtorEq, not_true_eq_false, not_false_eq_true, Bool.not_eq_true, List.not_mem_nil, false_implies, implies_true, Int.reduceNeg, Int.reduceToNat, Int.reducePow, Int.reduceMul, Int.reduceAdd, draw_i, ix_t0, ix_t1, ix_t2, ix_t3, ix_m3, ix_m4, sn_ball_box, sn_cell_box, sn_cell_ball, sn_ball_cell, sn_box_ball, sn_box_cell, decide_false, wLc, wiZip3, wipeE, vec]
    refine zip3b_lc (fun a b c => decide (a ≤ b ∧ b ≤ c)) ?_ (fun a b c K hK => ?_) ?_
    · rw [ok.1.1]
      omega
    · simp (disch := first | assumption | decide) only [wSeq, wNext, wAsg, wgName, wIfS, wB, wOp, wVar, wC, wCall, wCallK, wCons, wNil, wRet, wRetN, wDrop, wTup, wLst, wIf, wAnd, wOr, wNot, wAndV, wOrV, wNotV, wNeg, wChain, fI, fI0, addD, fLt, fLe, fGt, fGe, fIsB, wCB, fAbs, f2I, fInt, fIsq, wPar, wPar3, permD, startE, List.map_cons, List.map_nil, List.cons_append, List.nil_append, List.append_nil, List.length_cons, List.length_nil, List.replicate, List.getElem?_cons_zero, List.getElem?_cons_succ, List.set_cons_zero, List.set_cons_succ, List.getD_cons_zero, List.getD_cons_succ, Nat.reduceAdd, Nat.reduceSub, Nat.zero_add, true_and, and_true, Bool.not_true, Bool.not_false, if_true, if_false, Bool.false_eq_true, reduceIte, decide_eq_true_eq, Bool.not_eq_true', decide_eq_false_iff_not, eqV_int, eqV_str, eqV_bl, decide_true, reduceCtorEq, not_true_eq_false, not_false_eq_true, Bool.not_eq_true, List.not_mem_nil, false_implies, implies_true, Int.reduceNeg, Int.reduceToNat, Int.reducePow, Int.reduceMul, Int.reduceAdd, draw_i, ix_t0, ix_t1, ix_t2, ix_t3, ix_m3, ix_m4, sn_ball_box, sn_cell_box, sn_cell_ball, sn_ball_cell, sn_box_ball, sn_box_cell, decide_false]
      exact chain_le hK
    · refine all_bls _ ?_
      rw [all_range]
      exact q
  | ball c r =>
    have sc := vk_sm hp (by decide) ok.1
    unfold Rg.d
    refine seq_gen fun K hK => ?_
    simp (disch := first | assumption | decide) only [wSeq, wNext, wAsg, wgName, wIfS, wB, wOp, wVar, wC, wCall, wCallK, wCons, wNil, wRet, wRetN, wDrop, wTup, wLst, wIf, wAnd, wOr, wNot, wAndV, wOrV, wNotV, wNeg, wChain, fI, fI0, addD, fLt, fLe, fGt, fGe, fIsB, wCB, fAbs, f2I, fInt, fIsq, wPar, wPar3, permD, startE, List.map_cons, List.map_nil, List.cons_append, List.nil_append, List.append_nil, List.length_cons, List.length_nil, List.replicate, List.getElem?_cons_zero, List.getElem?_cons_succ, List.set_cons_zero, List.set_cons_succ, List.getD_cons_zero, List.getD_cons_succ, Nat.reduceAdd, Nat.reduceSub, Nat.zero_add, true_and, and_true, Bool.not_true, Bool.not_false, if_true, if_false, Bool.false_eq_true, reduceIte, decide_eq_true_eq, Bool.not_eq_true', decide_eq_false_iff_not, eqV_int, eqV_str, eqV_bl, decide_true, reduceCtorEq, not_true_eq_false, not_false_eq_true, Bool.not_eq_true, List.not_mem_nil, false_implies, implies_true, Int.reduceNeg, Int.reduceToNat, Int.reducePow, Int.reduceMul, Int.reduceAdd, draw_i, ix_t0, ix_t1, ix_t2, ix_t3, ix_m3, ix_m4, sn_ball_box, sn_cell_box, sn_cell_ball, sn_ball_cell, sn_box_ball, sn_box_cell, decide_false]
    subst hK
    refine seq_gen fun K hK => ?_
    simp (disch := first | assumption | decide) only [wSeq, wNext, wAsg, wgName, wIfS, wB, wOp, wVar, wC, wCall, wCallK, wCons, wNil, wRet, wRetN, wDrop, wTup, wLst, wIf, wAnd, wOr, wNot, wAndV, wOrV, wNotV, wNeg, wChain, fI, fI0, addD, fLt, fLe, fGt, fGe, fIsB, wCB, fAbs, f2I, fInt, fIsq, wPar, wPar3, permD, startE, List.map_cons, List.map_nil, List.cons_append, List.nil_append, List.append_nil, List.length_cons, List.length_nil, List.replicate, List.getElem?_cons_zero, List.getElem?_cons_succ, List.set_cons_zero, List.set_cons_succ, List.getD_cons_zero, List.getD_cons_succ, Nat.reduceAdd, Nat.reduceSub, Nat.zero_add, true_and, and_true, Bool.not_true, Bool.not_false, if_true, if_false, Bool.false_eq_true, reduceIte, decide_eq_true_eq, Bool.not_eq_true', decide_eq_false_iff_not, eqV_int, eqV_str, eqV_bl, decide_true, reduceCtorEq, not_true_eq_false, not_false_eq_true, Bool.not_eq_true, List.not_mem_nil, false_implies, implies_true, Int.reduceNeg, Int.reduceToNat, Int.reducePow, Int.reduceMul, Int.reduceAdd, draw_i, ix_t0, ix_t1, ix_t2, ix_t3, ix_m3, ix_m4, sn_ball_box, sn_cell_box, sn_cell_ball, sn_ball_cell, sn_box_ball, sn_box_cell, decide_false, dist_i]
    subst hK
    simp (disch := first | assumption | decide) only [wSeq, wNext, wAsg, wgName, wIfS, wB, wOp, wVar, wC, wCall, wCallK, wCons, wNil, wRet, wRetN, wDrop, wTup, wLst, wIf, wAnd, wOr, wNot, wAndV, wOrV, wNotV, wNeg, wChain, fI, fI0, addD, fLt, fLe, fGt, fGe, fIsB, wCB, fAbs, f2I, fInt, fIsq, wPar, wPar3, permD, startE, List.map_cons, List.map_nil, List.cons_append, List.nil_append, List.append_nil, List.length_cons, List.length_nil, List.replicate, List.getElem?_cons_zero, List.getElem?_cons_succ, List.set_cons_zero, List.set_cons_succ, List.getD_cons_zero, List.getD_cons_succ, Nat.reduceAdd, Nat.reduceSub, Nat.zero_add, true_and, and_true, Bool.not_true, Bool.not_false, if_true, if_false, Bool.false_eq_true, reduceIte, decide_eq_true_eq, Bool.not_eq_true', decide_eq_false_iff_not, eqV_int, eqV_str, eqV_bl, decide_true, reduceCtorEq, not_true_eq_false, not_false_eq_true, Bool.not_eq_true, List.not_mem_nil, false_implies, implies_true, Int.reduceNeg, Int.reduceToNat, Int.reducePow, Int.reduceMul, Int.reduceAdd, draw_i, ix_t0, ix_t1, ix_t2, ix_t3, ix_m3, ix_m4, sn_ball_box, sn_cell_box, sn_cell_ball, sn_ball_cell, sn_box_ball, sn_box_cell, decide_false]
    exact q
  | cell c a b =>
    have sc := vk_sm hp (by decide) ok.1
    unfold Rg.d
    refine seq_gen fun K hK => ?_
    simp (disch := first | assumption | decide) only [wSeq, wNext, wAsg, wgName, wIfS, wB, wOp, wVar, wC, wCall, wCallK, wCons, wNil, wRet, wRetN, wDrop, wTup, wLst, wIf, wAnd, wOr, wNot, wAndV, wOrV, wNotV, wNeg, wChain, fI, fI0, addD, fLt, fLe, fGt, fGe, fIsB, wCB, fAbs, f2I, fInt, fIsq, wPar, wPar3, permD, startE, List.map_cons, List.map_nil, List.cons_append, List.nil_append, List.append_nil, List.length_cons, List.length_nil, List.replicate, List.getElem?_cons_zero, List.getElem?_cons_succ, List.set_cons_zero, List.set_cons_succ, List.getD_cons_zero, List.getD_cons_succ, Nat.reduceAdd, Nat.reduceSub, Nat.zero_add, true_and, and_true, Bool.not_true, Bool.not_false, if_true, if_false, Bool.false_eq_true, reduceIte, decide_eq_true_eq, Bool.not_eq_true', decide_eq_false_iff_not, eqV_int, eqV_str, eqV_bl, decide_true, reduceCtorEq, not_true_eq_false, not_false_eq_true, Bool.not_eq_true, List.not_mem_nil, false_implies, implies_true, Int.reduceNeg, Int.reduceToNat, Int.reducePow, Int.reduceMul, Int.reduceAdd, draw_i, ix_t0, ix_t1, ix_t2, ix_t3, ix_m3, ix_m4, sn_ball_box, sn_cell_box, sn_cell_ball, sn_ball_cell, sn_box_ball, sn_box_cell, decide_false]
    subst hK
    refine seq_gen fun K hK => ?_
    simp (disch := first | assumption | decide) only [wSeq, wNext, wAsg, wgName, wIfS, wB, wOp, wVar, wC, wCall, wCallK, wCons, wNil, wRet, wRetN, wDrop, wTup, wLst, wIf, wAnd, wOr, wNot, wAndV, wOrV, wNotV, wNeg, wChain, fI, fI0, addD, fLt, fLe, fGt, fGe, fIsB, wCB, fAbs, f2I, fInt, fIsq, wPar, wPar3, permD, startE, List.map_cons, List.map_nil, List.cons_append, List.nil_append, List.append_nil, List.length_cons, List.length_nil, List.replicate, List.getElem?_cons_zero, List.getElem?_cons_succ, List.set_cons_zero, List.set_cons_succ, List.getD_cons_zero, List.getD_cons_succ, Nat.reduceAdd, Nat.reduceSub, Nat.zero_add, true_and, and_true, Bool.not_true, Bool.not_false, if_true, if_false, Bool.false_eq_true, reduceIte, decide_eq_true_eq, Bool.not_eq_true', decide_eq_false_iff_not, eqV_int, eqV_str, eqV_bl, decide_true, reduceCtorEq, not_true_eq_false, not_false_eq_true, Bool.not_eq_true, List.not_mem_nil, false_implies, implies_true, Int.reduceNeg, Int.reduceToNat, Int.reducePow, Int.reduceMul, Int.reduceAdd, draw_i, ix_t0, ix_t1, ix_t2, ix_t3, ix_m3, ix_m4, sn_ball_box, sn_cell_box, sn_cell_ball, sn_ball_cell, sn_box_ball, sn_box_cell, decide_false, dist_i]
    subst hK
    simp (disch := first | assumption | decide) only [wSeq, wNext, wAsg, wgName, wIfS, wB, wOp, wVar, wC, wCall, wCallK, wCons, wNil, wRet, wRetN, wDrop, wTup, wLst, wIf, wAnd, wOr, wNot, wAndV, wOrV, wNotV, wNeg, wChain, fI, fI0, addD, fLt, fLe, fGt, fGe, fIsB, wCB, fAbs, f2I, fInt, fIsq, wPar, wPar3, permD, startE, List.map_cons, List.map_nil, List.cons_append, List.nil_append, List.append_nil, List.length_cons, List.length_nil, List.replicate, List.getElem?_cons_zero, List.getElem?_cons_succ, List.set_cons_zero, List.set_cons_succ, List.getD_cons_zero, List.getD_cons_succ, Nat.reduceAdd, Nat.reduceSub, Nat.zero_add, true_and, and_true, Bool.not_true, Bool.not_false, if_true, if_false, Bool.false_eq_true, reduceIte, decide_eq_true_eq, Bool.not_eq_true', decide_eq_false_iff_not, eqV_int, eqV_str, eqV_bl, decide_true, reduceCtorEq, not_true_eq_false, not_false_eq_true, Bool.not_eq_true, List.not_mem_nil, false_implies, implies_true, Int.reduceNeg, Int.reduceToNat, Int.reducePow, Int.reduceMul, Int.reduceAdd, draw_i, ix_t0, ix_t1, ix_t2, ix_t3, ix_m3, ix_m4, sn_ball_box, sn_cell_box, sn_cell_ball, sn_ball_cell, sn_box_ball, sn_box_cell, decide_false]
    exact chain_le q
theorem vk_up {p : Nat} {B C : Int} {v : List Int} (h : vk p B v) (l : B ≤ C) : vk p C v := ⟨h.1, fun a ha => by have := h.2 a ha; omega⟩
theorem box_lc {M : Mp} {Q : KD} {k : Str} {ns : List Int} {v1 v2 v3 v4 v5 v6 v7 : Option D} (hl : ns.length ≤ 64) (hb : ∀ n ∈ ns, -10000000 ≤ n ∧ n ≤ 10000000) (q : Q (.lst ((ns.map (partI k)).map .int)) M) :
    wLcL (wgName 8) wYes (wCall F_part_of (wCons (wVar 0) (wCons (wVar 8) wNil))) AnyM [some (.str k), v1, v2, v3, v4, v5, v6, v7, none] (ns.map .int) [] M Q := by
  refine lc_pure (fun d => match d with | .int i => .int (partI k i) | _ => .non) True.intro _ [] ?_ (fun d hd K hK => ?_) ?_
  · rw [List.length_map]
    simp only [List.length_nil]
    omega
  · obtain ⟨c, hc, rfl⟩ := List.mem_map.mp hd
    have h1 := hb c hc
    simp (disch := first | assumption | decide) only [wSeq, wNext, wAsg, wgName, wIfS, wB, wOp, wVar, wC, wCall, wCallK, wCons, wNil, wRet, wRetN, wDrop, wTup, wLst, wIf, wAnd, wOr, wNot, wAndV, wOrV, wNotV, wNeg, wChain, fI, fI0, addD, fLt, fLe, fGt, fGe, fIsB, wCB, fAbs, f2I, fInt, fIsq, wPar, wPar3, permD, startE, List.map_cons, List.map_nil, List.cons_append, List.nil_append, List.append_nil, List.length_cons, List.length_nil, List.replicate, List.getElem?_cons_zero, List.getElem?_cons_succ, List.set_cons_zero, List.set_cons_succ, List.getD_cons_zero, List.getD_cons_succ, Nat.reduceAdd, Nat.reduceSub, Nat.zero_add, true_and, and_true, Bool.not_true, Bool.not_false, if_true, if_false, Bool.false_eq_true, reduceIte, decide_eq_true_eq, Bool.not_eq_true', decide_eq_false_iff_not, eqV_int, eqV_str, eqV_bl, decide_true, reduceCtorEq, not_true_eq_false, not_false_eq_true, Bool.not_eq_true, List.not_mem_nil, false_implies, implies_true, Int.reduceNeg, Int.reduceToNat, Int.reducePow, Int.reduceMul, Int.reduceAdd, draw_i, ix_t0, ix_t1, ix_t2, ix_t3, ix_m3, ix_m4, sn_ball_box, sn_cell_box, sn_cell_ball, sn_ball_cell, sn_box_ball, sn_box_cell, decide_false]
    exact ⟨k, c, rfl, by omega, by omega, hK⟩
  · rw [List.nil_append, List.map_map]
    rw [List.map_map] at q
    exact q
theorem get_vk {p : Nat} {B : Int} {v : List Int} (h : vk p B v) (hB : 0 ≤ B) (i : Nat) : -B ≤ v.getD i 0 ∧ v.getD i 0 ≤ B := by
  rw [List.getD_eq_getElem?_getD]
  cases e : v[i]? with
  | none => exact ⟨by show -B ≤ 0; omega, hB⟩
  | some x => exact h.2 x (List.mem_of_getElem? e)
theorem near_b {p : Nat} {l h v : List Int} (hl : vk p 60000 l) (hh : vk p 60000 h) (hv : vk p 60000 v) : ∀ n ∈ nearL l h v, 0 ≤ n ∧ n ≤ 120000 := fun n hn => by
  unfold nearL at hn
  obtain ⟨i, _, rfl⟩ := List.mem_map.mp hn
  have a1 := get_vk hl (by decide) i
  have a2 := get_vk hh (by decide) i
  have a3 := get_vk hv (by decide) i
  unfold mx3
  split <;> (try split) <;> omega
theorem far_b {p : Nat} {l h v : List Int} (hl : vk p 60000 l) (hh : vk p 60000 h) (hv : vk p 60000 v) : ∀ n ∈ farL l h v, -120000 ≤ n ∧ n ≤ 120000 := fun n hn => by
  unfold farL at hn
  obtain ⟨i, _, rfl⟩ := List.mem_map.mp hn
  have a1 := get_vk hl (by decide) i
  have a2 := get_vk hh (by decide) i
  have a3 := get_vk hv (by decide) i
  unfold mx2
  split <;> omega
theorem parts_small {k : Str} {ns : List Int} (hl : ns.length ≤ 64) (hb : ∀ n ∈ ns, -120000 ≤ n ∧ n ≤ 120000) : small (ns.map (partI k)) := by
  refine ⟨by rw [List.length_map]; exact hl, fun n hn => ?_⟩
  obtain ⟨d, hd, rfl⟩ := List.mem_map.mp hn
  have := hb d hd
  have := part_bound k (d := d) (by omega) (by omega)
  omega
theorem wp_floor_of : ∀ ds M Q R, F_floor_of ds M Q R → W_floor_of { nx := fun _ M' => Q .non M', rt := Q, xr := R } (startE 9 ds) M := by
  rintro ds M Q R ⟨k, r, v, p, rfl, hp, ok, hv, q⟩
  have sv := vk_sm hp (by decide) hv
  unfold W_floor_of
  cases r with
  | box l h =>
    have l60 := vk_up (C := 60000) ok.1 (by decide)
    have h60 := vk_up (C := 60000) ok.2.1 (by decide)
    unfold Rg.d
    refine seq_gen fun K hK => ?_
    simp (disch := first | assumption | decide) only [wSeq, wNext, wAsg, wgName, wIfS, wB, wOp, wVar, wC, wCall, wCallK, wCons, wNil, wRet, wRetN, wDrop, wTup, wLst, wIf, wAnd, wOr, wNot, wAndV, wOrV, wNotV, wNeg, wChain, fI, fI0, addD, fLt, fLe, fGt, fGe, fIsB, wCB, fAbs, f2I, fInt, fIsq, wPar, wPar3, permD, startE, List.map_cons, List.map_nil, List.cons_append, List.nil_append, List.append_nil, List.length_cons, List.length_nil, List.replicate, List.getElem?_cons_zero, List.getElem?_cons_succ, List.set_cons_zero, List.set_cons_succ, List.getD_cons_zero, List.getD_cons_succ, Nat.reduceAdd, Nat.reduceSub, Nat.zero_add, true_and, and_true, Bool.not_true, Bool.not_false, if_true, if_false, Bool.false_eq_true, reduceIte, decide_eq_true_eq, Bool.not_eq_true', decide_eq_false_iff_not, eqV_int, eqV_str, eqV_bl, decide_true, reduceCtorEq, not_true_eq_false, not_false_eq_true, Bool.not_eq_true, List.not_mem_nil, false_implies, implies_true, Int.reduceNeg, Int.reduceToNat, Int.reducePow, Int.reduceMul, Int.reduceAdd, draw_i, ix_t0, ix_t1, ix_t2, ix_t3, ix_m3, ix_m4, sn_ball_box, sn_cell_box, sn_cell_ball, sn_ball_cell, sn_box_ball, sn_box_cell, decide_false]
    simp (disch := first | assumption | decide) only [wSeq, wNext, wAsg, wgName, wIfS, wB, wOp, wVar, wC, wCall, wCallK, wCons, wNil, wRet, wRetN, wDrop, wTup, wLst, wIf, wAnd, wOr, wNot, wAndV, wOrV, wNotV, wNeg, wChain, fI, fI0, addD, fLt, fLe, fGt, fGe, fIsB, wCB, fAbs, f2I, fInt, fIsq, wPar, wPar3, permD, startE, List.map_cons, List.map_nil, List.cons_append, List.nil_append, List.append_nil, List.length_cons, List.length_nil, List.replicate, List.getElem?_cons_zero, List.getElem?_cons_succ, List.set_cons_zero, List.set_cons_succ, List.getD_cons_zero, List.getD_cons_succ, Nat.reduceAdd, Nat.reduceSub, Nat.zero_add, true_and, and_true, Bool.not_true, Bool.not_false, if_true, if_false, Bool.false_eq_true, reduceIte, decide_eq_true_eq, Bool.not_eq_true', decide_eq_false_iff_not, eqV_int, eqV_str, eqV_bl, decide_true, reduceCtorEq, not_true_eq_false, not_false_eq_true, Bool.not_eq_true, List.not_mem_nil, false_implies, implies_true, Int.reduceNeg, Int.reduceToNat, Int.reducePow, Int.reduceMul, Int.reduceAdd, draw_i, ix_t0, ix_t1, ix_t2, ix_t3, ix_m3, ix_m4, sn_ball_box, sn_cell_box, sn_cell_ball, sn_ball_cell, sn_box_ball, sn_box_cell, decide_false, wLc, wiZip3, wipeE, vec]
    refine zip3_lc (fun a b c => mx3 (a - c) (c - b) 0) ?_ (fun a b c K hK => ?_) ?_
    · rw [ok.1.1]
      omega
    · simp (disch := first | assumption | decide) only [wSeq, wNext, wAsg, wgName, wIfS, wB, wOp, wVar, wC, wCall, wCallK, wCons, wNil, wRet, wRetN, wDrop, wTup, wLst, wIf, wAnd, wOr, wNot, wAndV, wOrV, wNotV, wNeg, wChain, fI, fI0, addD, fLt, fLe, fGt, fGe, fIsB, wCB, fAbs, f2I, fInt, fIsq, wPar, wPar3, permD, startE, List.map_cons, List.map_nil, List.cons_append, List.nil_append, List.append_nil, List.length_cons, List.length_nil, List.replicate, List.getElem?_cons_zero, List.getElem?_cons_succ, List.set_cons_zero, List.set_cons_succ, List.getD_cons_zero, List.getD_cons_succ, Nat.reduceAdd, Nat.reduceSub, Nat.zero_add, true_and, and_true, Bool.not_true, Bool.not_false, if_true, if_false, Bool.false_eq_true, reduceIte, decide_eq_true_eq, Bool.not_eq_true', decide_eq_false_iff_not, eqV_int, eqV_str, eqV_bl, decide_true, reduceCtorEq, not_true_eq_false, not_false_eq_true, Bool.not_eq_true, List.not_mem_nil, false_implies, implies_true, Int.reduceNeg, Int.reduceToNat, Int.reducePow, Int.reduceMul, Int.reduceAdd, draw_i, ix_t0, ix_t1, ix_t2, ix_t3, ix_m3, ix_m4, sn_ball_box, sn_cell_box, sn_cell_ball, sn_ball_cell, sn_box_ball, sn_box_cell, decide_false, near_i]
      exact hK
    · simp (disch := first | assumption | decide) only [wSeq, wNext, wAsg, wgName, wIfS, wB, wOp, wVar, wC, wCall, wCallK, wCons, wNil, wRet, wRetN, wDrop, wTup, wLst, wIf, wAnd, wOr, wNot, wAndV, wOrV, wNotV, wNeg, wChain, fI, fI0, addD, fLt, fLe, fGt, fGe, fIsB, wCB, fAbs, f2I, fInt, fIsq, wPar, wPar3, permD, startE, List.map_cons, List.map_nil, List.cons_append, List.nil_append, List.append_nil, List.length_cons, List.length_nil, List.replicate, List.getElem?_cons_zero, List.getElem?_cons_succ, List.set_cons_zero, List.set_cons_succ, List.getD_cons_zero, List.getD_cons_succ, Nat.reduceAdd, Nat.reduceSub, Nat.zero_add, true_and, and_true, Bool.not_true, Bool.not_false, if_true, if_false, Bool.false_eq_true, reduceIte, decide_eq_true_eq, Bool.not_eq_true', decide_eq_false_iff_not, eqV_int, eqV_str, eqV_bl, decide_true, reduceCtorEq, not_true_eq_false, not_false_eq_true, Bool.not_eq_true, List.not_mem_nil, false_implies, implies_true, Int.reduceNeg, Int.reduceToNat, Int.reducePow, Int.reduceMul, Int.reduceAdd, draw_i, ix_t0, ix_t1, ix_t2, ix_t3, ix_m3, ix_m4, sn_ball_box, sn_cell_box, sn_cell_ball, sn_ball_cell, sn_box_ball, sn_box_cell, decide_false, wiSeq]
      have l8 : (nearL l h v).length ≤ 64 := by
        unfold nearL
        rw [List.length_map, List.length_range, ok.1.1]
        omega
      have nb := near_b l60 h60 hv
      refine box_lc (ns := nearL l h v) l8 (fun n hn => by have := nb n hn; omega) ?_
      exact ⟨k, _, _, rfl, rfl, parts_small l8 (fun n hn => by have := nb n hn; omega), q⟩
  | ball c r =>
    have sc := vk_sm hp (by decide) ok.1
    have nd := nc_nb (dist_nc (k := k) hp (vk_up ok.1 (by decide)) hv)
    have nr : nb r := ⟨ok.2.1, by have := ok.2.2; omega⟩
    unfold Rg.d
    refine seq_gen fun K hK => ?_
    simp (disch := first | assumption | decide) only [wSeq, wNext, wAsg, wgName, wIfS, wB, wOp, wVar, wC, wCall, wCallK, wCons, wNil, wRet, wRetN, wDrop, wTup, wLst, wIf, wAnd, wOr, wNot, wAndV, wOrV, wNotV, wNeg, wChain, fI, fI0, addD, fLt, fLe, fGt, fGe, fIsB, wCB, fAbs, f2I, fInt, fIsq, wPar, wPar3, permD, startE, List.map_cons, List.map_nil, List.cons_append, List.nil_append, List.append_nil, List.length_cons, List.length_nil, List.replicate, List.getElem?_cons_zero, List.getElem?_cons_succ, List.set_cons_zero, List.set_cons_succ, List.getD_cons_zero, List.getD_cons_succ, Nat.reduceAdd, Nat.reduceSub, Nat.zero_add, true_and, and_true, Bool.not_true, Bool.not_false, if_true, if_false, Bool.false_eq_true, reduceIte, decide_eq_true_eq, Bool.not_eq_true', decide_eq_false_iff_not, eqV_int, eqV_str, eqV_bl, decide_true, reduceCtorEq, not_true_eq_false, not_false_eq_true, Bool.not_eq_true, List.not_mem_nil, false_implies, implies_true, Int.reduceNeg, Int.reduceToNat, Int.reducePow, Int.reduceMul, Int.reduceAdd, draw_i, ix_t0, ix_t1, ix_t2, ix_t3, ix_m3, ix_m4, sn_ball_box, sn_cell_box, sn_cell_ball, sn_ball_cell, sn_box_ball, sn_box_cell, decide_false]
    subst hK
    refine seq_gen fun K hK => ?_
    simp (disch := first | assumption | decide) only [wSeq, wNext, wAsg, wgName, wIfS, wB, wOp, wVar, wC, wCall, wCallK, wCons, wNil, wRet, wRetN, wDrop, wTup, wLst, wIf, wAnd, wOr, wNot, wAndV, wOrV, wNotV, wNeg, wChain, fI, fI0, addD, fLt, fLe, fGt, fGe, fIsB, wCB, fAbs, f2I, fInt, fIsq, wPar, wPar3, permD, startE, List.map_cons, List.map_nil, List.cons_append, List.nil_append, List.append_nil, List.length_cons, List.length_nil, List.replicate, List.getElem?_cons_zero, List.getElem?_cons_succ, List.set_cons_zero, List.set_cons_succ, List.getD_cons_zero, List.getD_cons_succ, Nat.reduceAdd, Nat.reduceSub, Nat.zero_add, true_and, and_true, Bool.not_true, Bool.not_false, if_true, if_false, Bool.false_eq_true, reduceIte, decide_eq_true_eq, Bool.not_eq_true', decide_eq_false_iff_not, eqV_int, eqV_str, eqV_bl, decide_true, reduceCtorEq, not_true_eq_false, not_false_eq_true, Bool.not_eq_true, List.not_mem_nil, false_implies, implies_true, Int.reduceNeg, Int.reduceToNat, Int.reducePow, Int.reduceMul, Int.reduceAdd, draw_i, ix_t0, ix_t1, ix_t2, ix_t3, ix_m3, ix_m4, sn_ball_box, sn_cell_box, sn_cell_ball, sn_ball_cell, sn_box_ball, sn_box_cell, decide_false, dist_i]
    subst hK
    simp (disch := first | assumption | decide) only [wSeq, wNext, wAsg, wgName, wIfS, wB, wOp, wVar, wC, wCall, wCallK, wCons, wNil, wRet, wRetN, wDrop, wTup, wLst, wIf, wAnd, wOr, wNot, wAndV, wOrV, wNotV, wNeg, wChain, fI, fI0, addD, fLt, fLe, fGt, fGe, fIsB, wCB, fAbs, f2I, fInt, fIsq, wPar, wPar3, permD, startE, List.map_cons, List.map_nil, List.cons_append, List.nil_append, List.append_nil, List.length_cons, List.length_nil, List.replicate, List.getElem?_cons_zero, List.getElem?_cons_succ, List.set_cons_zero, List.set_cons_succ, List.getD_cons_zero, List.getD_cons_succ, Nat.reduceAdd, Nat.reduceSub, Nat.zero_add, true_and, and_true, Bool.not_true, Bool.not_false, if_true, if_false, Bool.false_eq_true, reduceIte, decide_eq_true_eq, Bool.not_eq_true', decide_eq_false_iff_not, eqV_int, eqV_str, eqV_bl, decide_true, reduceCtorEq, not_true_eq_false, not_false_eq_true, Bool.not_eq_true, List.not_mem_nil, false_implies, implies_true, Int.reduceNeg, Int.reduceToNat, Int.reducePow, Int.reduceMul, Int.reduceAdd, draw_i, ix_t0, ix_t1, ix_t2, ix_t3, ix_m3, ix_m4, sn_ball_box, sn_cell_box, sn_cell_ball, sn_ball_cell, sn_box_ball, sn_box_cell, decide_false, least_i]
    exact q
  | cell c a b =>
    have sc := vk_sm hp (by decide) ok.1
    have nd := nc_nb (dist_nc (k := k) hp (vk_up ok.1 (by decide)) hv)
    obtain ⟨_, a0, ab, b1⟩ := ok
    have na : nb a := ⟨a0, by omega⟩
    have nbb : nb b := ⟨by omega, by omega⟩
    unfold Rg.d
    refine seq_gen fun K hK => ?_
    simp (disch := first | assumption | decide) only [wSeq, wNext, wAsg, wgName, wIfS, wB, wOp, wVar, wC, wCall, wCallK, wCons, wNil, wRet, wRetN, wDrop, wTup, wLst, wIf, wAnd, wOr, wNot, wAndV, wOrV, wNotV, wNeg, wChain, fI, fI0, addD, fLt, fLe, fGt, fGe, fIsB, wCB, fAbs, f2I, fInt, fIsq, wPar, wPar3, permD, startE, List.map_cons, List.map_nil, List.cons_append, List.nil_append, List.append_nil, List.length_cons, List.length_nil, List.replicate, List.getElem?_cons_zero, List.getElem?_cons_succ, List.set_cons_zero, List.set_cons_succ, List.getD_cons_zero, List.getD_cons_succ, Nat.reduceAdd, Nat.reduceSub, Nat.zero_add, true_and, and_true, Bool.not_true, Bool.not_false, if_true, if_false, Bool.false_eq_true, reduceIte, decide_eq_true_eq, Bool.not_eq_true', decide_eq_false_iff_not, eqV_int, eqV_str, eqV_bl, decide_true, reduceCtorEq, not_true_eq_false, not_false_eq_true, Bool.not_eq_true, List.not_mem_nil, false_implies, implies_true, Int.reduceNeg, Int.reduceToNat, Int.reducePow, Int.reduceMul, Int.reduceAdd, draw_i, ix_t0, ix_t1, ix_t2, ix_t3, ix_m3, ix_m4, sn_ball_box, sn_cell_box, sn_cell_ball, sn_ball_cell, sn_box_ball, sn_box_cell, decide_false]
    subst hK
    refine seq_gen fun K hK => ?_
    simp (disch := first | assumption | decide) only [wSeq, wNext, wAsg, wgName, wIfS, wB, wOp, wVar, wC, wCall, wCallK, wCons, wNil, wRet, wRetN, wDrop, wTup, wLst, wIf, wAnd, wOr, wNot, wAndV, wOrV, wNotV, wNeg, wChain, fI, fI0, addD, fLt, fLe, fGt, fGe, fIsB, wCB, fAbs, f2I, fInt, fIsq, wPar, wPar3, permD, startE, List.map_cons, List.map_nil, List.cons_append, List.nil_append, List.append_nil, List.length_cons, List.length_nil, List.replicate, List.getElem?_cons_zero, List.getElem?_cons_succ, List.set_cons_zero, List.set_cons_succ, List.getD_cons_zero, List.getD_cons_succ, Nat.reduceAdd, Nat.reduceSub, Nat.zero_add, true_and, and_true, Bool.not_true, Bool.not_false, if_true, if_false, Bool.false_eq_true, reduceIte, decide_eq_true_eq, Bool.not_eq_true', decide_eq_false_iff_not, eqV_int, eqV_str, eqV_bl, decide_true, reduceCtorEq, not_true_eq_false, not_false_eq_true, Bool.not_eq_true, List.not_mem_nil, false_implies, implies_true, Int.reduceNeg, Int.reduceToNat, Int.reducePow, Int.reduceMul, Int.reduceAdd, draw_i, ix_t0, ix_t1, ix_t2, ix_t3, ix_m3, ix_m4, sn_ball_box, sn_cell_box, sn_cell_ball, sn_ball_cell, sn_box_ball, sn_box_cell, decide_false, dist_i]
    subst hK
    simp (disch := first | assumption | decide) only [wSeq, wNext, wAsg, wgName, wIfS, wB, wOp, wVar, wC, wCall, wCallK, wCons, wNil, wRet, wRetN, wDrop, wTup, wLst, wIf, wAnd, wOr, wNot, wAndV, wOrV, wNotV, wNeg, wChain, fI, fI0, addD, fLt, fLe, fGt, fGe, fIsB, wCB, fAbs, f2I, fInt, fIsq, wPar, wPar3, permD, startE, List.map_cons, List.map_nil, List.cons_append, List.nil_append, List.append_nil, List.length_cons, List.length_nil, List.replicate, List.getElem?_cons_zero, List.getElem?_cons_succ, List.set_cons_zero, List.set_cons_succ, List.getD_cons_zero, List.getD_cons_succ, Nat.reduceAdd, Nat.reduceSub, Nat.zero_add, true_and, and_true, Bool.not_true, Bool.not_false, if_true, if_false, Bool.false_eq_true, reduceIte, decide_eq_true_eq, Bool.not_eq_true', decide_eq_false_iff_not, eqV_int, eqV_str, eqV_bl, decide_true, reduceCtorEq, not_true_eq_false, not_false_eq_true, Bool.not_eq_true, List.not_mem_nil, false_implies, implies_true, Int.reduceNeg, Int.reduceToNat, Int.reducePow, Int.reduceMul, Int.reduceAdd, draw_i, ix_t0, ix_t1, ix_t2, ix_t3, ix_m3, ix_m4, sn_ball_box, sn_cell_box, sn_cell_ball, sn_ball_cell, sn_box_ball, sn_box_cell, decide_false, least_i, gap_i]
    have q' : Q (.int (if distI k c v < a then gapI (sq k) a (distI k c v) else leastI (sq k) (distI k c v) b)) M := q
    split
    · rename_i h
      rw [if_pos h] at q'
      exact q'
    · rename_i h
      rw [if_neg h] at q'
      exact q'
theorem wp_ceiling_of : ∀ ds M Q R, F_ceiling_of ds M Q R → W_ceiling_of { nx := fun _ M' => Q .non M', rt := Q, xr := R } (startE 9 ds) M := by
  rintro ds M Q R ⟨k, r, v, p, rfl, hp, ok, hv, q⟩
  have sv := vk_sm hp (by decide) hv
  unfold W_ceiling_of
  have fin : ∀ m : Int, Q (.int (lenMin k v m)) M → (if k = "unlike" then f2I (fun i j => if j < i then j else i) [.int m, .int (v.length : Int)] M Q else Q (.int m) M) := fun m z => by
    unfold lenMin at z
    split
    · rename_i h
      rw [if_pos h] at z
      exact z
    · rename_i h
      rw [if_neg h] at z
      exact z
  cases r with
  | box l h =>
    have l60 := vk_up (C := 60000) ok.1 (by decide)
    have h60 := vk_up (C := 60000) ok.2.1 (by decide)
    unfold Rg.d
    refine seq_gen fun K hK => ?_
    simp (disch := first | assumption | decide) only [wSeq, wNext, wAsg, wgName, wIfS, wB, wOp, wVar, wC, wCall, wCallK, wCons, wNil, wRet, wRetN, wDrop, wTup, wLst, wIf, wAnd, wOr, wNot, wAndV, wOrV, wNotV, wNeg, wChain, fI, fI0, addD, fLt, fLe, fGt, fGe, fIsB, wCB, fAbs, f2I, fInt, fIsq, wPar, wPar3, permD, startE, List.map_cons, List.map_nil, List.cons_append, List.nil_append, List.append_nil, List.length_cons, List.length_nil, List.replicate, List.getElem?_cons_zero, List.getElem?_cons_succ, List.set_cons_zero, List.set_cons_succ, List.getD_cons_zero, List.getD_cons_succ, Nat.reduceAdd, Nat.reduceSub, Nat.zero_add, true_and, and_true, Bool.not_true, Bool.not_false, if_true, if_false, Bool.false_eq_true, reduceIte, decide_eq_true_eq, Bool.not_eq_true', decide_eq_false_iff_not, eqV_int, eqV_str, eqV_bl, decide_true, reduceCtorEq, not_true_eq_false, not_false_eq_true, Bool.not_eq_true, List.not_mem_nil, false_implies, implies_true, Int.reduceNeg, Int.reduceToNat, Int.reducePow, Int.reduceMul, Int.reduceAdd, draw_i, ix_t0, ix_t1, ix_t2, ix_t3, ix_m3, ix_m4, sn_ball_box, sn_cell_box, sn_cell_ball, sn_ball_cell, sn_box_ball, sn_box_cell, decide_false]
    simp (disch := first | assumption | decide) only [wSeq, wNext, wAsg, wgName, wIfS, wB, wOp, wVar, wC, wCall, wCallK, wCons, wNil, wRet, wRetN, wDrop, wTup, wLst, wIf, wAnd, wOr, wNot, wAndV, wOrV, wNotV, wNeg, wChain, fI, fI0, addD, fLt, fLe, fGt, fGe, fIsB, wCB, fAbs, f2I, fInt, fIsq, wPar, wPar3, permD, startE, List.map_cons, List.map_nil, List.cons_append, List.nil_append, List.append_nil, List.length_cons, List.length_nil, List.replicate, List.getElem?_cons_zero, List.getElem?_cons_succ, List.set_cons_zero, List.set_cons_succ, List.getD_cons_zero, List.getD_cons_succ, Nat.reduceAdd, Nat.reduceSub, Nat.zero_add, true_and, and_true, Bool.not_true, Bool.not_false, if_true, if_false, Bool.false_eq_true, reduceIte, decide_eq_true_eq, Bool.not_eq_true', decide_eq_false_iff_not, eqV_int, eqV_str, eqV_bl, decide_true, reduceCtorEq, not_true_eq_false, not_false_eq_true, Bool.not_eq_true, List.not_mem_nil, false_implies, implies_true, Int.reduceNeg, Int.reduceToNat, Int.reducePow, Int.reduceMul, Int.reduceAdd, draw_i, ix_t0, ix_t1, ix_t2, ix_t3, ix_m3, ix_m4, sn_ball_box, sn_cell_box, sn_cell_ball, sn_ball_cell, sn_box_ball, sn_box_cell, decide_false, wLc, wiZip3, wipeE, vec]
    refine zip3_lc (fun a b c => mx2 (c - a) (b - c)) ?_ (fun a b c K hK => ?_) ?_
    · rw [ok.1.1]
      omega
    · simp (disch := first | assumption | decide) only [wSeq, wNext, wAsg, wgName, wIfS, wB, wOp, wVar, wC, wCall, wCallK, wCons, wNil, wRet, wRetN, wDrop, wTup, wLst, wIf, wAnd, wOr, wNot, wAndV, wOrV, wNotV, wNeg, wChain, fI, fI0, addD, fLt, fLe, fGt, fGe, fIsB, wCB, fAbs, f2I, fInt, fIsq, wPar, wPar3, permD, startE, List.map_cons, List.map_nil, List.cons_append, List.nil_append, List.append_nil, List.length_cons, List.length_nil, List.replicate, List.getElem?_cons_zero, List.getElem?_cons_succ, List.set_cons_zero, List.set_cons_succ, List.getD_cons_zero, List.getD_cons_succ, Nat.reduceAdd, Nat.reduceSub, Nat.zero_add, true_and, and_true, Bool.not_true, Bool.not_false, if_true, if_false, Bool.false_eq_true, reduceIte, decide_eq_true_eq, Bool.not_eq_true', decide_eq_false_iff_not, eqV_int, eqV_str, eqV_bl, decide_true, reduceCtorEq, not_true_eq_false, not_false_eq_true, Bool.not_eq_true, List.not_mem_nil, false_implies, implies_true, Int.reduceNeg, Int.reduceToNat, Int.reducePow, Int.reduceMul, Int.reduceAdd, draw_i, ix_t0, ix_t1, ix_t2, ix_t3, ix_m3, ix_m4, sn_ball_box, sn_cell_box, sn_cell_ball, sn_ball_cell, sn_box_ball, sn_box_cell, decide_false, far_i]
      exact hK
    · simp (disch := first | assumption | decide) only [wSeq, wNext, wAsg, wgName, wIfS, wB, wOp, wVar, wC, wCall, wCallK, wCons, wNil, wRet, wRetN, wDrop, wTup, wLst, wIf, wAnd, wOr, wNot, wAndV, wOrV, wNotV, wNeg, wChain, fI, fI0, addD, fLt, fLe, fGt, fGe, fIsB, wCB, fAbs, f2I, fInt, fIsq, wPar, wPar3, permD, startE, List.map_cons, List.map_nil, List.cons_append, List.nil_append, List.append_nil, List.length_cons, List.length_nil, List.replicate, List.getElem?_cons_zero, List.getElem?_cons_succ, List.set_cons_zero, List.set_cons_succ, List.getD_cons_zero, List.getD_cons_succ, Nat.reduceAdd, Nat.reduceSub, Nat.zero_add, true_and, and_true, Bool.not_true, Bool.not_false, if_true, if_false, Bool.false_eq_true, reduceIte, decide_eq_true_eq, Bool.not_eq_true', decide_eq_false_iff_not, eqV_int, eqV_str, eqV_bl, decide_true, reduceCtorEq, not_true_eq_false, not_false_eq_true, Bool.not_eq_true, List.not_mem_nil, false_implies, implies_true, Int.reduceNeg, Int.reduceToNat, Int.reducePow, Int.reduceMul, Int.reduceAdd, draw_i, ix_t0, ix_t1, ix_t2, ix_t3, ix_m3, ix_m4, sn_ball_box, sn_cell_box, sn_cell_ball, sn_ball_cell, sn_box_ball, sn_box_cell, decide_false, wiSeq]
      have l8 : (farL l h v).length ≤ 64 := by
        unfold farL
        rw [List.length_map, List.length_range, ok.1.1]
        omega
      have nb := far_b l60 h60 hv
      refine box_lc (ns := farL l h v) l8 (fun n hn => by have := nb n hn; omega) ?_
      exact ⟨k, _, _, rfl, rfl, parts_small l8 (fun n hn => by have := nb n hn; omega), q⟩
  | ball c r =>
    have sc := vk_sm hp (by decide) ok.1
    have nd := nc_nb (dist_nc (k := k) hp (vk_up ok.1 (by decide)) hv)
    have nr : nb r := ⟨ok.2.1, by have := ok.2.2; omega⟩
    unfold Rg.d
    refine seq_gen fun K hK => ?_
    simp (disch := first | assumption | decide) only [wSeq, wNext, wAsg, wgName, wIfS, wB, wOp, wVar, wC, wCall, wCallK, wCons, wNil, wRet, wRetN, wDrop, wTup, wLst, wIf, wAnd, wOr, wNot, wAndV, wOrV, wNotV, wNeg, wChain, fI, fI0, addD, fLt, fLe, fGt, fGe, fIsB, wCB, fAbs, f2I, fInt, fIsq, wPar, wPar3, permD, startE, List.map_cons, List.map_nil, List.cons_append, List.nil_append, List.append_nil, List.length_cons, List.length_nil, List.replicate, List.getElem?_cons_zero, List.getElem?_cons_succ, List.set_cons_zero, List.set_cons_succ, List.getD_cons_zero, List.getD_cons_succ, Nat.reduceAdd, Nat.reduceSub, Nat.zero_add, true_and, and_true, Bool.not_true, Bool.not_false, if_true, if_false, Bool.false_eq_true, reduceIte, decide_eq_true_eq, Bool.not_eq_true', decide_eq_false_iff_not, eqV_int, eqV_str, eqV_bl, decide_true, reduceCtorEq, not_true_eq_false, not_false_eq_true, Bool.not_eq_true, List.not_mem_nil, false_implies, implies_true, Int.reduceNeg, Int.reduceToNat, Int.reducePow, Int.reduceMul, Int.reduceAdd, draw_i, ix_t0, ix_t1, ix_t2, ix_t3, ix_m3, ix_m4, sn_ball_box, sn_cell_box, sn_cell_ball, sn_ball_cell, sn_box_ball, sn_box_cell, decide_false]
    subst hK
    refine seq_gen fun K hK => ?_
    simp (disch := first | assumption | decide) only [wSeq, wNext, wAsg, wgName, wIfS, wB, wOp, wVar, wC, wCall, wCallK, wCons, wNil, wRet, wRetN, wDrop, wTup, wLst, wIf, wAnd, wOr, wNot, wAndV, wOrV, wNotV, wNeg, wChain, fI, fI0, addD, fLt, fLe, fGt, fGe, fIsB, wCB, fAbs, f2I, fInt, fIsq, wPar, wPar3, permD, startE, List.map_cons, List.map_nil, List.cons_append, List.nil_append, List.append_nil, List.length_cons, List.length_nil, List.replicate, List.getElem?_cons_zero, List.getElem?_cons_succ, List.set_cons_zero, List.set_cons_succ, List.getD_cons_zero, List.getD_cons_succ, Nat.reduceAdd, Nat.reduceSub, Nat.zero_add, true_and, and_true, Bool.not_true, Bool.not_false, if_true, if_false, Bool.false_eq_true, reduceIte, decide_eq_true_eq, Bool.not_eq_true', decide_eq_false_iff_not, eqV_int, eqV_str, eqV_bl, decide_true, reduceCtorEq, not_true_eq_false, not_false_eq_true, Bool.not_eq_true, List.not_mem_nil, false_implies, implies_true, Int.reduceNeg, Int.reduceToNat, Int.reducePow, Int.reduceMul, Int.reduceAdd, draw_i, ix_t0, ix_t1, ix_t2, ix_t3, ix_m3, ix_m4, sn_ball_box, sn_cell_box, sn_cell_ball, sn_ball_cell, sn_box_ball, sn_box_cell, decide_false, dist_i, most_i]
    subst hK
    simp (disch := first | assumption | decide) only [wSeq, wNext, wAsg, wgName, wIfS, wB, wOp, wVar, wC, wCall, wCallK, wCons, wNil, wRet, wRetN, wDrop, wTup, wLst, wIf, wAnd, wOr, wNot, wAndV, wOrV, wNotV, wNeg, wChain, fI, fI0, addD, fLt, fLe, fGt, fGe, fIsB, wCB, fAbs, f2I, fInt, fIsq, wPar, wPar3, permD, startE, List.map_cons, List.map_nil, List.cons_append, List.nil_append, List.append_nil, List.length_cons, List.length_nil, List.replicate, List.getElem?_cons_zero, List.getElem?_cons_succ, List.set_cons_zero, List.set_cons_succ, List.getD_cons_zero, List.getD_cons_succ, Nat.reduceAdd, Nat.reduceSub, Nat.zero_add, true_and, and_true, Bool.not_true, Bool.not_false, if_true, if_false, Bool.false_eq_true, reduceIte, decide_eq_true_eq, Bool.not_eq_true', decide_eq_false_iff_not, eqV_int, eqV_str, eqV_bl, decide_true, reduceCtorEq, not_true_eq_false, not_false_eq_true, Bool.not_eq_true, List.not_mem_nil, false_implies, implies_true, Int.reduceNeg, Int.reduceToNat, Int.reducePow, Int.reduceMul, Int.reduceAdd, draw_i, ix_t0, ix_t1, ix_t2, ix_t3, ix_m3, ix_m4, sn_ball_box, sn_cell_box, sn_cell_ball, sn_ball_cell, sn_box_ball, sn_box_cell, decide_false, len_vec]
    exact fin _ q
  | cell c a b =>
    have sc := vk_sm hp (by decide) ok.1
    have nd := nc_nb (dist_nc (k := k) hp (vk_up ok.1 (by decide)) hv)
    obtain ⟨_, a0, ab, b1⟩ := ok
    have nbb : nb b := ⟨by omega, by omega⟩
    unfold Rg.d
    refine seq_gen fun K hK => ?_
    simp (disch := first | assumption | decide) only [wSeq, wNext, wAsg, wgName, wIfS, wB, wOp, wVar, wC, wCall, wCallK, wCons, wNil, wRet, wRetN, wDrop, wTup, wLst, wIf, wAnd, wOr, wNot, wAndV, wOrV, wNotV, wNeg, wChain, fI, fI0, addD, fLt, fLe, fGt, fGe, fIsB, wCB, fAbs, f2I, fInt, fIsq, wPar, wPar3, permD, startE, List.map_cons, List.map_nil, List.cons_append, List.nil_append, List.append_nil, List.length_cons, List.length_nil, List.replicate, List.getElem?_cons_zero, List.getElem?_cons_succ, List.set_cons_zero, List.set_cons_succ, List.getD_cons_zero, List.getD_cons_succ, Nat.reduceAdd, Nat.reduceSub, Nat.zero_add, true_and, and_true, Bool.not_true, Bool.not_false, if_true, if_false, Bool.false_eq_true, reduceIte, decide_eq_true_eq, Bool.not_eq_true', decide_eq_false_iff_not, eqV_int, eqV_str, eqV_bl, decide_true, reduceCtorEq, not_true_eq_false, not_false_eq_true, Bool.not_eq_true, List.not_mem_nil, false_implies, implies_true, Int.reduceNeg, Int.reduceToNat, Int.reducePow, Int.reduceMul, Int.reduceAdd, draw_i, ix_t0, ix_t1, ix_t2, ix_t3, ix_m3, ix_m4, sn_ball_box, sn_cell_box, sn_cell_ball, sn_ball_cell, sn_box_ball, sn_box_cell, decide_false]
    subst hK
    refine seq_gen fun K hK => ?_
    simp (disch := first | assumption | decide) only [wSeq, wNext, wAsg, wgName, wIfS, wB, wOp, wVar, wC, wCall, wCallK, wCons, wNil, wRet, wRetN, wDrop, wTup, wLst, wIf, wAnd, wOr, wNot, wAndV, wOrV, wNotV, wNeg, wChain, fI, fI0, addD, fLt, fLe, fGt, fGe, fIsB, wCB, fAbs, f2I, fInt, fIsq, wPar, wPar3, permD, startE, List.map_cons, List.map_nil, List.cons_append, List.nil_append, List.append_nil, List.length_cons, List.length_nil, List.replicate, List.getElem?_cons_zero, List.getElem?_cons_succ, List.set_cons_zero, List.set_cons_succ, List.getD_cons_zero, List.getD_cons_succ, Nat.reduceAdd, Nat.reduceSub, Nat.zero_add, true_and, and_true, Bool.not_true, Bool.not_false, if_true, if_false, Bool.false_eq_true, reduceIte, decide_eq_true_eq, Bool.not_eq_true', decide_eq_false_iff_not, eqV_int, eqV_str, eqV_bl, decide_true, reduceCtorEq, not_true_eq_false, not_false_eq_true, Bool.not_eq_true, List.not_mem_nil, false_implies, implies_true, Int.reduceNeg, Int.reduceToNat, Int.reducePow, Int.reduceMul, Int.reduceAdd, draw_i, ix_t0, ix_t1, ix_t2, ix_t3, ix_m3, ix_m4, sn_ball_box, sn_cell_box, sn_cell_ball, sn_ball_cell, sn_box_ball, sn_box_cell, decide_false, dist_i, most_i]
    subst hK
    simp (disch := first | assumption | decide) only [wSeq, wNext, wAsg, wgName, wIfS, wB, wOp, wVar, wC, wCall, wCallK, wCons, wNil, wRet, wRetN, wDrop, wTup, wLst, wIf, wAnd, wOr, wNot, wAndV, wOrV, wNotV, wNeg, wChain, fI, fI0, addD, fLt, fLe, fGt, fGe, fIsB, wCB, fAbs, f2I, fInt, fIsq, wPar, wPar3, permD, startE, List.map_cons, List.map_nil, List.cons_append, List.nil_append, List.append_nil, List.length_cons, List.length_nil, List.replicate, List.getElem?_cons_zero, List.getElem?_cons_succ, List.set_cons_zero, List.set_cons_succ, List.getD_cons_zero, List.getD_cons_succ, Nat.reduceAdd, Nat.reduceSub, Nat.zero_add, true_and, and_true, Bool.not_true, Bool.not_false, if_true, if_false, Bool.false_eq_true, reduceIte, decide_eq_true_eq, Bool.not_eq_true', decide_eq_false_iff_not, eqV_int, eqV_str, eqV_bl, decide_true, reduceCtorEq, not_true_eq_false, not_false_eq_true, Bool.not_eq_true, List.not_mem_nil, false_implies, implies_true, Int.reduceNeg, Int.reduceToNat, Int.reducePow, Int.reduceMul, Int.reduceAdd, draw_i, ix_t0, ix_t1, ix_t2, ix_t3, ix_m3, ix_m4, sn_ball_box, sn_cell_box, sn_cell_ball, sn_ball_cell, sn_box_ball, sn_box_cell, decide_false, len_vec]
    exact fin _ q
end K21
namespace K21
open PySem L2 L3
theorem pw40 : ∀ i, i < 41 → (1 : Int) ≤ 2 ^ i ∧ (2 : Int) ^ i ≤ 1099511627776 := by decide
theorem root_end {n low high : Int} (l0 : 0 ≤ low) (l1 : low * low ≤ n) (l2 : n < high * high) (e : high - low = 1) : rt n = low := by
  have e2 : high = low + 1 := by omega
  rw [e2] at l2
  exact rt_is l0 l1 l2
theorem wp__law_root : ∀ ds M Q R, F__law_root ds M Q R → W__law_root { nx := fun _ M' => Q .non M', rt := Q, xr := R } (startE 5 ds) M := by
  rintro ds M Q R ⟨n, rfl, h0, h1, q⟩
  unfold W__law_root
  refine seq_gen fun K hK => ?_
  simp (disch := first | assumption | decide) only [wSeq, wNext, wAsg, wgName, wIfS, wB, wOp, wVar, wC, wCall, wCallK, wCons, wNil, wRet, wRetN, wDrop, wTup, wLst, wIf, wAnd, wOr, wNot, wAndV, wOrV, wNotV, wNeg, wChain, fI, fI0, addD, fLt, fLe, fGt, fGe, fIsB, wCB, fAbs, f2I, fInt, fIsq, wPar, wPar3, permD, startE, List.map_cons, List.map_nil, List.cons_append, List.nil_append, List.append_nil, List.length_cons, List.length_nil, List.replicate, List.getElem?_cons_zero, List.getElem?_cons_succ, List.set_cons_zero, List.set_cons_succ, List.getD_cons_zero, List.getD_cons_succ, Nat.reduceAdd, Nat.reduceSub, Nat.zero_add, true_and, and_true, Bool.not_true, Bool.not_false, if_true, if_false, Bool.false_eq_true, reduceIte, decide_eq_true_eq, Bool.not_eq_true', decide_eq_false_iff_not, eqV_int, eqV_str, eqV_bl, decide_true, reduceCtorEq, not_true_eq_false, not_false_eq_true, Bool.not_eq_true, List.not_mem_nil, false_implies, implies_true, Int.reduceNeg, Int.reduceToNat, Int.reducePow, Int.reduceMul, Int.reduceAdd, draw_i, ix_t0, ix_t1, ix_t2, ix_t3, ix_m3, ix_m4, sn_ball_box, sn_cell_box, sn_cell_ball, sn_ball_cell, sn_box_ball, sn_box_cell, decide_false, wgTup, wgCons, wgNil]
  refine ⟨by decide, ?_⟩
  subst hK
  refine seq_gen fun K hK => ?_
  -- behind the first loop
  have cont : ∀ (j : Nat) (v1 : Option D), j ≤ 40 → n < 2 ^ j * 2 ^ j → K [some (.int n), v1, some (.int 0), some (.int (2 ^ j)), none] M := by
    intro j v1 hj hn
    subst hK
    refine seq_gen fun K hK => ?_
    refine for_gen fun B hB => ?_
    simp (disch := first | assumption | decide) only [wSeq, wNext, wAsg, wgName, wIfS, wB, wOp, wVar, wC, wCall, wCallK, wCons, wNil, wRet, wRetN, wDrop, wTup, wLst, wIf, wAnd, wOr, wNot, wAndV, wOrV, wNotV, wNeg, wChain, fI, fI0, addD, fLt, fLe, fGt, fGe, fIsB, wCB, fAbs, f2I, fInt, fIsq, wPar, wPar3, permD, startE, List.map_cons, List.map_nil, List.cons_append, List.nil_append, List.append_nil, List.length_cons, List.length_nil, List.replicate, List.getElem?_cons_zero, List.getElem?_cons_succ, List.set_cons_zero, List.set_cons_succ, List.getD_cons_zero, List.getD_cons_succ, Nat.reduceAdd, Nat.reduceSub, Nat.zero_add, true_and, and_true, Bool.not_true, Bool.not_false, if_true, if_false, Bool.false_eq_true, reduceIte, decide_eq_true_eq, Bool.not_eq_true', decide_eq_false_iff_not, eqV_int, eqV_str, eqV_bl, decide_true, reduceCtorEq, not_true_eq_false, not_false_eq_true, Bool.not_eq_true, List.not_mem_nil, false_implies, implies_true, Int.reduceNeg, Int.reduceToNat, Int.reducePow, Int.reduceMul, Int.reduceAdd, draw_i, ix_t0, ix_t1, ix_t2, ix_t3, ix_m3, ix_m4, sn_ball_box, sn_cell_box, sn_cell_ball, sn_ball_cell, sn_box_ball, sn_box_cell, decide_false, wFor, wiRange1]
    refine ⟨by decide, by decide, ?_⟩
    have fin : ∀ (low high : Int) (v1 v4 : Option D), 0 ≤ low → low * low ≤ n → n < high * high → high - low = 1 → K [some (.int n), v1, some (.int low), some (.int high), v4] M := fun low high v1 v4 l0 l1 l2 l3 => by
      subst hK
      simp (disch := first | assumption | decide) only [wSeq, wNext, wAsg, wgName, wIfS, wB, wOp, wVar, wC, wCall, wCallK, wCons, wNil, wRet, wRetN, wDrop, wTup, wLst, wIf, wAnd, wOr, wNot, wAndV, wOrV, wNotV, wNeg, wChain, fI, fI0, addD, fLt, fLe, fGt, fGe, fIsB, wCB, fAbs, f2I, fInt, fIsq, wPar, wPar3, permD, startE, List.map_cons, List.map_nil, List.cons_append, List.nil_append, List.append_nil, List.length_cons, List.length_nil, List.replicate, List.getElem?_cons_zero, List.getElem?_cons_succ, List.set_cons_zero, List.set_cons_succ, List.getD_cons_zero, List.getD_cons_succ, Nat.reduceAdd, Nat.reduceSub, Nat.zero_add, true_and, and_true, Bool.not_true, Bool.not_false, if_true, if_false, Bool.false_eq_true, reduceIte, decide_eq_true_eq, Bool.not_eq_true', decide_eq_false_iff_not, eqV_int, eqV_str, eqV_bl, decide_true, reduceCtorEq, not_true_eq_false, not_false_eq_true, Bool.not_eq_true, List.not_mem_nil, false_implies, implies_true, Int.reduceNeg, Int.reduceToNat, Int.reducePow, Int.reduceMul, Int.reduceAdd, draw_i, ix_t0, ix_t1, ix_t2, ix_t3, ix_m3, ix_m4, sn_ball_box, sn_cell_box, sn_cell_ball, sn_ball_cell, sn_box_ball, sn_box_cell, decide_false]
      rw [← root_end l0 l1 l2 l3]
      exact q
    refine loop_ix (fun i ρ' M' => M' = M ∧ ∃ (low high : Int) (e : Nat) (v1 v4 : Option D), ρ' = [some (.int n), v1, some (.int low), some (.int high), v4] ∧ 0 ≤ low ∧ low * low ≤ n ∧ n < high * high ∧ high - low = 2 ^ e ∧ e + i ≤ 40 ∧ high ≤ 1099511627776) ?_ ?_ ⟨rfl, 0, 2 ^ j, j, v1, none, rfl, by decide, by omega, hn, by omega, by omega, (pw40 j (by omega)).2⟩
    · rintro i d ρ' M' hi ⟨rfl, low, high, e, v1, v4, rfl, l0, l1, l2, l3, l4, l5⟩
      obtain ⟨li2, rfl⟩ := intsD_get hi
      refine ⟨True.intro, fun K' hK' => ?_⟩
      have p := pw40 e (by omega)
      subst hB
      refine seq_gen fun K2 hK2 => ?_
      simp (disch := first | assumption | decide) only [wSeq, wNext, wAsg, wgName, wIfS, wB, wOp, wVar, wC, wCall, wCallK, wCons, wNil, wRet, wRetN, wDrop, wTup, wLst, wIf, wAnd, wOr, wNot, wAndV, wOrV, wNotV, wNeg, wChain, fI, fI0, addD, fLt, fLe, fGt, fGe, fIsB, wCB, fAbs, f2I, fInt, fIsq, wPar, wPar3, permD, startE, List.map_cons, List.map_nil, List.cons_append, List.nil_append, List.append_nil, List.length_cons, List.length_nil, List.replicate, List.getElem?_cons_zero, List.getElem?_cons_succ, List.set_cons_zero, List.set_cons_succ, List.getD_cons_zero, List.getD_cons_succ, Nat.reduceAdd, Nat.reduceSub, Nat.zero_add, true_and, and_true, Bool.not_true, Bool.not_false, if_true, if_false, Bool.false_eq_true, reduceIte, decide_eq_true_eq, Bool.not_eq_true', decide_eq_false_iff_not, eqV_int, eqV_str, eqV_bl, decide_true, reduceCtorEq, not_true_eq_false, not_false_eq_true, Bool.not_eq_true, List.not_mem_nil, false_implies, implies_true, Int.reduceNeg, Int.reduceToNat, Int.reducePow, Int.reduceMul, Int.reduceAdd, draw_i, ix_t0, ix_t1, ix_t2, ix_t3, ix_m3, ix_m4, sn_ball_box, sn_cell_box, sn_cell_ball, sn_ball_cell, sn_box_ball, sn_box_cell, decide_false, wBreak]
      split
      · rename_i h
        exact fin low high _ _ l0 l1 l2 (by omega)
      · rename_i h
        obtain ⟨f, rfl⟩ : ∃ f, e = f + 1 := by
          cases e with
          | zero => simp at l3; omega
          | succ f => exact ⟨f, rfl⟩
        have p2 := pw40 f (by omega)
        have e3 : (2 : Int) ^ (f + 1) = 2 ^ f * 2 := Int.pow_succ 2 f
        have em : (low + high) / 2 = low + 2 ^ f := by omega
        subst hK2
        refine seq_gen fun K2 hK2 => ?_
        simp (disch := first | assumption | decide) only [wSeq, wNext, wAsg, wgName, wIfS, wB, wOp, wVar, wC, wCall, wCallK, wCons, wNil, wRet, wRetN, wDrop, wTup, wLst, wIf, wAnd, wOr, wNot, wAndV, wOrV, wNotV, wNeg, wChain, fI, fI0, addD, fLt, fLe, fGt, fGe, fIsB, wCB, fAbs, f2I, fInt, fIsq, wPar, wPar3, permD, startE, List.map_cons, List.map_nil, List.cons_append, List.nil_append, List.append_nil, List.length_cons, List.length_nil, List.replicate, List.getElem?_cons_zero, List.getElem?_cons_succ, List.set_cons_zero, List.set_cons_succ, List.getD_cons_zero, List.getD_cons_succ, Nat.reduceAdd, Nat.reduceSub, Nat.zero_add, true_and, and_true, Bool.not_true, Bool.not_false, if_true, if_false, Bool.false_eq_true, reduceIte, decide_eq_true_eq, Bool.not_eq_true', decide_eq_false_iff_not, eqV_int, eqV_str, eqV_bl, decide_true, reduceCtorEq, not_true_eq_false, not_false_eq_true, Bool.not_eq_true, List.not_mem_nil, false_implies, implies_true, Int.reduceNeg, Int.reduceToNat, Int.reducePow, Int.reduceMul, Int.reduceAdd, draw_i, ix_t0, ix_t1, ix_t2, ix_t3, ix_m3, ix_m4, sn_ball_box, sn_cell_box, sn_cell_ball, sn_ball_cell, sn_box_ball, sn_box_cell, decide_false]
        refine ⟨⟨by decide, by decide⟩, ?_⟩
        rw [em]
        obtain ⟨m, hm⟩ : ∃ m, m = low + 2 ^ f := ⟨_, rfl⟩
        rw [← hm]
        subst hK2
        simp (disch := first | assumption | decide) only [wSeq, wNext, wAsg, wgName, wIfS, wB, wOp, wVar, wC, wCall, wCallK, wCons, wNil, wRet, wRetN, wDrop, wTup, wLst, wIf, wAnd, wOr, wNot, wAndV, wOrV, wNotV, wNeg, wChain, fI, fI0, addD, fLt, fLe, fGt, fGe, fIsB, wCB, fAbs, f2I, fInt, fIsq, wPar, wPar3, permD, startE, List.map_cons, List.map_nil, List.cons_append, List.nil_append, List.append_nil, List.length_cons, List.length_nil, List.replicate, List.getElem?_cons_zero, List.getElem?_cons_succ, List.set_cons_zero, List.set_cons_succ, List.getD_cons_zero, List.getD_cons_succ, Nat.reduceAdd, Nat.reduceSub, Nat.zero_add, true_and, and_true, Bool.not_true, Bool.not_false, if_true, if_false, Bool.false_eq_true, reduceIte, decide_eq_true_eq, Bool.not_eq_true', decide_eq_false_iff_not, eqV_int, eqV_str, eqV_bl, decide_true, reduceCtorEq, not_true_eq_false, not_false_eq_true, Bool.not_eq_true, List.not_mem_nil, false_implies, implies_true, Int.reduceNeg, Int.reduceToNat, Int.reducePow, Int.reduceMul, Int.reduceAdd, draw_i, ix_t0, ix_t1, ix_t2, ix_t3, ix_m3, ix_m4, sn_ball_box, sn_cell_box, sn_cell_ball, sn_ball_cell, sn_box_ball, sn_box_cell, decide_false]
        refine ⟨cm_of (by omega) (by omega), ?_⟩
        split
        · rename_i hq
          exact hK' _ _ ⟨rfl, m, high, f, _, _, rfl, by omega, hq, l2, by omega, by omega, l5⟩
        · rename_i hq
          exact hK' _ _ ⟨rfl, low, m, f, _, _, rfl, l0, l1, by omega, by omega, by omega, by omega⟩
    · rintro ρ' M' ⟨rfl, low, high, e, v1, v4, rfl, l0, l1, l2, l3, l4, l5⟩
      rw [intsD_len] at l4
      refine ⟨True.intro, ?_⟩
      have e0 : e = 0 := by
        have : ((40 : Int).toNat) = 40 := rfl
        omega
      subst e0
      exact fin low high _ _ l0 l1 l2 (by simpa using l3)
  refine for_gen fun B hB => ?_
  simp (disch := first | assumption | decide) only [wSeq, wNext, wAsg, wgName, wIfS, wB, wOp, wVar, wC, wCall, wCallK, wCons, wNil, wRet, wRetN, wDrop, wTup, wLst, wIf, wAnd, wOr, wNot, wAndV, wOrV, wNotV, wNeg, wChain, fI, fI0, addD, fLt, fLe, fGt, fGe, fIsB, wCB, fAbs, f2I, fInt, fIsq, wPar, wPar3, permD, startE, List.map_cons, List.map_nil, List.cons_append, List.nil_append, List.append_nil, List.length_cons, List.length_nil, List.replicate, List.getElem?_cons_zero, List.getElem?_cons_succ, List.set_cons_zero, List.set_cons_succ, List.getD_cons_zero, List.getD_cons_succ, Nat.reduceAdd, Nat.reduceSub, Nat.zero_add, true_and, and_true, Bool.not_true, Bool.not_false, if_true, if_false, Bool.false_eq_true, reduceIte, decide_eq_true_eq, Bool.not_eq_true', decide_eq_false_iff_not, eqV_int, eqV_str, eqV_bl, decide_true, reduceCtorEq, not_true_eq_false, not_false_eq_true, Bool.not_eq_true, List.not_mem_nil, false_implies, implies_true, Int.reduceNeg, Int.reduceToNat, Int.reducePow, Int.reduceMul, Int.reduceAdd, draw_i, ix_t0, ix_t1, ix_t2, ix_t3, ix_m3, ix_m4, sn_ball_box, sn_cell_box, sn_cell_ball, sn_ball_cell, sn_box_ball, sn_box_cell, decide_false, wFor, wiRange1]
  refine ⟨by decide, by decide, ?_⟩
  refine loop_ix (fun i ρ' M' => M' = M ∧ i ≤ 40 ∧ ∃ v1 : Option D, ρ' = [some (.int n), v1, some (.int 0), some (.int (2 ^ i)), none]) ?_ ?_ ⟨rfl, by decide, none, rfl⟩
  · rintro i d ρ' M' hi ⟨rfl, li, v1, rfl⟩
    obtain ⟨li2, rfl⟩ := intsD_get hi
    have li3 : i < 40 := li2
    refine ⟨True.intro, fun K' hK' => ?_⟩
    have p := pw40 i (by omega)
    subst hB
    refine seq_gen fun K2 hK2 => ?_
    simp (disch := first | assumption | decide) only [wSeq, wNext, wAsg, wgName, wIfS, wB, wOp, wVar, wC, wCall, wCallK, wCons, wNil, wRet, wRetN, wDrop, wTup, wLst, wIf, wAnd, wOr, wNot, wAndV, wOrV, wNotV, wNeg, wChain, fI, fI0, addD, fLt, fLe, fGt, fGe, fIsB, wCB, fAbs, f2I, fInt, fIsq, wPar, wPar3, permD, startE, List.map_cons, List.map_nil, List.cons_append, List.nil_append, List.append_nil, List.length_cons, List.length_nil, List.replicate, List.getElem?_cons_zero, List.getElem?_cons_succ, List.set_cons_zero, List.set_cons_succ, List.getD_cons_zero, List.getD_cons_succ, Nat.reduceAdd, Nat.reduceSub, Nat.zero_add, true_and, and_true, Bool.not_true, Bool.not_false, if_true, if_false, Bool.false_eq_true, reduceIte, decide_eq_true_eq, Bool.not_eq_true', decide_eq_false_iff_not, eqV_int, eqV_str, eqV_bl, decide_true, reduceCtorEq, not_true_eq_false, not_false_eq_true, Bool.not_eq_true, List.not_mem_nil, false_implies, implies_true, Int.reduceNeg, Int.reduceToNat, Int.reducePow, Int.reduceMul, Int.reduceAdd, draw_i, ix_t0, ix_t1, ix_t2, ix_t3, ix_m3, ix_m4, sn_ball_box, sn_cell_box, sn_cell_ball, sn_ball_cell, sn_box_ball, sn_box_cell, decide_false, wBreak]
    refine ⟨cm_of (by omega) (by omega), ?_⟩
    split
    · rename_i h
      exact cont i _ (by omega) h
    · subst hK2
      simp (disch := first | assumption | decide) only [wSeq, wNext, wAsg, wgName, wIfS, wB, wOp, wVar, wC, wCall, wCallK, wCons, wNil, wRet, wRetN, wDrop, wTup, wLst, wIf, wAnd, wOr, wNot, wAndV, wOrV, wNotV, wNeg, wChain, fI, fI0, addD, fLt, fLe, fGt, fGe, fIsB, wCB, fAbs, f2I, fInt, fIsq, wPar, wPar3, permD, startE, List.map_cons, List.map_nil, List.cons_append, List.nil_append, List.append_nil, List.length_cons, List.length_nil, List.replicate, List.getElem?_cons_zero, List.getElem?_cons_succ, List.set_cons_zero, List.set_cons_succ, List.getD_cons_zero, List.getD_cons_succ, Nat.reduceAdd, Nat.reduceSub, Nat.zero_add, true_and, and_true, Bool.not_true, Bool.not_false, if_true, if_false, Bool.false_eq_true, reduceIte, decide_eq_true_eq, Bool.not_eq_true', decide_eq_false_iff_not, eqV_int, eqV_str, eqV_bl, decide_true, reduceCtorEq, not_true_eq_false, not_false_eq_true, Bool.not_eq_true, List.not_mem_nil, false_implies, implies_true, Int.reduceNeg, Int.reduceToNat, Int.reducePow, Int.reduceMul, Int.reduceAdd, draw_i, ix_t0, ix_t1, ix_t2, ix_t3, ix_m3, ix_m4, sn_ball_box, sn_cell_box, sn_cell_ball, sn_ball_cell, sn_box_ball, sn_box_cell, decide_false]
      refine ⟨cm_of (by omega) (by omega), ?_⟩
      have e3 : (2 : Int) ^ (i + 1) = 2 ^ i * 2 := Int.pow_succ 2 i
      rw [← e3]
      exact hK' _ _ ⟨rfl, by omega, _, rfl⟩
  · rintro ρ' M' ⟨rfl, li, v1, rfl⟩
    refine ⟨True.intro, ?_⟩
    rw [intsD_len]
    exact cont 40 _ (by decide) (Int.lt_of_lt_of_le h1 (by decide))
theorem lroot_i {M : Mp} {n : Int} {Q : KD} {R} (h0 : 0 ≤ n) (h1 : n < 2 ^ 80) : F__law_root [.int n] M Q R ↔ Q (.int (rt n)) M := by
  constructor
  · rintro ⟨_, h, _, _, q⟩
    cases h
    exact q
  · exact fun q => ⟨n, rfl, h0, h1, q⟩
theorem nc_root {a b : Int} (na : nc a) (nb : nc b) : 0 ≤ 4 * a * b ∧ 4 * a * b < 2 ^ 80 ∧ CM 4 a ∧ CM (4 * a) b := by
  have h : 4 * a * b ≤ (4 * (2 ^ 39 - 1)) * (2 ^ 39 - 1) := Int.mul_le_mul (by have := na.2; omega) (by have := nb.2; omega) nb.1 (by decide)
  refine ⟨p4 na.1 nb.1, by omega, cm_of (by decide) (by decide), cm_of (by have := na.1; omega) (by have := na.2; omega)⟩
theorem wp__law_gap : ∀ ds M Q R, F__law_gap ds M Q R → W__law_gap { nx := fun _ M' => Q .non M', rt := Q, xr := R } (startE 3 ds) M := by
  rintro ds M Q R ⟨k, a, b, rfl, na, nb, q⟩
  obtain ⟨r0, r1, c1, c2⟩ := nc_root na nb
  unfold W__law_gap
  simp (disch := first | assumption | decide) only [wSeq, wNext, wAsg, wgName, wIfS, wB, wOp, wVar, wC, wCall, wCallK, wCons, wNil, wRet, wRetN, wDrop, wTup, wLst, wIf, wAnd, wOr, wNot, wAndV, wOrV, wNotV, wNeg, wChain, fI, fI0, addD, fLt, fLe, fGt, fGe, fIsB, wCB, fAbs, f2I, fInt, fIsq, wPar, wPar3, permD, startE, List.map_cons, List.map_nil, List.cons_append, List.nil_append, List.append_nil, List.length_cons, List.length_nil, List.replicate, List.getElem?_cons_zero, List.getElem?_cons_succ, List.set_cons_zero, List.set_cons_succ, List.getD_cons_zero, List.getD_cons_succ, Nat.reduceAdd, Nat.reduceSub, Nat.zero_add, true_and, and_true, Bool.not_true, Bool.not_false, if_true, if_false, Bool.false_eq_true, reduceIte, decide_eq_true_eq, Bool.not_eq_true', decide_eq_false_iff_not, eqV_int, eqV_str, eqV_bl, decide_true, reduceCtorEq, not_true_eq_false, not_false_eq_true, Bool.not_eq_true, List.not_mem_nil, false_implies, implies_true, Int.reduceNeg, Int.reduceToNat, Int.reducePow, Int.reduceMul, Int.reduceAdd, draw_i, ix_t0, ix_t1, ix_t2, ix_t3, ix_m3, ix_m4, sn_ball_box, sn_cell_box, sn_cell_ball, sn_ball_cell, sn_box_ball, sn_box_cell, decide_false, lroot_i]
  have q' : Q (.int (if k = "square" then a + b - rt (4 * a * b) else if a - b < 0 then -(a - b) else a - b)) M := by
    unfold gapI sq at q
    simpa using q
  split
  · rename_i h
    rw [if_pos h] at q'
    exact ⟨c1, c2, q'⟩
  · rename_i h
    rw [if_neg h] at q'
    have e : (if b > a then b else a) - (if b < a then b else a) = (if a - b < 0 then -(a - b) else a - b) := by
      split <;> split <;> split <;> omega
    rw [e]
    exact q'
theorem wp__law_most : ∀ ds M Q R, F__law_most ds M Q R → W__law_most { nx := fun _ M' => Q .non M', rt := Q, xr := R } (startE 3 ds) M := by
  rintro ds M Q R ⟨k, a, b, rfl, na, nb, q⟩
  obtain ⟨r0, r1, c1, c2⟩ := nc_root na nb
  unfold W__law_most
  simp (disch := first | assumption | decide) only [wSeq, wNext, wAsg, wgName, wIfS, wB, wOp, wVar, wC, wCall, wCallK, wCons, wNil, wRet, wRetN, wDrop, wTup, wLst, wIf, wAnd, wOr, wNot, wAndV, wOrV, wNotV, wNeg, wChain, fI, fI0, addD, fLt, fLe, fGt, fGe, fIsB, wCB, fAbs, f2I, fInt, fIsq, wPar, wPar3, permD, startE, List.map_cons, List.map_nil, List.cons_append, List.nil_append, List.append_nil, List.length_cons, List.length_nil, List.replicate, List.getElem?_cons_zero, List.getElem?_cons_succ, List.set_cons_zero, List.set_cons_succ, List.getD_cons_zero, List.getD_cons_succ, Nat.reduceAdd, Nat.reduceSub, Nat.zero_add, true_and, and_true, Bool.not_true, Bool.not_false, if_true, if_false, Bool.false_eq_true, reduceIte, decide_eq_true_eq, Bool.not_eq_true', decide_eq_false_iff_not, eqV_int, eqV_str, eqV_bl, decide_true, reduceCtorEq, not_true_eq_false, not_false_eq_true, Bool.not_eq_true, List.not_mem_nil, false_implies, implies_true, Int.reduceNeg, Int.reduceToNat, Int.reducePow, Int.reduceMul, Int.reduceAdd, draw_i, ix_t0, ix_t1, ix_t2, ix_t3, ix_m3, ix_m4, sn_ball_box, sn_cell_box, sn_cell_ball, sn_ball_cell, sn_box_ball, sn_box_cell, decide_false, lroot_i]
  have q' : Q (.int (if k = "square" then a + b + rt (4 * a * b) else a + b)) M := by
    unfold mostI sq at q
    simpa using q
  split
  · rename_i h
    rw [if_pos h] at q'
    exact ⟨c1, c2, q'⟩
  · rename_i h
    rw [if_neg h] at q'
    rw [Int.add_zero]
    exact q'
theorem lgap_i {M : Mp} {k : Str} {a b : Int} {Q : KD} {R} (na : nc a) (nb' : nc b) : F__law_gap [.str k, .int a, .int b] M Q R ↔ Q (.int (gapI (sq k) a b)) M := by
  constructor
  · rintro ⟨_, _, _, h, _, _, q⟩
    cases h
    exact q
  · exact fun q => ⟨k, a, b, rfl, na, nb', q⟩
theorem lmost_i {M : Mp} {k : Str} {a b : Int} {Q : KD} {R} (na : nc a) (nb' : nc b) : F__law_most [.str k, .int a, .int b] M Q R ↔ Q (.int (mostI (sq k) a b)) M := by
  constructor
  · rintro ⟨_, _, _, h, _, _, q⟩
    cases h
    exact q
  · exact fun q => ⟨k, a, b, rfl, na, nb', q⟩
theorem ldist_i {M : Mp} {k : Str} {v u : List Int} {Q : KD} {R} (hl : v.length = u.length) (hv : sm v) (hu : sm u) (q : Q (.int (distI k v u)) M) : F__law_distance [.str k, vec v, vec u] M Q R := ⟨k, _, _, v, u, rfl, rfl, rfl, hl, hv, hu, q⟩
theorem ldist_l {M : Mp} {k : Str} {v u : List Int} {Q : KD} {R} (hl : v.length = u.length) (hv : sm v) (hu : sm u) (q : Q (.int (distI k v u)) M) : F__law_distance [.str k, vec v, .lst (u.map .int)] M Q R := ⟨k, _, _, v, u, rfl, rfl, rfl, hl, hv, hu, q⟩
theorem wp__law_shell : ∀ ds M Q R, F__law_shell ds M Q R → W__law_shell { nx := fun _ M' => Q .non M', rt := Q, xr := R } (startE 1 ds) M := by
  rintro ds M Q R ⟨r, a, b, rfl, hs, q⟩
  unfold W__law_shell
  cases r with
  | box l h => cases hs
  | ball c r =>
    cases hs
    unfold Rg.d
    simp (disch := first | assumption | decide) only [wSeq, wNext, wAsg, wgName, wIfS, wB, wOp, wVar, wC, wCall, wCallK, wCons, wNil, wRet, wRetN, wDrop, wTup, wLst, wIf, wAnd, wOr, wNot, wAndV, wOrV, wNotV, wNeg, wChain, fI, fI0, addD, fLt, fLe, fGt, fGe, fIsB, wCB, fAbs, f2I, fInt, fIsq, wPar, wPar3, permD, startE, List.map_cons, List.map_nil, List.cons_append, List.nil_append, List.append_nil, List.length_cons, List.length_nil, List.replicate, List.getElem?_cons_zero, List.getElem?_cons_succ, List.set_cons_zero, List.set_cons_succ, List.getD_cons_zero, List.getD_cons_succ, Nat.reduceAdd, Nat.reduceSub, Nat.zero_add, true_and, and_true, Bool.not_true, Bool.not_false, if_true, if_false, Bool.false_eq_true, reduceIte, decide_eq_true_eq, Bool.not_eq_true', decide_eq_false_iff_not, eqV_int, eqV_str, eqV_bl, decide_true, reduceCtorEq, not_true_eq_false, not_false_eq_true, Bool.not_eq_true, List.not_mem_nil, false_implies, implies_true, Int.reduceNeg, Int.reduceToNat, Int.reducePow, Int.reduceMul, Int.reduceAdd, draw_i, ix_t0, ix_t1, ix_t2, ix_t3, ix_m3, ix_m4, sn_ball_box, sn_cell_box, sn_cell_ball, sn_ball_cell, sn_box_ball, sn_box_cell, decide_false]
    exact ⟨by decide, q⟩
  | cell c x y =>
    cases hs
    unfold Rg.d
    simp (disch := first | assumption | decide) only [wSeq, wNext, wAsg, wgName, wIfS, wB, wOp, wVar, wC, wCall, wCallK, wCons, wNil, wRet, wRetN, wDrop, wTup, wLst, wIf, wAnd, wOr, wNot, wAndV, wOrV, wNotV, wNeg, wChain, fI, fI0, addD, fLt, fLe, fGt, fGe, fIsB, wCB, fAbs, f2I, fInt, fIsq, wPar, wPar3, permD, startE, List.map_cons, List.map_nil, List.cons_append, List.nil_append, List.append_nil, List.length_cons, List.length_nil, List.replicate, List.getElem?_cons_zero, List.getElem?_cons_succ, List.set_cons_zero, List.set_cons_succ, List.getD_cons_zero, List.getD_cons_succ, Nat.reduceAdd, Nat.reduceSub, Nat.zero_add, true_and, and_true, Bool.not_true, Bool.not_false, if_true, if_false, Bool.false_eq_true, reduceIte, decide_eq_true_eq, Bool.not_eq_true', decide_eq_false_iff_not, eqV_int, eqV_str, eqV_bl, decide_true, reduceCtorEq, not_true_eq_false, not_false_eq_true, Bool.not_eq_true, List.not_mem_nil, false_implies, implies_true, Int.reduceNeg, Int.reduceToNat, Int.reducePow, Int.reduceMul, Int.reduceAdd, draw_i, ix_t0, ix_t1, ix_t2, ix_t3, ix_m3, ix_m4, sn_ball_box, sn_cell_box, sn_cell_ball, sn_ball_cell, sn_box_ball, sn_box_cell, decide_false]
    exact ⟨by decide, q⟩
theorem shell_i {M : Mp} {r : Rg} {a b : Int} {Q : KD} {R} (h : shell r = some (a, b)) (q : Q (.tup [.int a, .int b]) M) : F__law_shell [r.d] M Q R := ⟨r, a, b, rfl, h, q⟩
end K21
namespace K21
open PySem L2 L3
theorem nums_range (p : Nat) : intsD 0 p = nums (List.range p) := by
  unfold intsD nums
  refine List.map_congr_left fun i _ => ?_
  rw [Int.zero_add]
theorem lc_numsb {we : WE} {ρ : En} {M : Mp} {Q : KD} {j : Nat} (h : Nat → Bool) (ps : List Nat) (hn : ps.length ≤ 1000) (hs : ∀ i ∈ ps, ∀ K : KD, K (.bl (h i)) M → we (ρ.set j (some (.int (i : Int)))) M K)
    (q : Q (.lst ((ps.map h).map .bl)) M) : wLcL (wgName j) wYes we AnyM ρ (nums ps) [] M Q := by
  refine lc_pure (fun d => match d with | .int i => .bl (h i.toNat) | _ => .non) True.intro _ [] ?_ (fun d hd K hK => ?_) ?_
  · unfold nums
    rw [List.length_map]
    simp only [List.length_nil]
    omega
  · obtain ⟨p, hp, rfl⟩ := List.mem_map.mp hd
    exact hs p hp K hK
  · have e : (nums ps).map (fun d => match d with | .int i => D.bl (h i.toNat) | _ => .non) = (ps.map h).map D.bl := by
      unfold nums
      rw [List.map_map, List.map_map]
      rfl
    rw [List.nil_append, e]
    exact q
theorem ixv_i {v : List Int} {i : Nat} {M : Mp} {Q : KD} (h : i < v.length) : ixD (vec v) (.int (i : Int)) M Q ↔ Q (.int (v.getD i 0)) M := by
  constructor
  · rintro ⟨ds, x, e, e2, q⟩
    cases e
    rw [atI_nat h] at e2
    cases e2
    exact q
  · exact fun q => ⟨_, _, rfl, atI_nat h, q⟩
theorem wp__law_holds : ∀ ds M Q R, F__law_holds ds M Q R → W__law_holds { nx := fun _ M' => Q .non M', rt := Q, xr := R } (startE 6 ds) M := by
  rintro ds M Q R ⟨k, r, v, p, rfl, hp, ok, hv, q⟩
  have sv := vk_sm hp (by decide) hv
  unfold W__law_holds
  have lv := hv.1
  cases r with
  | box l h =>
    have ll := ok.1.1
    have lh := ok.2.1.1
    unfold Rg.d
    refine seq_gen fun K hK => ?_
    simp (disch := first | assumption | decide) only [wSeq, wNext, wAsg, wgName, wIfS, wB, wOp, wVar, wC, wCall, wCallK, wCons, wNil, wRet, wRetN, wDrop, wTup, wLst, wIf, wAnd, wOr, wNot, wAndV, wOrV, wNotV, wNeg, wChain, fI, fI0, addD, fLt, fLe, fGt, fGe, fIsB, wCB, fAbs, f2I, fInt, fIsq, wPar, wPar3, permD, startE, List.map_cons, List.map_nil, List.cons_append, List.nil_append, List.append_nil, List.length_cons, List.length_nil, List.replicate, List.getElem?_cons_zero, List.getElem?_cons_succ, List.set_cons_zero, List.set_cons_succ, List.getD_cons_zero, List.getD_cons_succ, Nat.reduceAdd, Nat.reduceSub, Nat.zero_add, true_and, and_true, Bool.not_true, Bool.not_false, if_true, if_false, Bool.false_eq_true, reduceIte, decide_eq_true_eq, Bool.not_eq_true', decide_eq_false_iff_not, eqV_int, eqV_str, eqV_bl, decide_true, reduceCtorEq, not_true_eq_false, not_false_eq_true, Bool.not_eq_true, List.not_mem_nil, false_implies, implies_true, Int.reduceNeg, Int.reduceToNat, Int.reducePow, Int.reduceMul, Int.reduceAdd, draw_i, ix_t0, ix_t1, ix_t2, ix_t3, ix_m3, ix_m4, sn_ball_box, sn_cell_box, sn_cell_ball, sn_ball_cell, sn_box_ball, sn_box_cell, decide_false]
    simp (disch := first | assumption | decide) only [wSeq, wNext, wAsg, wgName, wIfS, wB, wOp, wVar, wC, wCall, wCallK, wCons, wNil, wRet, wRetN, wDrop, wTup, wLst, wIf, wAnd, wOr, wNot, wAndV, wOrV, wNotV, wNeg, wChain, fI, fI0, addD, fLt, fLe, fGt, fGe, fIsB, wCB, fAbs, f2I, fInt, fIsq, wPar, wPar3, permD, startE, List.map_cons, List.map_nil, List.cons_append, List.nil_append, List.append_nil, List.length_cons, List.length_nil, List.replicate, List.getElem?_cons_zero, List.getElem?_cons_succ, List.set_cons_zero, List.set_cons_succ, List.getD_cons_zero, List.getD_cons_succ, Nat.reduceAdd, Nat.reduceSub, Nat.zero_add, true_and, and_true, Bool.not_true, Bool.not_false, if_true, if_false, Bool.false_eq_true, reduceIte, decide_eq_true_eq, Bool.not_eq_true', decide_eq_false_iff_not, eqV_int, eqV_str, eqV_bl, decide_true, reduceCtorEq, not_true_eq_false, not_false_eq_true, Bool.not_eq_true, List.not_mem_nil, false_implies, implies_true, Int.reduceNeg, Int.reduceToNat, Int.reducePow, Int.reduceMul, Int.reduceAdd, draw_i, ix_t0, ix_t1, ix_t2, ix_t3, ix_m3, ix_m4, sn_ball_box, sn_cell_box, sn_cell_ball, sn_ball_cell, sn_box_ball, sn_box_cell, decide_false, wLc, wiRange1, wipeE, len_vec]
    refine ⟨by omega, by omega, ?_⟩
    rw [Int.toNat_natCast, nums_range]
    refine lc_numsb (fun i => decide (l.getD i 0 ≤ v.getD i 0 ∧ v.getD i 0 ≤ h.getD i 0)) _ (by rw [List.length_range]; omega) (fun i hi K hK => ?_) ?_
    · have hi := List.mem_range.mp hi
      have h1 : i < l.length := by omega
      have h2 : i < h.length := by omega
      simp (disch := first | assumption | decide) only [wSeq, wNext, wAsg, wgName, wIfS, wB, wOp, wVar, wC, wCall, wCallK, wCons, wNil, wRet, wRetN, wDrop, wTup, wLst, wIf, wAnd, wOr, wNot, wAndV, wOrV, wNotV, wNeg, wChain, fI, fI0, addD, fLt, fLe, fGt, fGe, fIsB, wCB, fAbs, f2I, fInt, fIsq, wPar, wPar3, permD, startE, List.map_cons, List.map_nil, List.cons_append, List.nil_append, List.append_nil, List.length_cons, List.length_nil, List.replicate, List.getElem?_cons_zero, List.getElem?_cons_succ, List.set_cons_zero, List.set_cons_succ, List.getD_cons_zero, List.getD_cons_succ, Nat.reduceAdd, Nat.reduceSub, Nat.zero_add, true_and, and_true, Bool.not_true, Bool.not_false, if_true, if_false, Bool.false_eq_true, reduceIte, decide_eq_true_eq, Bool.not_eq_true', decide_eq_false_iff_not, eqV_int, eqV_str, eqV_bl, decide_true, reduceCtorEq, not_true_eq_false, not_false_eq_true, Bool.not_eq_true, List.not_mem_nil, false_implies, implies_true, Int.reduceNeg, Int.reduceToNat, Int.reducePow, Int.reduceMul, Int.reduceAdd, draw_i, ix_t0, ix_t1, ix_t2, ix_t3, ix_m3, ix_m4, sn_ball_box, sn_cell_box, sn_cell_ball, sn_ball_cell, sn_box_ball, sn_box_cell, decide_false, ixv_i]
      exact chain_le hK
    · refine all_bls _ ?_
      rw [all_range]
      have e : inBox l h v = (List.range v.length).all fun i => decide (l.getD i 0 ≤ v.getD i 0 ∧ v.getD i 0 ≤ h.getD i 0) := by
        unfold inBox
        have : min (min l.length v.length) h.length = v.length := by omega
        rw [this]
      rw [← e]
      exact q
  | ball c r =>
    have sc := vk_sm hp (by decide) ok.1
    have lc := ok.1.1
    have dn := dist_nn k c v
    refine seq_gen fun K hK => ?_
    unfold Rg.d
    simp (disch := first | assumption | decide) only [wSeq, wNext, wAsg, wgName, wIfS, wB, wOp, wVar, wC, wCall, wCallK, wCons, wNil, wRet, wRetN, wDrop, wTup, wLst, wIf, wAnd, wOr, wNot, wAndV, wOrV, wNotV, wNeg, wChain, fI, fI0, addD, fLt, fLe, fGt, fGe, fIsB, wCB, fAbs, f2I, fInt, fIsq, wPar, wPar3, permD, startE, List.map_cons, List.map_nil, List.cons_append, List.nil_append, List.append_nil, List.length_cons, List.length_nil, List.replicate, List.getElem?_cons_zero, List.getElem?_cons_succ, List.set_cons_zero, List.set_cons_succ, List.getD_cons_zero, List.getD_cons_succ, Nat.reduceAdd, Nat.reduceSub, Nat.zero_add, true_and, and_true, Bool.not_true, Bool.not_false, if_true, if_false, Bool.false_eq_true, reduceIte, decide_eq_true_eq, Bool.not_eq_true', decide_eq_false_iff_not, eqV_int, eqV_str, eqV_bl, decide_true, reduceCtorEq, not_true_eq_false, not_false_eq_true, Bool.not_eq_true, List.not_mem_nil, false_implies, implies_true, Int.reduceNeg, Int.reduceToNat, Int.reducePow, Int.reduceMul, Int.reduceAdd, draw_i, ix_t0, ix_t1, ix_t2, ix_t3, ix_m3, ix_m4, sn_ball_box, sn_cell_box, sn_cell_ball, sn_ball_cell, sn_box_ball, sn_box_cell, decide_false]
    subst hK
    refine seq_gen fun K hK => ?_
    simp (disch := first | assumption | decide) only [wSeq, wNext, wAsg, wgName, wIfS, wB, wOp, wVar, wC, wCall, wCallK, wCons, wNil, wRet, wRetN, wDrop, wTup, wLst, wIf, wAnd, wOr, wNot, wAndV, wOrV, wNotV, wNeg, wChain, fI, fI0, addD, fLt, fLe, fGt, fGe, fIsB, wCB, fAbs, f2I, fInt, fIsq, wPar, wPar3, permD, startE, List.map_cons, List.map_nil, List.cons_append, List.nil_append, List.append_nil, List.length_cons, List.length_nil, List.replicate, List.getElem?_cons_zero, List.getElem?_cons_succ, List.set_cons_zero, List.set_cons_succ, List.getD_cons_zero, List.getD_cons_succ, Nat.reduceAdd, Nat.reduceSub, Nat.zero_add, true_and, and_true, Bool.not_true, Bool.not_false, if_true, if_false, Bool.false_eq_true, reduceIte, decide_eq_true_eq, Bool.not_eq_true', decide_eq_false_iff_not, eqV_int, eqV_str, eqV_bl, decide_true, reduceCtorEq, not_true_eq_false, not_false_eq_true, Bool.not_eq_true, List.not_mem_nil, false_implies, implies_true, Int.reduceNeg, Int.reduceToNat, Int.reducePow, Int.reduceMul, Int.reduceAdd, draw_i, ix_t0, ix_t1, ix_t2, ix_t3, ix_m3, ix_m4, sn_ball_box, sn_cell_box, sn_cell_ball, sn_ball_cell, sn_box_ball, sn_box_cell, decide_false, wgTup, wgCons, wgNil]
    refine shell_i (r := .ball c r) rfl ?_
    simp (disch := first | assumption | decide) only [wSeq, wNext, wAsg, wgName, wIfS, wB, wOp, wVar, wC, wCall, wCallK, wCons, wNil, wRet, wRetN, wDrop, wTup, wLst, wIf, wAnd, wOr, wNot, wAndV, wOrV, wNotV, wNeg, wChain, fI, fI0, addD, fLt, fLe, fGt, fGe, fIsB, wCB, fAbs, f2I, fInt, fIsq, wPar, wPar3, permD, startE, List.map_cons, List.map_nil, List.cons_append, List.nil_append, List.append_nil, List.length_cons, List.length_nil, List.replicate, List.getElem?_cons_zero, List.getElem?_cons_succ, List.set_cons_zero, List.set_cons_succ, List.getD_cons_zero, List.getD_cons_succ, Nat.reduceAdd, Nat.reduceSub, Nat.zero_add, true_and, and_true, Bool.not_true, Bool.not_false, if_true, if_false, Bool.false_eq_true, reduceIte, decide_eq_true_eq, Bool.not_eq_true', decide_eq_false_iff_not, eqV_int, eqV_str, eqV_bl, decide_true, reduceCtorEq, not_true_eq_false, not_false_eq_true, Bool.not_eq_true, List.not_mem_nil, false_implies, implies_true, Int.reduceNeg, Int.reduceToNat, Int.reducePow, Int.reduceMul, Int.reduceAdd, draw_i, ix_t0, ix_t1, ix_t2, ix_t3, ix_m3, ix_m4, sn_ball_box, sn_cell_box, sn_cell_ball, sn_ball_cell, sn_box_ball, sn_box_cell, decide_false, wgTup, wgCons, wgNil]
    subst hK
    simp (disch := first | assumption | decide) only [wSeq, wNext, wAsg, wgName, wIfS, wB, wOp, wVar, wC, wCall, wCallK, wCons, wNil, wRet, wRetN, wDrop, wTup, wLst, wIf, wAnd, wOr, wNot, wAndV, wOrV, wNotV, wNeg, wChain, fI, fI0, addD, fLt, fLe, fGt, fGe, fIsB, wCB, fAbs, f2I, fInt, fIsq, wPar, wPar3, permD, startE, List.map_cons, List.map_nil, List.cons_append, List.nil_append, List.append_nil, List.length_cons, List.length_nil, List.replicate, List.getElem?_cons_zero, List.getElem?_cons_succ, List.set_cons_zero, List.set_cons_succ, List.getD_cons_zero, List.getD_cons_succ, Nat.reduceAdd, Nat.reduceSub, Nat.zero_add, true_and, and_true, Bool.not_true, Bool.not_false, if_true, if_false, Bool.false_eq_true, reduceIte, decide_eq_true_eq, Bool.not_eq_true', decide_eq_false_iff_not, eqV_int, eqV_str, eqV_bl, decide_true, reduceCtorEq, not_true_eq_false, not_false_eq_true, Bool.not_eq_true, List.not_mem_nil, false_implies, implies_true, Int.reduceNeg, Int.reduceToNat, Int.reducePow, Int.reduceMul, Int.reduceAdd, draw_i, ix_t0, ix_t1, ix_t2, ix_t3, ix_m3, ix_m4, sn_ball_box, sn_cell_box, sn_cell_ball, sn_ball_cell, sn_box_ball, sn_box_cell, decide_false]
    refine ldist_i (by omega) sc sv ?_
    refine chain_le ?_
    have e : decide (0 ≤ distI k c v ∧ distI k c v ≤ r) = decide (distI k c v ≤ r) := decide_eq_decide.mpr ⟨fun z => z.2, fun z => ⟨dn, z⟩⟩
    rw [e]
    exact q
  | cell c a b =>
    have sc := vk_sm hp (by decide) ok.1
    have lc := ok.1.1
    refine seq_gen fun K hK => ?_
    unfold Rg.d
    simp (disch := first | assumption | decide) only [wSeq, wNext, wAsg, wgName, wIfS, wB, wOp, wVar, wC, wCall, wCallK, wCons, wNil, wRet, wRetN, wDrop, wTup, wLst, wIf, wAnd, wOr, wNot, wAndV, wOrV, wNotV, wNeg, wChain, fI, fI0, addD, fLt, fLe, fGt, fGe, fIsB, wCB, fAbs, f2I, fInt, fIsq, wPar, wPar3, permD, startE, List.map_cons, List.map_nil, List.cons_append, List.nil_append, List.append_nil, List.length_cons, List.length_nil, List.replicate, List.getElem?_cons_zero, List.getElem?_cons_succ, List.set_cons_zero, List.set_cons_succ, List.getD_cons_zero, List.getD_cons_succ, Nat.reduceAdd, Nat.reduceSub, Nat.zero_add, true_and, and_true, Bool.not_true, Bool.not_false, if_true, if_false, Bool.false_eq_true, reduceIte, decide_eq_true_eq, Bool.not_eq_true', decide_eq_false_iff_not, eqV_int, eqV_str, eqV_bl, decide_true, reduceCtorEq, not_true_eq_false, not_false_eq_true, Bool.not_eq_true, List.not_mem_nil, false_implies, implies_true, Int.reduceNeg, Int.reduceToNat, Int.reducePow, Int.reduceMul, Int.reduceAdd, draw_i, ix_t0, ix_t1, ix_t2, ix_t3, ix_m3, ix_m4, sn_ball_box, sn_cell_box, sn_cell_ball, sn_ball_cell, sn_box_ball, sn_box_cell, decide_false]
    subst hK
    refine seq_gen fun K hK => ?_
    simp (disch := first | assumption | decide) only [wSeq, wNext, wAsg, wgName, wIfS, wB, wOp, wVar, wC, wCall, wCallK, wCons, wNil, wRet, wRetN, wDrop, wTup, wLst, wIf, wAnd, wOr, wNot, wAndV, wOrV, wNotV, wNeg, wChain, fI, fI0, addD, fLt, fLe, fGt, fGe, fIsB, wCB, fAbs, f2I, fInt, fIsq, wPar, wPar3, permD, startE, List.map_cons, List.map_nil, List.cons_append, List.nil_append, List.append_nil, List.length_cons, List.length_nil, List.replicate, List.getElem?_cons_zero, List.getElem?_cons_succ, List.set_cons_zero, List.set_cons_succ, List.getD_cons_zero, List.getD_cons_succ, Nat.reduceAdd, Nat.reduceSub, Nat.zero_add, true_and, and_true, Bool.not_true, Bool.not_false, if_true, if_false, Bool.false_eq_true, reduceIte, decide_eq_true_eq, Bool.not_eq_true', decide_eq_false_iff_not, eqV_int, eqV_str, eqV_bl, decide_true, reduceCtorEq, not_true_eq_false, not_false_eq_true, Bool.not_eq_true, List.not_mem_nil, false_implies, implies_true, Int.reduceNeg, Int.reduceToNat, Int.reducePow, Int.reduceMul, Int.reduceAdd, draw_i, ix_t0, ix_t1, ix_t2, ix_t3, ix_m3, ix_m4, sn_ball_box, sn_cell_box, sn_cell_ball, sn_ball_cell, sn_box_ball, sn_box_cell, decide_false, wgTup, wgCons, wgNil]
    refine shell_i (r := .cell c a b) rfl ?_
    simp (disch := first | assumption | decide) only [wSeq, wNext, wAsg, wgName, wIfS, wB, wOp, wVar, wC, wCall, wCallK, wCons, wNil, wRet, wRetN, wDrop, wTup, wLst, wIf, wAnd, wOr, wNot, wAndV, wOrV, wNotV, wNeg, wChain, fI, fI0, addD, fLt, fLe, fGt, fGe, fIsB, wCB, fAbs, f2I, fInt, fIsq, wPar, wPar3, permD, startE, List.map_cons, List.map_nil, List.cons_append, List.nil_append, List.append_nil, List.length_cons, List.length_nil, List.replicate, List.getElem?_cons_zero, List.getElem?_cons_succ, List.set_cons_zero, List.set_cons_succ, List.getD_cons_zero, List.getD_cons_succ, Nat.reduceAdd, Nat.reduceSub, Nat.zero_add, true_and, and_true, Bool.not_true, Bool.not_false, if_true, if_false, Bool.false_eq_true, reduceIte, decide_eq_true_eq, Bool.not_eq_true', decide_eq_false_iff_not, eqV_int, eqV_str, eqV_bl, decide_true, reduceCtorEq, not_true_eq_false, not_false_eq_true, Bool.not_eq_true, List.not_mem_nil, false_implies, implies_true, Int.reduceNeg, Int.reduceToNat, Int.reducePow, Int.reduceMul, Int.reduceAdd, draw_i, ix_t0, ix_t1, ix_t2, ix_t3, ix_m3, ix_m4, sn_ball_box, sn_cell_box, sn_cell_ball, sn_ball_cell, sn_box_ball, sn_box_cell, decide_false, wgTup, wgCons, wgNil]
    subst hK
    simp (disch := first | assumption | decide) only [wSeq, wNext, wAsg, wgName, wIfS, wB, wOp, wVar, wC, wCall, wCallK, wCons, wNil, wRet, wRetN, wDrop, wTup, wLst, wIf, wAnd, wOr, wNot, wAndV, wOrV, wNotV, wNeg, wChain, fI, fI0, addD, fLt, fLe, fGt, fGe, fIsB, wCB, fAbs, f2I, fInt, fIsq, wPar, wPar3, permD, startE, List.map_cons, List.map_nil, List.cons_append, List.nil_append, List.append_nil, List.length_cons, List.length_nil, List.replicate, List.getElem?_cons_zero, List.getElem?_cons_succ, List.set_cons_zero, List.set_cons_succ, List.getD_cons_zero, List.getD_cons_succ, Nat.reduceAdd, Nat.reduceSub, Nat.zero_add, true_and, and_true, Bool.not_true, Bool.not_false, if_true, if_false, Bool.false_eq_true, reduceIte, decide_eq_true_eq, Bool.not_eq_true', decide_eq_false_iff_not, eqV_int, eqV_str, eqV_bl, decide_true, reduceCtorEq, not_true_eq_false, not_false_eq_true, Bool.not_eq_true, List.not_mem_nil, false_implies, implies_true, Int.reduceNeg, Int.reduceToNat, Int.reducePow, Int.reduceMul, Int.reduceAdd, draw_i, ix_t0, ix_t1, ix_t2, ix_t3, ix_m3, ix_m4, sn_ball_box, sn_cell_box, sn_cell_ball, sn_ball_cell, sn_box_ball, sn_box_cell, decide_false]
    refine ldist_i (by omega) sc sv ?_
    exact chain_le q
/-! nearest and farthest vectors of boxes -/
def nearV (p : Nat) (l h v : List Int) : List Int := (List.range p).map fun i => if h.getD i 0 < (if l.getD i 0 > v.getD i 0 then l.getD i 0 else v.getD i 0) then h.getD i 0 else (if l.getD i 0 > v.getD i 0 then l.getD i 0 else v.getD i 0)
theorem get_range {p i : Nat} (f : Nat → Int) (h : i < p) : ((List.range p).map f).getD i 0 = f i := by
  rw [List.getD_eq_getElem?_getD, List.getElem?_map, List.getElem?_range h]
  rfl
theorem join_congr (k : Str) {ps : List Nat} {f g : Nat → Int} (h : ∀ i ∈ ps, f i = g i) : joinI k (ps.map f) = joinI k (ps.map g) := by
  rw [List.map_congr_left h]
theorem part_pm (k : Str) {a b : Int} (h : a = b ∨ a = -b) : partI k a = partI k b := by
  rcases h with rfl | rfl
  · rfl
  · exact part_neg k b
theorem near_dist {k : Str} {p : Nat} {l h v : List Int} (ok : rgOk p (.box l h)) (hv : v.length = p) : distI k v (nearV p l h v) = floorI k (.box l h) v := by
  have ln : (nearV p l h v).length = p := by unfold nearV; rw [List.length_map, List.length_range]
  show _ = joinI k ((nearL l h v).map (partI k))
  rw [dist_ix hv ln, near_ix ok.1.1 ok.2.1.1 hv]
  refine join_congr k fun i hi => part_pm k ?_
  have hi := List.mem_range.mp hi
  have lh := ok.2.2 i hi
  unfold nearV mx3
  rw [get_range _ hi]
  split <;> split <;> (try split) <;> omega
theorem near_held {k : Str} {p : Nat} {l h v : List Int} (ok : rgOk p (.box l h)) : holdB k (.box l h) (nearV p l h v) = true := by
  have ln : (nearV p l h v).length = p := by unfold nearV; rw [List.length_map, List.length_range]
  refine (box_at ok.1.1 ok.2.1.1 ln).mpr fun i hi => ?_
  have lh := ok.2.2 i hi
  unfold nearV
  rw [get_range _ hi]
  split <;> (try split) <;> omega
theorem near_vk {p : Nat} {l h v : List Int} (ok : rgOk p (.box l h)) (hv : vk p 60000 v) : vk p 60000 (nearV p l h v) := by
  refine ⟨by unfold nearV; rw [List.length_map, List.length_range], fun a ha => ?_⟩
  unfold nearV at ha
  obtain ⟨i, _, rfl⟩ := List.mem_map.mp ha
  have a1 := get_vk ok.1 (by decide) i
  have a2 := get_vk ok.2.1 (by decide) i
  have a3 := get_vk hv (by decide) i
  split <;> (try split) <;> omega
theorem far_dist {k : Str} {p : Nat} {l h v : List Int} (ok : rgOk p (.box l h)) (hv : v.length = p) (f : Nat → Int) (hf : ∀ i, i < p → partI k (v.getD i 0 - f i) = partI k (mx2 (v.getD i 0 - l.getD i 0) (h.getD i 0 - v.getD i 0))) : distI k v ((List.range p).map f) = ceilI k (.box l h) v := by
  have ln : ((List.range p).map f).length = p := by rw [List.length_map, List.length_range]
  show _ = joinI k ((farL l h v).map (partI k))
  rw [dist_ix hv ln, far_ix ok.1.1 ok.2.1.1 hv]
  refine join_congr k fun i hi => ?_
  have hi := List.mem_range.mp hi
  rw [get_range _ hi]
  exact hf i hi
theorem wp__law_floor : ∀ ds M Q R, F__law_floor ds M Q R → W__law_floor { nx := fun _ M' => Q .non M', rt := Q, xr := R } (startE 8 ds) M := by
  rintro ds M Q R ⟨k, r, v, p, rfl, hp, ok, hv, q⟩
  have sv := vk_sm hp (by decide) hv
  unfold W__law_floor
  have lv := hv.1
  cases r with
  | box l h =>
    have ll := ok.1.1
    have lh := ok.2.1.1
    unfold Rg.d
    refine seq_gen fun K hK => ?_
    simp (disch := first | assumption | decide) only [wSeq, wNext, wAsg, wgName, wIfS, wB, wOp, wVar, wC, wCall, wCallK, wCons, wNil, wRet, wRetN, wDrop, wTup, wLst, wIf, wAnd, wOr, wNot, wAndV, wOrV, wNotV, wNeg, wChain, fI, fI0, addD, fLt, fLe, fGt, fGe, fIsB, wCB, fAbs, f2I, fInt, fIsq, wPar, wPar3, permD, startE, List.map_cons, List.map_nil, List.cons_append, List.nil_append, List.append_nil, List.length_cons, List.length_nil, List.replicate, List.getElem?_cons_zero, List.getElem?_cons_succ, List.set_cons_zero, List.set_cons_succ, List.getD_cons_zero, List.getD_cons_succ, Nat.reduceAdd, Nat.reduceSub, Nat.zero_add, true_and, and_true, Bool.not_true, Bool.not_false, if_true, if_false, Bool.false_eq_true, reduceIte, decide_eq_true_eq, Bool.not_eq_true', decide_eq_false_iff_not, eqV_int, eqV_str, eqV_bl, decide_true, reduceCtorEq, not_true_eq_false, not_false_eq_true, Bool.not_eq_true, List.not_mem_nil, false_implies, implies_true, Int.reduceNeg, Int.reduceToNat, Int.reducePow, Int.reduceMul, Int.reduceAdd, draw_i, ix_t0, ix_t1, ix_t2, ix_t3, ix_m3, ix_m4, sn_ball_box, sn_cell_box, sn_cell_ball, sn_ball_cell, sn_box_ball, sn_box_cell, decide_false]
    simp (disch := first | assumption | decide) only [wSeq, wNext, wAsg, wgName, wIfS, wB, wOp, wVar, wC, wCall, wCallK, wCons, wNil, wRet, wRetN, wDrop, wTup, wLst, wIf, wAnd, wOr, wNot, wAndV, wOrV, wNotV, wNeg, wChain, fI, fI0, addD, fLt, fLe, fGt, fGe, fIsB, wCB, fAbs, f2I, fInt, fIsq, wPar, wPar3, permD, startE, List.map_cons, List.map_nil, List.cons_append, List.nil_append, List.append_nil, List.length_cons, List.length_nil, List.replicate, List.getElem?_cons_zero, List.getElem?_cons_succ, List.set_cons_zero, List.set_cons_succ, List.getD_cons_zero, List.getD_cons_succ, Nat.reduceAdd, Nat.reduceSub, Nat.zero_add, true_and, and_true, Bool.not_true, Bool.not_false, if_true, if_false, Bool.false_eq_true, reduceIte, decide_eq_true_eq, Bool.not_eq_true', decide_eq_false_iff_not, eqV_int, eqV_str, eqV_bl, decide_true, reduceCtorEq, not_true_eq_false, not_false_eq_true, Bool.not_eq_true, List.not_mem_nil, false_implies, implies_true, Int.reduceNeg, Int.reduceToNat, Int.reducePow, Int.reduceMul, Int.reduceAdd, draw_i, ix_t0, ix_t1, ix_t2, ix_t3, ix_m3, ix_m4, sn_ball_box, sn_cell_box, sn_cell_ball, sn_ball_cell, sn_box_ball, sn_box_cell, decide_false, wLc, wiRange1, wipeE, len_vec]
    refine ⟨by omega, by omega, ?_⟩
    rw [Int.toNat_natCast, nums_range, lv]
    refine lc_nums (fun i => if h.getD i 0 < (if l.getD i 0 > v.getD i 0 then l.getD i 0 else v.getD i 0) then h.getD i 0 else (if l.getD i 0 > v.getD i 0 then l.getD i 0 else v.getD i 0)) _ (by rw [List.length_range]; omega) (fun i hi K hK => ?_) ?_
    · have hi := List.mem_range.mp hi
      have h1 : i < l.length := by omega
      have h2 : i < h.length := by omega
      have h3 : i < v.length := by omega
      simp (disch := first | assumption | decide) only [wSeq, wNext, wAsg, wgName, wIfS, wB, wOp, wVar, wC, wCall, wCallK, wCons, wNil, wRet, wRetN, wDrop, wTup, wLst, wIf, wAnd, wOr, wNot, wAndV, wOrV, wNotV, wNeg, wChain, fI, fI0, addD, fLt, fLe, fGt, fGe, fIsB, wCB, fAbs, f2I, fInt, fIsq, wPar, wPar3, permD, startE, List.map_cons, List.map_nil, List.cons_append, List.nil_append, List.append_nil, List.length_cons, List.length_nil, List.replicate, List.getElem?_cons_zero, List.getElem?_cons_succ, List.set_cons_zero, List.set_cons_succ, List.getD_cons_zero, List.getD_cons_succ, Nat.reduceAdd, Nat.reduceSub, Nat.zero_add, true_and, and_true, Bool.not_true, Bool.not_false, if_true, if_false, Bool.false_eq_true, reduceIte, decide_eq_true_eq, Bool.not_eq_true', decide_eq_false_iff_not, eqV_int, eqV_str, eqV_bl, decide_true, reduceCtorEq, not_true_eq_false, not_false_eq_true, Bool.not_eq_true, List.not_mem_nil, false_implies, implies_true, Int.reduceNeg, Int.reduceToNat, Int.reducePow, Int.reduceMul, Int.reduceAdd, draw_i, ix_t0, ix_t1, ix_t2, ix_t3, ix_m3, ix_m4, sn_ball_box, sn_cell_box, sn_cell_ball, sn_ball_cell, sn_box_ball, sn_box_cell, decide_false, ixv_i]
      exact hK
    · have nv := near_vk ok hv
      refine ldist_l (u := nearV p l h v) (by rw [nv.1]; omega) sv (vk_sm hp (by decide) nv) ?_
      rw [near_dist ok lv]
      exact q
  | ball c r =>
    have sc := vk_sm hp (by decide) ok.1
    have lc := ok.1.1
    have nd := dist_nc (k := k) hp hv (vk_up ok.1 (by decide))
    have nr : nc r := ⟨ok.2.1, by have := ok.2.2; omega⟩
    refine seq_gen fun K hK => ?_
    unfold Rg.d
    simp (disch := first | assumption | decide) only [wSeq, wNext, wAsg, wgName, wIfS, wB, wOp, wVar, wC, wCall, wCallK, wCons, wNil, wRet, wRetN, wDrop, wTup, wLst, wIf, wAnd, wOr, wNot, wAndV, wOrV, wNotV, wNeg, wChain, fI, fI0, addD, fLt, fLe, fGt, fGe, fIsB, wCB, fAbs, f2I, fInt, fIsq, wPar, wPar3, permD, startE, List.map_cons, List.map_nil, List.cons_append, List.nil_append, List.append_nil, List.length_cons, List.length_nil, List.replicate, List.getElem?_cons_zero, List.getElem?_cons_succ, List.set_cons_zero, List.set_cons_succ, List.getD_cons_zero, List.getD_cons_succ, Nat.reduceAdd, Nat.reduceSub, Nat.zero_add, true_and, and_true, Bool.not_true, Bool.not_false, if_true, if_false, Bool.false_eq_true, reduceIte, decide_eq_true_eq, Bool.not_eq_true', decide_eq_false_iff_not, eqV_int, eqV_str, eqV_bl, decide_true, reduceCtorEq, not_true_eq_false, not_false_eq_true, Bool.not_eq_true, List.not_mem_nil, false_implies, implies_true, Int.reduceNeg, Int.reduceToNat, Int.reducePow, Int.reduceMul, Int.reduceAdd, draw_i, ix_t0, ix_t1, ix_t2, ix_t3, ix_m3, ix_m4, sn_ball_box, sn_cell_box, sn_cell_ball, sn_ball_cell, sn_box_ball, sn_box_cell, decide_false]
    subst hK
    refine seq_gen fun K hK => ?_
    simp (disch := first | assumption | decide) only [wSeq, wNext, wAsg, wgName, wIfS, wB, wOp, wVar, wC, wCall, wCallK, wCons, wNil, wRet, wRetN, wDrop, wTup, wLst, wIf, wAnd, wOr, wNot, wAndV, wOrV, wNotV, wNeg, wChain, fI, fI0, addD, fLt, fLe, fGt, fGe, fIsB, wCB, fAbs, f2I, fInt, fIsq, wPar, wPar3, permD, startE, List.map_cons, List.map_nil, List.cons_append, List.nil_append, List.append_nil, List.length_cons, List.length_nil, List.replicate, List.getElem?_cons_zero, List.getElem?_cons_succ, List.set_cons_zero, List.set_cons_succ, List.getD_cons_zero, List.getD_cons_succ, Nat.reduceAdd, Nat.reduceSub, Nat.zero_add, true_and, and_true, Bool.not_true, Bool.not_false, if_true, if_false, Bool.false_eq_true, reduceIte, decide_eq_true_eq, Bool.not_eq_true', decide_eq_false_iff_not, eqV_int, eqV_str, eqV_bl, decide_true, reduceCtorEq, not_true_eq_false, not_false_eq_true, Bool.not_eq_true, List.not_mem_nil, false_implies, implies_true, Int.reduceNeg, Int.reduceToNat, Int.reducePow, Int.reduceMul, Int.reduceAdd, draw_i, ix_t0, ix_t1, ix_t2, ix_t3, ix_m3, ix_m4, sn_ball_box, sn_cell_box, sn_cell_ball, sn_ball_cell, sn_box_ball, sn_box_cell, decide_false, wgTup, wgCons, wgNil]
    refine shell_i (r := .ball c r) rfl ?_
    simp (disch := first | assumption | decide) only [wSeq, wNext, wAsg, wgName, wIfS, wB, wOp, wVar, wC, wCall, wCallK, wCons, wNil, wRet, wRetN, wDrop, wTup, wLst, wIf, wAnd, wOr, wNot, wAndV, wOrV, wNotV, wNeg, wChain, fI, fI0, addD, fLt, fLe, fGt, fGe, fIsB, wCB, fAbs, f2I, fInt, fIsq, wPar, wPar3, permD, startE, List.map_cons, List.map_nil, List.cons_append, List.nil_append, List.append_nil, List.length_cons, List.length_nil, List.replicate, List.getElem?_cons_zero, List.getElem?_cons_succ, List.set_cons_zero, List.set_cons_succ, List.getD_cons_zero, List.getD_cons_succ, Nat.reduceAdd, Nat.reduceSub, Nat.zero_add, true_and, and_true, Bool.not_true, Bool.not_false, if_true, if_false, Bool.false_eq_true, reduceIte, decide_eq_true_eq, Bool.not_eq_true', decide_eq_false_iff_not, eqV_int, eqV_str, eqV_bl, decide_true, reduceCtorEq, not_true_eq_false, not_false_eq_true, Bool.not_eq_true, List.not_mem_nil, false_implies, implies_true, Int.reduceNeg, Int.reduceToNat, Int.reducePow, Int.reduceMul, Int.reduceAdd, draw_i, ix_t0, ix_t1, ix_t2, ix_t3, ix_m3, ix_m4, sn_ball_box, sn_cell_box, sn_cell_ball, sn_ball_cell, sn_box_ball, sn_box_cell, decide_false, wgTup, wgCons, wgNil]
    subst hK
    refine seq_gen fun K hK => ?_
    simp (disch := first | assumption | decide) only [wSeq, wNext, wAsg, wgName, wIfS, wB, wOp, wVar, wC, wCall, wCallK, wCons, wNil, wRet, wRetN, wDrop, wTup, wLst, wIf, wAnd, wOr, wNot, wAndV, wOrV, wNotV, wNeg, wChain, fI, fI0, addD, fLt, fLe, fGt, fGe, fIsB, wCB, fAbs, f2I, fInt, fIsq, wPar, wPar3, permD, startE, List.map_cons, List.map_nil, List.cons_append, List.nil_append, List.append_nil, List.length_cons, List.length_nil, List.replicate, List.getElem?_cons_zero, List.getElem?_cons_succ, List.set_cons_zero, List.set_cons_succ, List.getD_cons_zero, List.getD_cons_succ, Nat.reduceAdd, Nat.reduceSub, Nat.zero_add, true_and, and_true, Bool.not_true, Bool.not_false, if_true, if_false, Bool.false_eq_true, reduceIte, decide_eq_true_eq, Bool.not_eq_true', decide_eq_false_iff_not, eqV_int, eqV_str, eqV_bl, decide_true, reduceCtorEq, not_true_eq_false, not_false_eq_true, Bool.not_eq_true, List.not_mem_nil, false_implies, implies_true, Int.reduceNeg, Int.reduceToNat, Int.reducePow, Int.reduceMul, Int.reduceAdd, draw_i, ix_t0, ix_t1, ix_t2, ix_t3, ix_m3, ix_m4, sn_ball_box, sn_cell_box, sn_cell_ball, sn_ball_cell, sn_box_ball, sn_box_cell, decide_false]
    refine ldist_i (by omega) sv sc ?_
    subst hK
    simp (disch := first | assumption | decide) only [wSeq, wNext, wAsg, wgName, wIfS, wB, wOp, wVar, wC, wCall, wCallK, wCons, wNil, wRet, wRetN, wDrop, wTup, wLst, wIf, wAnd, wOr, wNot, wAndV, wOrV, wNotV, wNeg, wChain, fI, fI0, addD, fLt, fLe, fGt, fGe, fIsB, wCB, fAbs, f2I, fInt, fIsq, wPar, wPar3, permD, startE, List.map_cons, List.map_nil, List.cons_append, List.nil_append, List.append_nil, List.length_cons, List.length_nil, List.replicate, List.getElem?_cons_zero, List.getElem?_cons_succ, List.set_cons_zero, List.set_cons_succ, List.getD_cons_zero, List.getD_cons_succ, Nat.reduceAdd, Nat.reduceSub, Nat.zero_add, true_and, and_true, Bool.not_true, Bool.not_false, if_true, if_false, Bool.false_eq_true, reduceIte, decide_eq_true_eq, Bool.not_eq_true', decide_eq_false_iff_not, eqV_int, eqV_str, eqV_bl, decide_true, reduceCtorEq, not_true_eq_false, not_false_eq_true, Bool.not_eq_true, List.not_mem_nil, false_implies, implies_true, Int.reduceNeg, Int.reduceToNat, Int.reducePow, Int.reduceMul, Int.reduceAdd, draw_i, ix_t0, ix_t1, ix_t2, ix_t3, ix_m3, ix_m4, sn_ball_box, sn_cell_box, sn_cell_ball, sn_ball_cell, sn_box_ball, sn_box_cell, decide_false, lgap_i]
    have q' : Q (.int (leastI (sq k) (distI k v c) r)) M := by
      have e := dist_comm k v c
      rw [← e]
      exact q
    unfold leastI at q'
    split
    · rename_i h
      rw [if_neg (by omega)] at q'
      exact q'
    · rename_i h
      rw [if_pos (by omega)] at q'
      have := nd.1
      rw [if_neg (by omega)]
      exact q'
  | cell c a b =>
    have sc := vk_sm hp (by decide) ok.1
    have lc := ok.1.1
    have nd := dist_nc (k := k) hp hv (vk_up ok.1 (by decide))
    have na : nc a := ⟨ok.2.1, by have := ok.2.2; omega⟩
    have nb : nc b := ⟨by have := ok.2; omega, by have := ok.2.2; omega⟩
    refine seq_gen fun K hK => ?_
    unfold Rg.d
    simp (disch := first | assumption | decide) only [wSeq, wNext, wAsg, wgName, wIfS, wB, wOp, wVar, wC, wCall, wCallK, wCons, wNil, wRet, wRetN, wDrop, wTup, wLst, wIf, wAnd, wOr, wNot, wAndV, wOrV, wNotV, wNeg, wChain, fI, fI0, addD, fLt, fLe, fGt, fGe, fIsB, wCB, fAbs, f2I, fInt, fIsq, wPar, wPar3, permD, startE, List.map_cons, List.map_nil, List.cons_append, List.nil_append, List.append_nil, List.length_cons, List.length_nil, List.replicate, List.getElem?_cons_zero, List.getElem?_cons_succ, List.set_cons_zero, List.set_cons_succ, List.getD_cons_zero, List.getD_cons_succ, Nat.reduceAdd, Nat.reduceSub, Nat.zero_add, true_and, and_true, Bool.not_true, Bool.not_false, if_true, if_false, Bool.false_eq_true, reduceIte, decide_eq_true_eq, Bool.not_eq_true', decide_eq_false_iff_not, eqV_int, eqV_str, eqV_bl, decide_true, reduceCtorEq, not_true_eq_false, not_false_eq_true, Bool.not_eq_true, List.not_mem_nil, false_implies, implies_true, Int.reduceNeg, Int.reduceToNat, Int.reducePow, Int.reduceMul, Int.reduceAdd, draw_i, ix_t0, ix_t1, ix_t2, ix_t3, ix_m3, ix_m4, sn_ball_box, sn_cell_box, sn_cell_ball, sn_ball_cell, sn_box_ball, sn_box_cell, decide_false]
    subst hK
    refine seq_gen fun K hK => ?_
    simp (disch := first | assumption | decide) only [wSeq, wNext, wAsg, wgName, wIfS, wB, wOp, wVar, wC, wCall, wCallK, wCons, wNil, wRet, wRetN, wDrop, wTup, wLst, wIf, wAnd, wOr, wNot, wAndV, wOrV, wNotV, wNeg, wChain, fI, fI0, addD, fLt, fLe, fGt, fGe, fIsB, wCB, fAbs, f2I, fInt, fIsq, wPar, wPar3, permD, startE, List.map_cons, List.map_nil, List.cons_append, List.nil_append, List.append_nil, List.length_cons, List.length_nil, List.replicate, List.getElem?_cons_zero, List.getElem?_cons_succ, List.set_cons_zero, List.set_cons_succ, List.getD_cons_zero, List.getD_cons_succ, Nat.reduceAdd, Nat.reduceSub, Nat.zero_add, true_and, and_true, Bool.not_true, Bool.not_false, if_true, if_false, Bool.false_eq_true, reduceIte, decide_eq_true_eq, Bool.not_eq_true', decide_eq_false_iff_not, eqV_int, eqV_str, eqV_bl, decide_true, reduceCtorEq, not_true_eq_false, not_false_eq_true, Bool.not_eq_true, List.not_mem_nil, false_implies, implies_true, Int.reduceNeg, Int.reduceToNat, Int.reducePow, Int.reduceMul, Int.reduceAdd, draw_i, ix_t0, ix_t1, ix_t2, ix_t3, ix_m3, ix_m4, sn_ball_box, sn_cell_box, sn_cell_ball, sn_ball_cell, sn_box_ball, sn_box_cell, decide_false, wgTup, wgCons, wgNil]
    refine shell_i (r := .cell c a b) rfl ?_
    simp (disch := first | assumption | decide) only [wSeq, wNext, wAsg, wgName, wIfS, wB, wOp, wVar, wC, wCall, wCallK, wCons, wNil, wRet, wRetN, wDrop, wTup, wLst, wIf, wAnd, wOr, wNot, wAndV, wOrV, wNotV, wNeg, wChain, fI, fI0, addD, fLt, fLe, fGt, fGe, fIsB, wCB, fAbs, f2I, fInt, fIsq, wPar, wPar3, permD, startE, List.map_cons, List.map_nil, List.cons_append, List.nil_append, List.append_nil, List.length_cons, List.length_nil, List.replicate, List.getElem?_cons_zero, List.getElem?_cons_succ, List.set_cons_zero, List.set_cons_succ, List.getD_cons_zero, List.getD_cons_succ, Nat.reduceAdd, Nat.reduceSub, Nat.zero_add, true_and, and_true, Bool.not_true, Bool.not_false, if_true, if_false, Bool.false_eq_true, reduceIte, decide_eq_true_eq, Bool.not_eq_true', decide_eq_false_iff_not, eqV_int, eqV_str, eqV_bl, decide_true, reduceCtorEq, not_true_eq_false, not_false_eq_true, Bool.not_eq_true, List.not_mem_nil, false_implies, implies_true, Int.reduceNeg, Int.reduceToNat, Int.reducePow, Int.reduceMul, Int.reduceAdd, draw_i, ix_t0, ix_t1, ix_t2, ix_t3, ix_m3, ix_m4, sn_ball_box, sn_cell_box, sn_cell_ball, sn_ball_cell, sn_box_ball, sn_box_cell, decide_false, wgTup, wgCons, wgNil]
    subst hK
    refine seq_gen fun K hK => ?_
    simp (disch := first | assumption | decide) only [wSeq, wNext, wAsg, wgName, wIfS, wB, wOp, wVar, wC, wCall, wCallK, wCons, wNil, wRet, wRetN, wDrop, wTup, wLst, wIf, wAnd, wOr, wNot, wAndV, wOrV, wNotV, wNeg, wChain, fI, fI0, addD, fLt, fLe, fGt, fGe, fIsB, wCB, fAbs, f2I, fInt, fIsq, wPar, wPar3, permD, startE, List.map_cons, List.map_nil, List.cons_append, List.nil_append, List.append_nil, List.length_cons, List.length_nil, List.replicate, List.getElem?_cons_zero, List.getElem?_cons_succ, List.set_cons_zero, List.set_cons_succ, List.getD_cons_zero, List.getD_cons_succ, Nat.reduceAdd, Nat.reduceSub, Nat.zero_add, true_and, and_true, Bool.not_true, Bool.not_false, if_true, if_false, Bool.false_eq_true, reduceIte, decide_eq_true_eq, Bool.not_eq_true', decide_eq_false_iff_not, eqV_int, eqV_str, eqV_bl, decide_true, reduceCtorEq, not_true_eq_false, not_false_eq_true, Bool.not_eq_true, List.not_mem_nil, false_implies, implies_true, Int.reduceNeg, Int.reduceToNat, Int.reducePow, Int.reduceMul, Int.reduceAdd, draw_i, ix_t0, ix_t1, ix_t2, ix_t3, ix_m3, ix_m4, sn_ball_box, sn_cell_box, sn_cell_ball, sn_ball_cell, sn_box_ball, sn_box_cell, decide_false]
    refine ldist_i (by omega) sv sc ?_
    subst hK
    simp (disch := first | assumption | decide) only [wSeq, wNext, wAsg, wgName, wIfS, wB, wOp, wVar, wC, wCall, wCallK, wCons, wNil, wRet, wRetN, wDrop, wTup, wLst, wIf, wAnd, wOr, wNot, wAndV, wOrV, wNotV, wNeg, wChain, fI, fI0, addD, fLt, fLe, fGt, fGe, fIsB, wCB, fAbs, f2I, fInt, fIsq, wPar, wPar3, permD, startE, List.map_cons, List.map_nil, List.cons_append, List.nil_append, List.append_nil, List.length_cons, List.length_nil, List.replicate, List.getElem?_cons_zero, List.getElem?_cons_succ, List.set_cons_zero, List.set_cons_succ, List.getD_cons_zero, List.getD_cons_succ, Nat.reduceAdd, Nat.reduceSub, Nat.zero_add, true_and, and_true, Bool.not_true, Bool.not_false, if_true, if_false, Bool.false_eq_true, reduceIte, decide_eq_true_eq, Bool.not_eq_true', decide_eq_false_iff_not, eqV_int, eqV_str, eqV_bl, decide_true, reduceCtorEq, not_true_eq_false, not_false_eq_true, Bool.not_eq_true, List.not_mem_nil, false_implies, implies_true, Int.reduceNeg, Int.reduceToNat, Int.reducePow, Int.reduceMul, Int.reduceAdd, draw_i, ix_t0, ix_t1, ix_t2, ix_t3, ix_m3, ix_m4, sn_ball_box, sn_cell_box, sn_cell_ball, sn_ball_cell, sn_box_ball, sn_box_cell, decide_false, lgap_i]
    have q' : Q (.int (if distI k v c < a then gapI (sq k) a (distI k v c) else leastI (sq k) (distI k v c) b)) M := by
      have e := dist_comm k v c
      rw [← e]
      exact q
    have ab := ok.2.2.1
    unfold leastI at q'
    split
    · rename_i h
      rw [if_neg (by omega), if_neg (by omega)] at q'
      exact q'
    · rename_i h
      split
      · rename_i h2
        rw [if_pos h2, gap_comm] at q'
        exact q'
      · rename_i h2
        rw [if_neg h2, if_pos (by omega)] at q'
        exact q'
theorem part_un (d : Int) : partI "unlike" d = if d = 0 then 0 else 1 := by
  unfold partI
  rw [if_neg (by decide +kernel), if_pos rfl]
theorem wp__law_ceiling : ∀ ds M Q R, F__law_ceiling ds M Q R → W__law_ceiling { nx := fun _ M' => Q .non M', rt := Q, xr := R } (startE 6 ds) M := by
  rintro ds M Q R ⟨k, r, v, p, rfl, hp, ok, hv, q⟩
  have sv := vk_sm hp (by decide) hv
  unfold W__law_ceiling
  have lv := hv.1
  have fin : ∀ m : Int, Q (.int (lenMin k v m)) M → (if k = "unlike" then f2I (fun i j => if j < i then j else i) [.int m, .int (v.length : Int)] M Q else Q (.int m) M) := fun m z => by
    unfold lenMin at z
    split
    · rename_i h
      rw [if_pos h] at z
      exact z
    · rename_i h
      rw [if_neg h] at z
      exact z
  cases r with
  | box l h =>
    have ll := ok.1.1
    have lh := ok.2.1.1
    have fvk : ∀ f : Nat → Int, (∀ i, f i = l.getD i 0 ∨ f i = h.getD i 0) → vk p 60000 ((List.range p).map f) := fun f hf => ⟨by rw [List.length_map, List.length_range], fun a ha => by
      obtain ⟨i, _, rfl⟩ := List.mem_map.mp ha
      have a1 := get_vk ok.1 (by decide) i
      have a2 := get_vk ok.2.1 (by decide) i
      rcases hf i with z | z <;> rw [z] <;> omega⟩
    unfold Rg.d
    refine seq_gen fun K hK => ?_
    simp (disch := first | assumption | decide) only [wSeq, wNext, wAsg, wgName, wIfS, wB, wOp, wVar, wC, wCall, wCallK, wCons, wNil, wRet, wRetN, wDrop, wTup, wLst, wIf, wAnd, wOr, wNot, wAndV, wOrV, wNotV, wNeg, wChain, fI, fI0, addD, fLt, fLe, fGt, fGe, fIsB, wCB, fAbs, f2I, fInt, fIsq, wPar, wPar3, permD, startE, List.map_cons, List.map_nil, List.cons_append, List.nil_append, List.append_nil, List.length_cons, List.length_nil, List.replicate, List.getElem?_cons_zero, List.getElem?_cons_succ, List.set_cons_zero, List.set_cons_succ, List.getD_cons_zero, List.getD_cons_succ, Nat.reduceAdd, Nat.reduceSub, Nat.zero_add, true_and, and_true, Bool.not_true, Bool.not_false, if_true, if_false, Bool.false_eq_true, reduceIte, decide_eq_true_eq, Bool.not_eq_true', decide_eq_false_iff_not, eqV_int, eqV_str, eqV_bl, decide_true, reduceCtorEq, not_true_eq_false, not_false_eq_true, Bool.not_eq_true, List.not_mem_nil, false_implies, implies_true, Int.reduceNeg, Int.reduceToNat, Int.reducePow, Int.reduceMul, Int.reduceAdd, draw_i, ix_t0, ix_t1, ix_t2, ix_t3, ix_m3, ix_m4, sn_ball_box, sn_cell_box, sn_cell_ball, sn_ball_cell, sn_box_ball, sn_box_cell, decide_false]
    simp (disch := first | assumption | decide) only [wSeq, wNext, wAsg, wgName, wIfS, wB, wOp, wVar, wC, wCall, wCallK, wCons, wNil, wRet, wRetN, wDrop, wTup, wLst, wIf, wAnd, wOr, wNot, wAndV, wOrV, wNotV, wNeg, wChain, fI, fI0, addD, fLt, fLe, fGt, fGe, fIsB, wCB, fAbs, f2I, fInt, fIsq, wPar, wPar3, permD, startE, List.map_cons, List.map_nil, List.cons_append, List.nil_append, List.append_nil, List.length_cons, List.length_nil, List.replicate, List.getElem?_cons_zero, List.getElem?_cons_succ, List.set_cons_zero, List.set_cons_succ, List.getD_cons_zero, List.getD_cons_succ, Nat.reduceAdd, Nat.reduceSub, Nat.zero_add, true_and, and_true, Bool.not_true, Bool.not_false, if_true, if_false, Bool.false_eq_true, reduceIte, decide_eq_true_eq, Bool.not_eq_true', decide_eq_false_iff_not, eqV_int, eqV_str, eqV_bl, decide_true, reduceCtorEq, not_true_eq_false, not_false_eq_true, Bool.not_eq_true, List.not_mem_nil, false_implies, implies_true, Int.reduceNeg, Int.reduceToNat, Int.reducePow, Int.reduceMul, Int.reduceAdd, draw_i, ix_t0, ix_t1, ix_t2, ix_t3, ix_m3, ix_m4, sn_ball_box, sn_cell_box, sn_cell_ball, sn_ball_cell, sn_box_ball, sn_box_cell, decide_false, wLc, wiRange1, wipeE, len_vec]
    refine ⟨by omega, by omega, ?_⟩
    rw [Int.toNat_natCast, nums_range, lv]
    refine lc_nums (fun i => if l.getD i 0 + h.getD i 0 ≤ 2 * v.getD i 0 then l.getD i 0 else h.getD i 0) _ (by rw [List.length_range]; omega) (fun i hi K hK => ?_) ?_
    · have hi := List.mem_range.mp hi
      have h1 : i < l.length := by omega
      have h2 : i < h.length := by omega
      have h3 : i < v.length := by omega
      simp (disch := first | assumption | decide) only [wSeq, wNext, wAsg, wgName, wIfS, wB, wOp, wVar, wC, wCall, wCallK, wCons, wNil, wRet, wRetN, wDrop, wTup, wLst, wIf, wAnd, wOr, wNot, wAndV, wOrV, wNotV, wNeg, wChain, fI, fI0, addD, fLt, fLe, fGt, fGe, fIsB, wCB, fAbs, f2I, fInt, fIsq, wPar, wPar3, permD, startE, List.map_cons, List.map_nil, List.cons_append, List.nil_append, List.append_nil, List.length_cons, List.length_nil, List.replicate, List.getElem?_cons_zero, List.getElem?_cons_succ, List.set_cons_zero, List.set_cons_succ, List.getD_cons_zero, List.getD_cons_succ, Nat.reduceAdd, Nat.reduceSub, Nat.zero_add, true_and, and_true, Bool.not_true, Bool.not_false, if_true, if_false, Bool.false_eq_true, reduceIte, decide_eq_true_eq, Bool.not_eq_true', decide_eq_false_iff_not, eqV_int, eqV_str, eqV_bl, decide_true, reduceCtorEq, not_true_eq_false, not_false_eq_true, Bool.not_eq_true, List.not_mem_nil, false_implies, implies_true, Int.reduceNeg, Int.reduceToNat, Int.reducePow, Int.reduceMul, Int.reduceAdd, draw_i, ix_t0, ix_t1, ix_t2, ix_t3, ix_m3, ix_m4, sn_ball_box, sn_cell_box, sn_cell_ball, sn_ball_cell, sn_box_ball, sn_box_cell, decide_false, ixv_i]
      refine ⟨cm_of (by decide) (by decide), ?_⟩
      split
      · rename_i z
        rw [if_pos z] at hK
        exact hK
      · rename_i z
        rw [if_neg z] at hK
        exact hK
    · split
      · rename_i hk
        refine ⟨by omega, by omega, ?_⟩
        refine lc_nums (fun i => if h.getD i 0 = v.getD i 0 then l.getD i 0 else h.getD i 0) _ (by rw [List.length_range]; omega) (fun i hi K hK => ?_) ?_
        · have hi := List.mem_range.mp hi
          have h1 : i < l.length := by omega
          have h2 : i < h.length := by omega
          have h3 : i < v.length := by omega
          simp (disch := first | assumption | decide) only [wSeq, wNext, wAsg, wgName, wIfS, wB, wOp, wVar, wC, wCall, wCallK, wCons, wNil, wRet, wRetN, wDrop, wTup, wLst, wIf, wAnd, wOr, wNot, wAndV, wOrV, wNotV, wNeg, wChain, fI, fI0, addD, fLt, fLe, fGt, fGe, fIsB, wCB, fAbs, f2I, fInt, fIsq, wPar, wPar3, permD, startE, List.map_cons, List.map_nil, List.cons_append, List.nil_append, List.append_nil, List.length_cons, List.length_nil, List.replicate, List.getElem?_cons_zero, List.getElem?_cons_succ, List.set_cons_zero, List.set_cons_succ, List.getD_cons_zero, List.getD_cons_succ, Nat.reduceAdd, Nat.reduceSub, Nat.zero_add, true_and, and_true, Bool.not_true, Bool.not_false, if_true, if_false, Bool.false_eq_true, reduceIte, decide_eq_true_eq, Bool.not_eq_true', decide_eq_false_iff_not, eqV_int, eqV_str, eqV_bl, decide_true, reduceCtorEq, not_true_eq_false, not_false_eq_true, Bool.not_eq_true, List.not_mem_nil, false_implies, implies_true, Int.reduceNeg, Int.reduceToNat, Int.reducePow, Int.reduceMul, Int.reduceAdd, draw_i, ix_t0, ix_t1, ix_t2, ix_t3, ix_m3, ix_m4, sn_ball_box, sn_cell_box, sn_cell_ball, sn_ball_cell, sn_box_ball, sn_box_cell, decide_false, ixv_i]
          split
          · rename_i z
            rw [if_neg z] at hK
            exact hK
          · rename_i z
            rw [if_pos (Decidable.not_not.mp z)] at hK
            exact hK
        · have nv := fvk (fun i => if h.getD i 0 = v.getD i 0 then l.getD i 0 else h.getD i 0) (fun i => by split <;> simp)
          refine ldist_l (by rw [nv.1]; omega) sv (vk_sm hp (by decide) nv) ?_
          rw [far_dist ok lv _ fun i hi => ?_]
          · exact q
          · have z := ok.2.2 i hi
            subst hk
            rw [part_un, part_un]
            unfold mx2
            split <;> split <;> (try split) <;> (try split) <;> omega
      · rename_i hk
        have nv := fvk (fun i => if l.getD i 0 + h.getD i 0 ≤ 2 * v.getD i 0 then l.getD i 0 else h.getD i 0) (fun i => by split <;> simp)
        refine ldist_l (by rw [nv.1]; omega) sv (vk_sm hp (by decide) nv) ?_
        rw [far_dist ok lv _ fun i hi => ?_]
        · exact q
        · have z := ok.2.2 i hi
          refine part_pm k ?_
          unfold mx2
          split <;> split <;> omega
  | ball c r =>
    have sc := vk_sm hp (by decide) ok.1
    have lc := ok.1.1
    have nd := dist_nc (k := k) hp hv (vk_up ok.1 (by decide))
    have nr : nc r := ⟨ok.2.1, by have := ok.2.2; omega⟩
    refine seq_gen fun K hK => ?_
    unfold Rg.d
    simp (disch := first | assumption | decide) only [wSeq, wNext, wAsg, wgName, wIfS, wB, wOp, wVar, wC, wCall, wCallK, wCons, wNil, wRet, wRetN, wDrop, wTup, wLst, wIf, wAnd, wOr, wNot, wAndV, wOrV, wNotV, wNeg, wChain, fI, fI0, addD, fLt, fLe, fGt, fGe, fIsB, wCB, fAbs, f2I, fInt, fIsq, wPar, wPar3, permD, startE, List.map_cons, List.map_nil, List.cons_append, List.nil_append, List.append_nil, List.length_cons, List.length_nil, List.replicate, List.getElem?_cons_zero, List.getElem?_cons_succ, List.set_cons_zero, List.set_cons_succ, List.getD_cons_zero, List.getD_cons_succ, Nat.reduceAdd, Nat.reduceSub, Nat.zero_add, true_and, and_true, Bool.not_true, Bool.not_false, if_true, if_false, Bool.false_eq_true, reduceIte, decide_eq_true_eq, Bool.not_eq_true', decide_eq_false_iff_not, eqV_int, eqV_str, eqV_bl, decide_true, reduceCtorEq, not_true_eq_false, not_false_eq_true, Bool.not_eq_true, List.not_mem_nil, false_implies, implies_true, Int.reduceNeg, Int.reduceToNat, Int.reducePow, Int.reduceMul, Int.reduceAdd, draw_i, ix_t0, ix_t1, ix_t2, ix_t3, ix_m3, ix_m4, sn_ball_box, sn_cell_box, sn_cell_ball, sn_ball_cell, sn_box_ball, sn_box_cell, decide_false]
    subst hK
    refine seq_gen fun K hK => ?_
    simp (disch := first | assumption | decide) only [wSeq, wNext, wAsg, wgName, wIfS, wB, wOp, wVar, wC, wCall, wCallK, wCons, wNil, wRet, wRetN, wDrop, wTup, wLst, wIf, wAnd, wOr, wNot, wAndV, wOrV, wNotV, wNeg, wChain, fI, fI0, addD, fLt, fLe, fGt, fGe, fIsB, wCB, fAbs, f2I, fInt, fIsq, wPar, wPar3, permD, startE, List.map_cons, List.map_nil, List.cons_append, List.nil_append, List.append_nil, List.length_cons, List.length_nil, List.replicate, List.getElem?_cons_zero, List.getElem?_cons_succ, List.set_cons_zero, List.set_cons_succ, List.getD_cons_zero, List.getD_cons_succ, Nat.reduceAdd, Nat.reduceSub, Nat.zero_add, true_and, and_true, Bool.not_true, Bool.not_false, if_true, if_false, Bool.false_eq_true, reduceIte, decide_eq_true_eq, Bool.not_eq_true', decide_eq_false_iff_not, eqV_int, eqV_str, eqV_bl, decide_true, reduceCtorEq, not_true_eq_false, not_false_eq_true, Bool.not_eq_true, List.not_mem_nil, false_implies, implies_true, Int.reduceNeg, Int.reduceToNat, Int.reducePow, Int.reduceMul, Int.reduceAdd, draw_i, ix_t0, ix_t1, ix_t2, ix_t3, ix_m3, ix_m4, sn_ball_box, sn_cell_box, sn_cell_ball, sn_ball_cell, sn_box_ball, sn_box_cell, decide_false]
    refine ldist_i (by omega) sv sc ?_
    refine shell_i (r := .ball c r) rfl ?_
    simp (disch := first | assumption | decide) only [wSeq, wNext, wAsg, wgName, wIfS, wB, wOp, wVar, wC, wCall, wCallK, wCons, wNil, wRet, wRetN, wDrop, wTup, wLst, wIf, wAnd, wOr, wNot, wAndV, wOrV, wNotV, wNeg, wChain, fI, fI0, addD, fLt, fLe, fGt, fGe, fIsB, wCB, fAbs, f2I, fInt, fIsq, wPar, wPar3, permD, startE, List.map_cons, List.map_nil, List.cons_append, List.nil_append, List.append_nil, List.length_cons, List.length_nil, List.replicate, List.getElem?_cons_zero, List.getElem?_cons_succ, List.set_cons_zero, List.set_cons_succ, List.getD_cons_zero, List.getD_cons_succ, Nat.reduceAdd, Nat.reduceSub, Nat.zero_add, true_and, and_true, Bool.not_true, Bool.not_false, if_true, if_false, Bool.false_eq_true, reduceIte, decide_eq_true_eq, Bool.not_eq_true', decide_eq_false_iff_not, eqV_int, eqV_str, eqV_bl, decide_true, reduceCtorEq, not_true_eq_false, not_false_eq_true, Bool.not_eq_true, List.not_mem_nil, false_implies, implies_true, Int.reduceNeg, Int.reduceToNat, Int.reducePow, Int.reduceMul, Int.reduceAdd, draw_i, ix_t0, ix_t1, ix_t2, ix_t3, ix_m3, ix_m4, sn_ball_box, sn_cell_box, sn_cell_ball, sn_ball_cell, sn_box_ball, sn_box_cell, decide_false, lmost_i]
    subst hK
    simp (disch := first | assumption | decide) only [wSeq, wNext, wAsg, wgName, wIfS, wB, wOp, wVar, wC, wCall, wCallK, wCons, wNil, wRet, wRetN, wDrop, wTup, wLst, wIf, wAnd, wOr, wNot, wAndV, wOrV, wNotV, wNeg, wChain, fI, fI0, addD, fLt, fLe, fGt, fGe, fIsB, wCB, fAbs, f2I, fInt, fIsq, wPar, wPar3, permD, startE, List.map_cons, List.map_nil, List.cons_append, List.nil_append, List.append_nil, List.length_cons, List.length_nil, List.replicate, List.getElem?_cons_zero, List.getElem?_cons_succ, List.set_cons_zero, List.set_cons_succ, List.getD_cons_zero, List.getD_cons_succ, Nat.reduceAdd, Nat.reduceSub, Nat.zero_add, true_and, and_true, Bool.not_true, Bool.not_false, if_true, if_false, Bool.false_eq_true, reduceIte, decide_eq_true_eq, Bool.not_eq_true', decide_eq_false_iff_not, eqV_int, eqV_str, eqV_bl, decide_true, reduceCtorEq, not_true_eq_false, not_false_eq_true, Bool.not_eq_true, List.not_mem_nil, false_implies, implies_true, Int.reduceNeg, Int.reduceToNat, Int.reducePow, Int.reduceMul, Int.reduceAdd, draw_i, ix_t0, ix_t1, ix_t2, ix_t3, ix_m3, ix_m4, sn_ball_box, sn_cell_box, sn_cell_ball, sn_ball_cell, sn_box_ball, sn_box_cell, decide_false, len_vec]
    have e := dist_comm k v c
    rw [← e]
    exact fin _ q
  | cell c a b =>
    have sc := vk_sm hp (by decide) ok.1
    have lc := ok.1.1
    have nd := dist_nc (k := k) hp hv (vk_up ok.1 (by decide))
    have nb : nc b := ⟨by have := ok.2; omega, by have := ok.2.2; omega⟩
    refine seq_gen fun K hK => ?_
    unfold Rg.d
    simp (disch := first | assumption | decide) only [wSeq, wNext, wAsg, wgName, wIfS, wB, wOp, wVar, wC, wCall, wCallK, wCons, wNil, wRet, wRetN, wDrop, wTup, wLst, wIf, wAnd, wOr, wNot, wAndV, wOrV, wNotV, wNeg, wChain, fI, fI0, addD, fLt, fLe, fGt, fGe, fIsB, wCB, fAbs, f2I, fInt, fIsq, wPar, wPar3, permD, startE, List.map_cons, List.map_nil, List.cons_append, List.nil_append, List.append_nil, List.length_cons, List.length_nil, List.replicate, List.getElem?_cons_zero, List.getElem?_cons_succ, List.set_cons_zero, List.set_cons_succ, List.getD_cons_zero, List.getD_cons_succ, Nat.reduceAdd, Nat.reduceSub, Nat.zero_add, true_and, and_true, Bool.not_true, Bool.not_false, if_true, if_false, Bool.false_eq_true, reduceIte, decide_eq_true_eq, Bool.not_eq_true', decide_eq_false_iff_not, eqV_int, eqV_str, eqV_bl, decide_true, reduceCtorEq, not_true_eq_false, not_false_eq_true, Bool.not_eq_true, List.not_mem_nil, false_implies, implies_true, Int.reduceNeg, Int.reduceToNat, Int.reducePow, Int.reduceMul, Int.reduceAdd, draw_i, ix_t0, ix_t1, ix_t2, ix_t3, ix_m3, ix_m4, sn_ball_box, sn_cell_box, sn_cell_ball, sn_ball_cell, sn_box_ball, sn_box_cell, decide_false]
    subst hK
    refine seq_gen fun K hK => ?_
    simp (disch := first | assumption | decide) only [wSeq, wNext, wAsg, wgName, wIfS, wB, wOp, wVar, wC, wCall, wCallK, wCons, wNil, wRet, wRetN, wDrop, wTup, wLst, wIf, wAnd, wOr, wNot, wAndV, wOrV, wNotV, wNeg, wChain, fI, fI0, addD, fLt, fLe, fGt, fGe, fIsB, wCB, fAbs, f2I, fInt, fIsq, wPar, wPar3, permD, startE, List.map_cons, List.map_nil, List.cons_append, List.nil_append, List.append_nil, List.length_cons, List.length_nil, List.replicate, List.getElem?_cons_zero, List.getElem?_cons_succ, List.set_cons_zero, List.set_cons_succ, List.getD_cons_zero, List.getD_cons_succ, Nat.reduceAdd, Nat.reduceSub, Nat.zero_add, true_and, and_true, Bool.not_true, Bool.not_false, if_true, if_false, Bool.false_eq_true, reduceIte, decide_eq_true_eq, Bool.not_eq_true', decide_eq_false_iff_not, eqV_int, eqV_str, eqV_bl, decide_true, reduceCtorEq, not_true_eq_false, not_false_eq_true, Bool.not_eq_true, List.not_mem_nil, false_implies, implies_true, Int.reduceNeg, Int.reduceToNat, Int.reducePow, Int.reduceMul, Int.reduceAdd, draw_i, ix_t0, ix_t1, ix_t2, ix_t3, ix_m3, ix_m4, sn_ball_box, sn_cell_box, sn_cell_ball, sn_ball_cell, sn_box_ball, sn_box_cell, decide_false]
    refine ldist_i (by omega) sv sc ?_
    refine shell_i (r := .cell c a b) rfl ?_
    simp (disch := first | assumption | decide) only [wSeq, wNext, wAsg, wgName, wIfS, wB, wOp, wVar, wC, wCall, wCallK, wCons, wNil, wRet, wRetN, wDrop, wTup, wLst, wIf, wAnd, wOr, wNot, wAndV, wOrV, wNotV, wNeg, wChain, fI, fI0, addD, fLt, fLe, fGt, fGe, fIsB, wCB, fAbs, f2I, fInt, fIsq, wPar, wPar3, permD, startE, List.map_cons, List.map_nil, List.cons_append, List.nil_append, List.append_nil, List.length_cons, List.length_nil, List.replicate, List.getElem?_cons_zero, List.getElem?_cons_succ, List.set_cons_zero, List.set_cons_succ, List.getD_cons_zero, List.getD_cons_succ, Nat.reduceAdd, Nat.reduceSub, Nat.zero_add, true_and, and_true, Bool.not_true, Bool.not_false, if_true, if_false, Bool.false_eq_true, reduceIte, decide_eq_true_eq, Bool.not_eq_true', decide_eq_false_iff_not, eqV_int, eqV_str, eqV_bl, decide_true, reduceCtorEq, not_true_eq_false, not_false_eq_true, Bool.not_eq_true, List.not_mem_nil, false_implies, implies_true, Int.reduceNeg, Int.reduceToNat, Int.reducePow, Int.reduceMul, Int.reduceAdd, draw_i, ix_t0, ix_t1, ix_t2, ix_t3, ix_m3, ix_m4, sn_ball_box, sn_cell_box, sn_cell_ball, sn_ball_cell, sn_box_ball, sn_box_cell, decide_false, lmost_i]
    subst hK
    simp (disch := first | assumption | decide) only [wSeq, wNext, wAsg, wgName, wIfS, wB, wOp, wVar, wC, wCall, wCallK, wCons, wNil, wRet, wRetN, wDrop, wTup, wLst, wIf, wAnd, wOr, wNot, wAndV, wOrV, wNotV, wNeg, wChain, fI, fI0, addD, fLt, fLe, fGt, fGe, fIsB, wCB, fAbs, f2I, fInt, fIsq, wPar, wPar3, permD, startE, List.map_cons, List.map_nil, List.cons_append, List.nil_append, List.append_nil, List.length_cons, List.length_nil, List.replicate, List.getElem?_cons_zero, List.getElem?_cons_succ, List.set_cons_zero, List.set_cons_succ, List.getD_cons_zero, List.getD_cons_succ, Nat.reduceAdd, Nat.reduceSub, Nat.zero_add, true_and, and_true, Bool.not_true, Bool.not_false, if_true, if_false, Bool.false_eq_true, reduceIte, decide_eq_true_eq, Bool.not_eq_true', decide_eq_false_iff_not, eqV_int, eqV_str, eqV_bl, decide_true, reduceCtorEq, not_true_eq_false, not_false_eq_true, Bool.not_eq_true, List.not_mem_nil, false_implies, implies_true, Int.reduceNeg, Int.reduceToNat, Int.reducePow, Int.reduceMul, Int.reduceAdd, draw_i, ix_t0, ix_t1, ix_t2, ix_t3, ix_m3, ix_m4, sn_ball_box, sn_cell_box, sn_cell_ball, sn_ball_cell, sn_box_ball, sn_box_cell, decide_false, len_vec]
    have e := dist_comm k v c
    rw [← e]
    exact fin _ q
end K21
namespace K21
open PySem L2 L3
theorem wp__law_pick_far : ∀ ds M Q R, F__law_pick_far ds M Q R → W__law_pick_far { nx := fun _ M' => Q .non M', rt := Q, xr := R } (startE 4 ds) M := by
  rintro ds M Q R ⟨k, x, l, h, rfl, q⟩
  unfold W__law_pick_far
  simp (disch := first | assumption | decide) only [wSeq, wNext, wAsg, wgName, wIfS, wB, wOp, wVar, wC, wCall, wCallK, wCons, wNil, wRet, wRetN, wDrop, wTup, wLst, wIf, wAnd, wOr, wNot, wAndV, wOrV, wNotV, wNeg, wChain, fI, fI0, addD, fLt, fLe, fGt, fGe, fIsB, wCB, fAbs, f2I, fInt, fIsq, wPar, wPar3, permD, startE, List.map_cons, List.map_nil, List.cons_append, List.nil_append, List.append_nil, List.length_cons, List.length_nil, List.replicate, List.getElem?_cons_zero, List.getElem?_cons_succ, List.set_cons_zero, List.set_cons_succ, List.getD_cons_zero, List.getD_cons_succ, Nat.reduceAdd, Nat.reduceSub, Nat.zero_add, true_and, and_true, Bool.not_true, Bool.not_false, if_true, if_false, Bool.false_eq_true, reduceIte, decide_eq_true_eq, Bool.not_eq_true', decide_eq_false_iff_not, eqV_int, eqV_str, eqV_bl, decide_true, reduceCtorEq, not_true_eq_false, not_false_eq_true, Bool.not_eq_true, List.not_mem_nil, false_implies, implies_true, Int.reduceNeg, Int.reduceToNat, Int.reducePow, Int.reduceMul, Int.reduceAdd, draw_i, ix_t0, ix_t1, ix_t2, ix_t3, ix_m3, ix_m4, sn_ball_box, sn_cell_box, sn_cell_ball, sn_ball_cell, sn_box_ball, sn_box_cell, decide_false]
  unfold pickFar at q
  by_cases h1 : h - x < x - l
  · rw [if_pos (.inl h1)] at q
    rw [if_pos h1]
    exact q
  · rw [if_neg h1]
    by_cases h2 : k = "unlike" ∧ x = h
    · rw [if_pos (.inr h2)] at q
      rw [if_pos h2.1, if_pos h2.2]
      exact q
    · rw [if_neg (fun z => z.elim h1 h2)] at q
      by_cases h3 : k = "unlike"
      · rw [if_pos h3, if_neg fun z => h2 ⟨h3, z⟩]
        exact q
      · rw [if_neg h3]
        exact q
theorem pickfar_i {M : Mp} {k : Str} {x l h : Int} {Q : KD} {R} : F__law_pick_far [.str k, .int x, .int l, .int h] M Q R ↔ Q (.int (pickFar k x l h)) M := by
  constructor
  · rintro ⟨_, _, _, _, e, q⟩
    cases e
    exact q
  · exact fun q => ⟨k, x, l, h, rfl, q⟩
theorem wp__law_region : ∀ ds M Q R, F__law_region ds M Q R → W__law_region { nx := fun _ M' => Q .non M', rt := Q, xr := R } (startE 9 ds) M := by
  rintro ds M Q R ⟨a, a0, k, p, far, rfl, hm, hp, f0, f1, q⟩
  unfold W__law_region
  refine seq_gen fun K hK => ?_
  simp (disch := first | assumption | decide) only [wSeq, wNext, wAsg, wgName, wIfS, wB, wOp, wVar, wC, wCall, wCallK, wCons, wNil, wRet, wRetN, wDrop, wTup, wLst, wIf, wAnd, wOr, wNot, wAndV, wOrV, wNotV, wNeg, wChain, fI, fI0, addD, fLt, fLe, fGt, fGe, fIsB, wCB, fAbs, f2I, fInt, fIsq, wPar, wPar3, permD, startE, List.map_cons, List.map_nil, List.cons_append, List.nil_append, List.append_nil, List.length_cons, List.length_nil, List.replicate, List.getElem?_cons_zero, List.getElem?_cons_succ, List.set_cons_zero, List.set_cons_succ, List.getD_cons_zero, List.getD_cons_succ, Nat.reduceAdd, Nat.reduceSub, Nat.zero_add, true_and, and_true, Bool.not_true, Bool.not_false, if_true, if_false, Bool.false_eq_true, reduceIte, decide_eq_true_eq, Bool.not_eq_true', decide_eq_false_iff_not, eqV_int, eqV_str, eqV_bl, decide_true, reduceCtorEq, not_true_eq_false, not_false_eq_true, Bool.not_eq_true, List.not_mem_nil, false_implies, implies_true, Int.reduceNeg, Int.reduceToNat, Int.reducePow, Int.reduceMul, Int.reduceAdd, draw_i, ix_t0, ix_t1, ix_t2, ix_t3, ix_m3, ix_m4, sn_ball_box, sn_cell_box, sn_cell_ball, sn_ball_cell, sn_box_ball, sn_box_cell, decide_false, wLc, wiRange1, wipeE, fTuple]
  refine ⟨by omega, by omega, ?_⟩
  refine lc_any (fun _ y => ∃ b : Int, y = .int b ∧ -far ≤ b ∧ b ≤ far) True.intro _ [] ?_ (fun d hd K2 hK2 => ?_) fun ys hy1 hy2 => ?_
  · rw [intsD_len]
    simp only [List.length_nil]
    omega
  · simp (disch := first | assumption | decide) only [wSeq, wNext, wAsg, wgName, wIfS, wB, wOp, wVar, wC, wCall, wCallK, wCons, wNil, wRet, wRetN, wDrop, wTup, wLst, wIf, wAnd, wOr, wNot, wAndV, wOrV, wNotV, wNeg, wChain, fI, fI0, addD, fLt, fLe, fGt, fGe, fIsB, wCB, fAbs, f2I, fInt, fIsq, wPar, wPar3, permD, startE, List.map_cons, List.map_nil, List.cons_append, List.nil_append, List.append_nil, List.length_cons, List.length_nil, List.replicate, List.getElem?_cons_zero, List.getElem?_cons_succ, List.set_cons_zero, List.set_cons_succ, List.getD_cons_zero, List.getD_cons_succ, Nat.reduceAdd, Nat.reduceSub, Nat.zero_add, true_and, and_true, Bool.not_true, Bool.not_false, if_true, if_false, Bool.false_eq_true, reduceIte, decide_eq_true_eq, Bool.not_eq_true', decide_eq_false_iff_not, eqV_int, eqV_str, eqV_bl, decide_true, reduceCtorEq, not_true_eq_false, not_false_eq_true, Bool.not_eq_true, List.not_mem_nil, false_implies, implies_true, Int.reduceNeg, Int.reduceToNat, Int.reducePow, Int.reduceMul, Int.reduceAdd, draw_i, ix_t0, ix_t1, ix_t2, ix_t3, ix_m3, ix_m4, sn_ball_box, sn_cell_box, sn_cell_ball, sn_ball_cell, sn_box_ball, sn_box_cell, decide_false]
    refine ⟨cm_of (by decide) (by decide), (draw_i hm (by omega) (log_of (by omega) (by omega))).mpr fun j j0 j1 => ?_⟩
    exact hK2 _ ⟨_, rfl, by omega, by omega⟩
  obtain ⟨c, rfl, hc⟩ := ints_of (R := fun b => -far ≤ b ∧ b ≤ far) (fun y hy => by
    obtain ⟨i, hi⟩ := List.mem_iff_getElem?.mp hy
    obtain ⟨_, _, h⟩ := hy2 i y hi
    exact h)
  rw [intsD_len, List.length_map, Int.toNat_natCast] at hy1
  clear hy2
  rw [List.nil_append]
  refine ⟨_, rfl, ?_⟩
  have ck : vk p 50000 c := ⟨hy1, fun x hx => by have := hc x hx; omega⟩
  have cm : vk p 10000 c := ⟨hy1, fun x hx => by have := hc x hx; omega⟩
  subst hK
  refine seq_gen fun K hK => ?_
  simp (disch := first | assumption | decide) only [wSeq, wNext, wAsg, wgName, wIfS, wB, wOp, wVar, wC, wCall, wCallK, wCons, wNil, wRet, wRetN, wDrop, wTup, wLst, wIf, wAnd, wOr, wNot, wAndV, wOrV, wNotV, wNeg, wChain, fI, fI0, addD, fLt, fLe, fGt, fGe, fIsB, wCB, fAbs, f2I, fInt, fIsq, wPar, wPar3, permD, startE, List.map_cons, List.map_nil, List.cons_append, List.nil_append, List.append_nil, List.length_cons, List.length_nil, List.replicate, List.getElem?_cons_zero, List.getElem?_cons_succ, List.set_cons_zero, List.set_cons_succ, List.getD_cons_zero, List.getD_cons_succ, Nat.reduceAdd, Nat.reduceSub, Nat.zero_add, true_and, and_true, Bool.not_true, Bool.not_false, if_true, if_false, Bool.false_eq_true, reduceIte, decide_eq_true_eq, Bool.not_eq_true', decide_eq_false_iff_not, eqV_int, eqV_str, eqV_bl, decide_true, reduceCtorEq, not_true_eq_false, not_false_eq_true, Bool.not_eq_true, List.not_mem_nil, false_implies, implies_true, Int.reduceNeg, Int.reduceToNat, Int.reducePow, Int.reduceMul, Int.reduceAdd, draw_i, ix_t0, ix_t1, ix_t2, ix_t3, ix_m3, ix_m4, sn_ball_box, sn_cell_box, sn_cell_ball, sn_ball_cell, sn_box_ball, sn_box_cell, decide_false]
  refine ⟨by decide, pick_q hm rfl (by decide) (by decide) fun w hw => ?_⟩
  have sm1 : far * far ≤ 4900 * 4900 := Int.mul_le_mul f1 f1 (by omega) (by decide)
  have sm0 : 0 ≤ far * far := Int.mul_nonneg (by omega) (by omega)
  -- the size
  have size : ∀ (K : En → Mp → Prop) (w : Str), (∀ s : Int, 0 ≤ s → s ≤ 30000000 → K [some (.tok a), some (.str k), some (.int (p : Int)), some (.int far), some (vec c), some (.str w), some (.int s), none, none] M) →
      wAsg (wIf (wB (wOp (eqV false) (wVar 1) (wC (.str "unlike")))) (wCall F__law_draw (wCons (wVar 0) (wCons (wC (.int 4)) wNil))) (wCall F__law_pick (wCons (wVar 0) (wCons (wLst (wCons (wC (.int 0)) (wCons (wC (.int 1)) (wCons (wC (.int 2)) (wCons (wCall F__law_draw (wCons (wVar 0) (wCons (wC (.int 9)) wNil))) (wCons (wCall F__law_draw (wCons (wVar 0) (wCons (wOp addD (wOp (fI CM fun i j => .int (i * j)) (wVar 3) (wVar 3)) (wC (.int 1))) wNil))) wNil)))))) wNil)))) (wgName 6) { nx := K, rt := Q, xr := R } [some (.tok a), some (.str k), some (.int (p : Int)), some (.int far), some (vec c), some (.str w), none, none, none] M := fun K w hs => by
    simp (disch := first | assumption | decide) only [wSeq, wNext, wAsg, wgName, wIfS, wB, wOp, wVar, wC, wCall, wCallK, wCons, wNil, wRet, wRetN, wDrop, wTup, wLst, wIf, wAnd, wOr, wNot, wAndV, wOrV, wNotV, wNeg, wChain, fI, fI0, addD, fLt, fLe, fGt, fGe, fIsB, wCB, fAbs, f2I, fInt, fIsq, wPar, wPar3, permD, startE, List.map_cons, List.map_nil, List.cons_append, List.nil_append, List.append_nil, List.length_cons, List.length_nil, List.replicate, List.getElem?_cons_zero, List.getElem?_cons_succ, List.set_cons_zero, List.set_cons_succ, List.getD_cons_zero, List.getD_cons_succ, Nat.reduceAdd, Nat.reduceSub, Nat.zero_add, true_and, and_true, Bool.not_true, Bool.not_false, if_true, if_false, Bool.false_eq_true, reduceIte, decide_eq_true_eq, Bool.not_eq_true', decide_eq_false_iff_not, eqV_int, eqV_str, eqV_bl, decide_true, reduceCtorEq, not_true_eq_false, not_false_eq_true, Bool.not_eq_true, List.not_mem_nil, false_implies, implies_true, Int.reduceNeg, Int.reduceToNat, Int.reducePow, Int.reduceMul, Int.reduceAdd, draw_i, ix_t0, ix_t1, ix_t2, ix_t3, ix_m3, ix_m4, sn_ball_box, sn_cell_box, sn_cell_ball, sn_ball_cell, sn_box_ball, sn_box_cell, decide_false]
    split
    · intro j j0 j1
      exact hs j j0 (by omega)
    · refine fun j j0 j1 => ⟨cm_of (by omega) (by omega), (draw_i hm (by omega) (log_of (by omega) (by omega))).mpr fun j2 j3 j4 => ⟨by decide, pick_q hm rfl (by show 0 < 5; decide) (by show 5 ≤ 1000000; decide) fun x hx => ?_⟩⟩
      simp only [List.mem_cons, List.not_mem_nil, or_false] at hx
      rcases hx with rfl | rfl | rfl | rfl | rfl
      · exact hs _ (by decide) (by decide)
      · exact hs _ (by decide) (by decide)
      · exact hs _ (by decide) (by decide)
      · exact hs _ (by omega) (by omega)
      · exact hs _ (by omega) (by omega)
  subst hK
  simp only [List.mem_cons, List.not_mem_nil, or_false] at hw
  rcases hw with rfl | rfl | rfl
  · refine seq_gen fun K hK => ?_
    simp (disch := first | assumption | decide) only [wSeq, wNext, wAsg, wgName, wIfS, wB, wOp, wVar, wC, wCall, wCallK, wCons, wNil, wRet, wRetN, wDrop, wTup, wLst, wIf, wAnd, wOr, wNot, wAndV, wOrV, wNotV, wNeg, wChain, fI, fI0, addD, fLt, fLe, fGt, fGe, fIsB, wCB, fAbs, f2I, fInt, fIsq, wPar, wPar3, permD, startE, List.map_cons, List.map_nil, List.cons_append, List.nil_append, List.append_nil, List.length_cons, List.length_nil, List.replicate, List.getElem?_cons_zero, List.getElem?_cons_succ, List.set_cons_zero, List.set_cons_succ, List.getD_cons_zero, List.getD_cons_succ, Nat.reduceAdd, Nat.reduceSub, Nat.zero_add, true_and, and_true, Bool.not_true, Bool.not_false, if_true, if_false, Bool.false_eq_true, reduceIte, decide_eq_true_eq, Bool.not_eq_true', decide_eq_false_iff_not, eqV_int, eqV_str, eqV_bl, decide_true, reduceCtorEq, not_true_eq_false, not_false_eq_true, Bool.not_eq_true, List.not_mem_nil, false_implies, implies_true, Int.reduceNeg, Int.reduceToNat, Int.reducePow, Int.reduceMul, Int.reduceAdd, draw_i, ix_t0, ix_t1, ix_t2, ix_t3, ix_m3, ix_m4, sn_ball_box, sn_cell_box, sn_cell_ball, sn_ball_cell, sn_box_ball, sn_box_cell, decide_false]
    subst hK
    refine seq_gen fun K hK => ?_
    refine size K _ fun s s0 s1 => ?_
    subst hK
    refine seq_gen fun K hK => ?_
    simp (disch := first | assumption | decide) only [wSeq, wNext, wAsg, wgName, wIfS, wB, wOp, wVar, wC, wCall, wCallK, wCons, wNil, wRet, wRetN, wDrop, wTup, wLst, wIf, wAnd, wOr, wNot, wAndV, wOrV, wNotV, wNeg, wChain, fI, fI0, addD, fLt, fLe, fGt, fGe, fIsB, wCB, fAbs, f2I, fInt, fIsq, wPar, wPar3, permD, startE, List.map_cons, List.map_nil, List.cons_append, List.nil_append, List.append_nil, List.length_cons, List.length_nil, List.replicate, List.getElem?_cons_zero, List.getElem?_cons_succ, List.set_cons_zero, List.set_cons_succ, List.getD_cons_zero, List.getD_cons_succ, Nat.reduceAdd, Nat.reduceSub, Nat.zero_add, true_and, and_true, Bool.not_true, Bool.not_false, if_true, if_false, Bool.false_eq_true, reduceIte, decide_eq_true_eq, Bool.not_eq_true', decide_eq_false_iff_not, eqV_int, eqV_str, eqV_bl, decide_true, reduceCtorEq, not_true_eq_false, not_false_eq_true, Bool.not_eq_true, List.not_mem_nil, false_implies, implies_true, Int.reduceNeg, Int.reduceToNat, Int.reducePow, Int.reduceMul, Int.reduceAdd, draw_i, ix_t0, ix_t1, ix_t2, ix_t3, ix_m3, ix_m4, sn_ball_box, sn_cell_box, sn_cell_ball, sn_ball_cell, sn_box_ball, sn_box_cell, decide_false]
    exact ⟨by decide, q (.ball c s) ⟨ck, s0, by omega⟩ cm⟩
  · refine seq_gen fun K hK => ?_
    simp (disch := first | assumption | decide) only [wSeq, wNext, wAsg, wgName, wIfS, wB, wOp, wVar, wC, wCall, wCallK, wCons, wNil, wRet, wRetN, wDrop, wTup, wLst, wIf, wAnd, wOr, wNot, wAndV, wOrV, wNotV, wNeg, wChain, fI, fI0, addD, fLt, fLe, fGt, fGe, fIsB, wCB, fAbs, f2I, fInt, fIsq, wPar, wPar3, permD, startE, List.map_cons, List.map_nil, List.cons_append, List.nil_append, List.append_nil, List.length_cons, List.length_nil, List.replicate, List.getElem?_cons_zero, List.getElem?_cons_succ, List.set_cons_zero, List.set_cons_succ, List.getD_cons_zero, List.getD_cons_succ, Nat.reduceAdd, Nat.reduceSub, Nat.zero_add, true_and, and_true, Bool.not_true, Bool.not_false, if_true, if_false, Bool.false_eq_true, reduceIte, decide_eq_true_eq, Bool.not_eq_true', decide_eq_false_iff_not, eqV_int, eqV_str, eqV_bl, decide_true, reduceCtorEq, not_true_eq_false, not_false_eq_true, Bool.not_eq_true, List.not_mem_nil, false_implies, implies_true, Int.reduceNeg, Int.reduceToNat, Int.reducePow, Int.reduceMul, Int.reduceAdd, draw_i, ix_t0, ix_t1, ix_t2, ix_t3, ix_m3, ix_m4, sn_ball_box, sn_cell_box, sn_cell_ball, sn_ball_cell, sn_box_ball, sn_box_cell, decide_false, wLc, wiSeq, wipeE, fTuple]
    refine lc_any (fun d y => ∃ x b : Int, d = .int x ∧ y = .int b ∧ x ≤ b ∧ b ≤ x + far) True.intro _ [] ?_ (fun d hd K2 hK2 => ?_) fun ys hy1' hy2 => ?_
    · rw [List.length_map]
      simp only [List.length_nil]
      omega
    · obtain ⟨x, hx, rfl⟩ := List.mem_map.mp hd
      simp (disch := first | assumption | decide) only [wSeq, wNext, wAsg, wgName, wIfS, wB, wOp, wVar, wC, wCall, wCallK, wCons, wNil, wRet, wRetN, wDrop, wTup, wLst, wIf, wAnd, wOr, wNot, wAndV, wOrV, wNotV, wNeg, wChain, fI, fI0, addD, fLt, fLe, fGt, fGe, fIsB, wCB, fAbs, f2I, fInt, fIsq, wPar, wPar3, permD, startE, List.map_cons, List.map_nil, List.cons_append, List.nil_append, List.append_nil, List.length_cons, List.length_nil, List.replicate, List.getElem?_cons_zero, List.getElem?_cons_succ, List.set_cons_zero, List.set_cons_succ, List.getD_cons_zero, List.getD_cons_succ, Nat.reduceAdd, Nat.reduceSub, Nat.zero_add, true_and, and_true, Bool.not_true, Bool.not_false, if_true, if_false, Bool.false_eq_true, reduceIte, decide_eq_true_eq, Bool.not_eq_true', decide_eq_false_iff_not, eqV_int, eqV_str, eqV_bl, decide_true, reduceCtorEq, not_true_eq_false, not_false_eq_true, Bool.not_eq_true, List.not_mem_nil, false_implies, implies_true, Int.reduceNeg, Int.reduceToNat, Int.reducePow, Int.reduceMul, Int.reduceAdd, draw_i, ix_t0, ix_t1, ix_t2, ix_t3, ix_m3, ix_m4, sn_ball_box, sn_cell_box, sn_cell_ball, sn_ball_cell, sn_box_ball, sn_box_cell, decide_false]
      refine fun j j0 j1 => (draw_i hm (by omega) (log_of (by omega) (by omega))).mpr fun j2 j3 j4 => ⟨by decide, pick_q hm rfl (by show 0 < 4; decide) (by show 4 ≤ 1000000; decide) fun y hy => ?_⟩
      simp only [List.mem_cons, List.not_mem_nil, or_false] at hy
      rcases hy with rfl | rfl | rfl | rfl
      · exact hK2 _ ⟨x, _, rfl, rfl, by omega, by omega⟩
      · exact hK2 _ ⟨x, _, rfl, rfl, by omega, by omega⟩
      · exact hK2 _ ⟨x, _, rfl, rfl, by omega, by omega⟩
      · exact hK2 _ ⟨x, _, rfl, rfl, by omega, by omega⟩
    · rw [List.nil_append]
      obtain ⟨h, rfl, hh⟩ := ints_of (R := fun b => True) (fun y hy => by
        obtain ⟨i, hi⟩ := List.mem_iff_getElem?.mp hy
        obtain ⟨_, _, x, b, _, e, _⟩ := hy2 i y hi
        exact ⟨b, e, True.intro⟩)
      rw [List.length_map, List.length_map, hy1] at hy1'
      have each : ∀ i, i < p → c.getD i 0 ≤ h.getD i 0 ∧ h.getD i 0 ≤ c.getD i 0 + far := fun i hi => by
        obtain ⟨d, e1, x, b, e2, e3, b1, b2⟩ := hy2 i (.int (h.getD i 0)) (by
          rw [List.getElem?_map, List.getD_eq_getElem?_getD, List.getElem?_eq_getElem (by omega)]
          rfl)
        rw [List.getElem?_map, List.getElem?_eq_getElem (by omega)] at e1
        cases e3
        subst e2
        have e4 : c.getD i 0 = x := by
          rw [List.getD_eq_getElem?_getD, List.getElem?_eq_getElem (by omega)]
          exact D.int.inj (Option.some.inj e1)
        omega
      have hk : vk p 50000 h := ⟨hy1', fun x hx => by
        obtain ⟨i, hi, e⟩ := List.getElem_of_mem hx
        have z := each i (by omega)
        have z2 := get_vk cm (by decide) i
        have e5 : h.getD i 0 = x := by
          rw [List.getD_eq_getElem?_getD, List.getElem?_eq_getElem hi]
          exact e
        omega⟩
      exact ⟨_, rfl, by decide, q (.box c h) ⟨ck, hk, fun i hi => (each i hi).1⟩ cm⟩
  · refine seq_gen fun K hK => ?_
    simp (disch := first | assumption | decide) only [wSeq, wNext, wAsg, wgName, wIfS, wB, wOp, wVar, wC, wCall, wCallK, wCons, wNil, wRet, wRetN, wDrop, wTup, wLst, wIf, wAnd, wOr, wNot, wAndV, wOrV, wNotV, wNeg, wChain, fI, fI0, addD, fLt, fLe, fGt, fGe, fIsB, wCB, fAbs, f2I, fInt, fIsq, wPar, wPar3, permD, startE, List.map_cons, List.map_nil, List.cons_append, List.nil_append, List.append_nil, List.length_cons, List.length_nil, List.replicate, List.getElem?_cons_zero, List.getElem?_cons_succ, List.set_cons_zero, List.set_cons_succ, List.getD_cons_zero, List.getD_cons_succ, Nat.reduceAdd, Nat.reduceSub, Nat.zero_add, true_and, and_true, Bool.not_true, Bool.not_false, if_true, if_false, Bool.false_eq_true, reduceIte, decide_eq_true_eq, Bool.not_eq_true', decide_eq_false_iff_not, eqV_int, eqV_str, eqV_bl, decide_true, reduceCtorEq, not_true_eq_false, not_false_eq_true, Bool.not_eq_true, List.not_mem_nil, false_implies, implies_true, Int.reduceNeg, Int.reduceToNat, Int.reducePow, Int.reduceMul, Int.reduceAdd, draw_i, ix_t0, ix_t1, ix_t2, ix_t3, ix_m3, ix_m4, sn_ball_box, sn_cell_box, sn_cell_ball, sn_ball_cell, sn_box_ball, sn_box_cell, decide_false]
    subst hK
    refine seq_gen fun K hK => ?_
    refine size K _ fun s s0 s1 => ?_
    subst hK
    refine seq_gen fun K hK => ?_
    simp (disch := first | assumption | decide) only [wSeq, wNext, wAsg, wgName, wIfS, wB, wOp, wVar, wC, wCall, wCallK, wCons, wNil, wRet, wRetN, wDrop, wTup, wLst, wIf, wAnd, wOr, wNot, wAndV, wOrV, wNotV, wNeg, wChain, fI, fI0, addD, fLt, fLe, fGt, fGe, fIsB, wCB, fAbs, f2I, fInt, fIsq, wPar, wPar3, permD, startE, List.map_cons, List.map_nil, List.cons_append, List.nil_append, List.append_nil, List.length_cons, List.length_nil, List.replicate, List.getElem?_cons_zero, List.getElem?_cons_succ, List.set_cons_zero, List.set_cons_succ, List.getD_cons_zero, List.getD_cons_succ, Nat.reduceAdd, Nat.reduceSub, Nat.zero_add, true_and, and_true, Bool.not_true, Bool.not_false, if_true, if_false, Bool.false_eq_true, reduceIte, decide_eq_true_eq, Bool.not_eq_true', decide_eq_false_iff_not, eqV_int, eqV_str, eqV_bl, decide_true, reduceCtorEq, not_true_eq_false, not_false_eq_true, Bool.not_eq_true, List.not_mem_nil, false_implies, implies_true, Int.reduceNeg, Int.reduceToNat, Int.reducePow, Int.reduceMul, Int.reduceAdd, draw_i, ix_t0, ix_t1, ix_t2, ix_t3, ix_m3, ix_m4, sn_ball_box, sn_cell_box, sn_cell_ball, sn_ball_cell, sn_box_ball, sn_box_cell, decide_false]
    subst hK
    simp (disch := first | assumption | decide) only [wSeq, wNext, wAsg, wgName, wIfS, wB, wOp, wVar, wC, wCall, wCallK, wCons, wNil, wRet, wRetN, wDrop, wTup, wLst, wIf, wAnd, wOr, wNot, wAndV, wOrV, wNotV, wNeg, wChain, fI, fI0, addD, fLt, fLe, fGt, fGe, fIsB, wCB, fAbs, f2I, fInt, fIsq, wPar, wPar3, permD, startE, List.map_cons, List.map_nil, List.cons_append, List.nil_append, List.append_nil, List.length_cons, List.length_nil, List.replicate, List.getElem?_cons_zero, List.getElem?_cons_succ, List.set_cons_zero, List.set_cons_succ, List.getD_cons_zero, List.getD_cons_succ, Nat.reduceAdd, Nat.reduceSub, Nat.zero_add, true_and, and_true, Bool.not_true, Bool.not_false, if_true, if_false, Bool.false_eq_true, reduceIte, decide_eq_true_eq, Bool.not_eq_true', decide_eq_false_iff_not, eqV_int, eqV_str, eqV_bl, decide_true, reduceCtorEq, not_true_eq_false, not_false_eq_true, Bool.not_eq_true, List.not_mem_nil, false_implies, implies_true, Int.reduceNeg, Int.reduceToNat, Int.reducePow, Int.reduceMul, Int.reduceAdd, draw_i, ix_t0, ix_t1, ix_t2, ix_t3, ix_m3, ix_m4, sn_ball_box, sn_cell_box, sn_cell_ball, sn_ball_cell, sn_box_ball, sn_box_cell, decide_false]
    refine fun j j0 j1 => ⟨by decide, pick_q hm rfl (by show 0 < 3; decide) (by show 3 ≤ 1000000; decide) fun y hy => ?_⟩
    simp only [List.mem_cons, List.not_mem_nil, or_false] at hy
    rcases hy with rfl | rfl | rfl
    · exact ⟨by decide, q (.cell c s (s + 0)) ⟨ck, s0, by omega, by omega⟩ cm⟩
    · exact ⟨by decide, q (.cell c s (s + 1)) ⟨ck, s0, by omega, by omega⟩ cm⟩
    · exact ⟨by decide, q (.cell c s (s + j)) ⟨ck, s0, by omega, by omega⟩ cm⟩
end K21
namespace K21
open PySem L2 L3
theorem cut_lo {xs : List Int} {i : Nat} (h : i ≤ xs.length) : cutD (xs.map .int) none (some (i : Int)) = (xs.take i).map .int := by
  unfold cutD
  rw [HT.sIx_none, HT.sIx_nat, List.length_map, List.drop_zero, Nat.sub_zero, Nat.min_eq_left h, ← List.map_take]
theorem cut_hi {xs : List Int} {i : Nat} (h : i ≤ xs.length) : cutD (xs.map .int) (some (i : Int)) none = (xs.drop i).map .int := by
  unfold cutD
  rw [HT.sIx_none, HT.sIx_nat, List.length_map, Nat.min_eq_left h, ← List.map_drop, ← List.map_take]
  congr 1
  exact List.take_of_length_le (by rw [List.length_drop]; omega)
theorem vecs_of {P : List Int → Prop} : ∀ {ys : List D}, (∀ y ∈ ys, ∃ u : List Int, y = vec u ∧ P u) → ∃ us : List (List Int), ys = us.map vec ∧ us.length = ys.length ∧ ∀ u ∈ us, P u
  | [], _ => ⟨[], rfl, rfl, fun b h => by cases h⟩
  | y :: ys, h => by
    obtain ⟨b, rfl, hb⟩ := h y List.mem_cons_self
    obtain ⟨ns, rfl, hl, hn⟩ := vecs_of (fun z hz => h z (List.mem_cons_of_mem _ hz))
    refine ⟨b :: ns, rfl, by simp, fun c hc => ?_⟩
    rcases List.mem_cons.mp hc with rfl | hc
    · exact hb
    · exact hn c hc
theorem add_lst {x y : List D} {M : Mp} {Q : KD} (h : x.length + y.length ≤ sizeLine) (q : Q (.lst (x ++ y)) M) : addD (.lst x) (.lst y) M Q := ⟨x, y, ⟨0, .inr rfl⟩, ⟨0, .inr rfl⟩, rfl, rfl, h, q⟩
theorem szl : 1000000 ≤ sizeLine := by decide
theorem wp__law_window : ∀ ds M Q R, F__law_window ds M Q R → W__law_window { nx := fun _ M' => Q .non M', rt := Q, xr := R } (startE 8 ds) M := by
  rintro ds M Q R ⟨v, wide, p, rfl, hp, hv, w0, w3, q⟩
  have lv := hv.1
  have sz := szl
  unfold W__law_window
  refine seq_gen fun K hK => ?_
  simp (disch := first | assumption | decide) only [wSeq, wNext, wAsg, wgName, wIfS, wB, wOp, wVar, wC, wCall, wCallK, wCons, wNil, wRet, wRetN, wDrop, wTup, wLst, wIf, wAnd, wOr, wNot, wAndV, wOrV, wNotV, wNeg, wChain, fI, fI0, addD, fLt, fLe, fGt, fGe, fIsB, wCB, fAbs, f2I, fInt, fIsq, wPar, wPar3, permD, startE, List.map_cons, List.map_nil, List.cons_append, List.nil_append, List.append_nil, List.length_cons, List.length_nil, List.replicate, List.getElem?_cons_zero, List.getElem?_cons_succ, List.set_cons_zero, List.set_cons_succ, List.getD_cons_zero, List.getD_cons_succ, Nat.reduceAdd, Nat.reduceSub, Nat.zero_add, true_and, and_true, Bool.not_true, Bool.not_false, if_true, if_false, Bool.false_eq_true, reduceIte, decide_eq_true_eq, Bool.not_eq_true', decide_eq_false_iff_not, eqV_int, eqV_str, eqV_bl, decide_true, reduceCtorEq, not_true_eq_false, not_false_eq_true, Bool.not_eq_true, List.not_mem_nil, false_implies, implies_true, Int.reduceNeg, Int.reduceToNat, Int.reducePow, Int.reduceMul, Int.reduceAdd, draw_i, ix_t0, ix_t1, ix_t2, ix_t3, ix_m3, ix_m4, sn_ball_box, sn_cell_box, sn_cell_ball, sn_ball_cell, sn_box_ball, sn_box_cell, decide_false, len_vec]
  split
  · -- many places
    refine ⟨by decide, ?_⟩
    simp (disch := first | assumption | decide) only [wSeq, wNext, wAsg, wgName, wIfS, wB, wOp, wVar, wC, wCall, wCallK, wCons, wNil, wRet, wRetN, wDrop, wTup, wLst, wIf, wAnd, wOr, wNot, wAndV, wOrV, wNotV, wNeg, wChain, fI, fI0, addD, fLt, fLe, fGt, fGe, fIsB, wCB, fAbs, f2I, fInt, fIsq, wPar, wPar3, permD, startE, List.map_cons, List.map_nil, List.cons_append, List.nil_append, List.append_nil, List.length_cons, List.length_nil, List.replicate, List.getElem?_cons_zero, List.getElem?_cons_succ, List.set_cons_zero, List.set_cons_succ, List.getD_cons_zero, List.getD_cons_succ, Nat.reduceAdd, Nat.reduceSub, Nat.zero_add, true_and, and_true, Bool.not_true, Bool.not_false, if_true, if_false, Bool.false_eq_true, reduceIte, decide_eq_true_eq, Bool.not_eq_true', decide_eq_false_iff_not, eqV_int, eqV_str, eqV_bl, decide_true, reduceCtorEq, not_true_eq_false, not_false_eq_true, Bool.not_eq_true, List.not_mem_nil, false_implies, implies_true, Int.reduceNeg, Int.reduceToNat, Int.reducePow, Int.reduceMul, Int.reduceAdd, draw_i, ix_t0, ix_t1, ix_t2, ix_t3, ix_m3, ix_m4, sn_ball_box, sn_cell_box, sn_cell_ball, sn_ball_cell, sn_box_ball, sn_box_cell, decide_false, wFor, wiRange1, len_vec]
    refine ⟨by omega, by omega, ?_⟩
    rw [Int.toNat_natCast]
    refine loop_ix (fun i ρ' M' => M' = M ∧ ∃ (vs : List (List Int)) (v4 : Option D), ρ' = [some (vec v), some (.int wide), some (.lst (vs.map vec)), none, v4, none, none, none] ∧ vs.length ≤ 1 + 2 * i ∧ ∀ u ∈ vs, vk p 60000 u) ?_ ?_ ⟨rfl, [v], none, rfl, Nat.le_refl 1, fun u hu => by rw [List.mem_singleton.mp hu]; exact vk_up hv (by decide)⟩
    · rintro i d ρ' M' hi ⟨rfl, vs, v4, rfl, l1, hvs⟩
      obtain ⟨li, rfl⟩ := intsD_get hi
      refine ⟨True.intro, fun K' hK' => ?_⟩
      rw [Int.zero_add]
      simp (disch := first | assumption | decide) only [wSeq, wNext, wAsg, wgName, wIfS, wB, wOp, wVar, wC, wCall, wCallK, wCons, wNil, wRet, wRetN, wDrop, wTup, wLst, wIf, wAnd, wOr, wNot, wAndV, wOrV, wNotV, wNeg, wChain, fI, fI0, addD, fLt, fLe, fGt, fGe, fIsB, wCB, fAbs, f2I, fInt, fIsq, wPar, wPar3, permD, startE, List.map_cons, List.map_nil, List.cons_append, List.nil_append, List.append_nil, List.length_cons, List.length_nil, List.replicate, List.getElem?_cons_zero, List.getElem?_cons_succ, List.set_cons_zero, List.set_cons_succ, List.getD_cons_zero, List.getD_cons_succ, Nat.reduceAdd, Nat.reduceSub, Nat.zero_add, true_and, and_true, Bool.not_true, Bool.not_false, if_true, if_false, Bool.false_eq_true, reduceIte, decide_eq_true_eq, Bool.not_eq_true', decide_eq_false_iff_not, eqV_int, eqV_str, eqV_bl, decide_true, reduceCtorEq, not_true_eq_false, not_false_eq_true, Bool.not_eq_true, List.not_mem_nil, false_implies, implies_true, Int.reduceNeg, Int.reduceToNat, Int.reducePow, Int.reduceMul, Int.reduceAdd, draw_i, ix_t0, ix_t1, ix_t2, ix_t3, ix_m3, ix_m4, sn_ball_box, sn_cell_box, sn_cell_ball, sn_ball_cell, sn_box_ball, sn_box_cell, decide_false, wLc, wiSeq, wipeE]
      refine ⟨by decide, ?_⟩
      refine lc_any (fun _ y => ∃ u : List Int, y = vec u ∧ vk p 60000 u) True.intro _ [] (by show 0 + 2 ≤ 1000000; decide) (fun d hd K2 hK2 => ?_) fun ys hy1 hy2 => ?_
      · obtain ⟨s, rfl, s0, s1⟩ : ∃ s : Int, d = .int s ∧ -3 ≤ s ∧ s ≤ 3 := by
          simp only [List.mem_cons, List.not_mem_nil, or_false] at hd
          rcases hd with rfl | rfl
          · exact ⟨_, rfl, by omega, by omega⟩
          · exact ⟨_, rfl, by omega, by omega⟩
        simp (disch := first | assumption | decide) only [wSeq, wNext, wAsg, wgName, wIfS, wB, wOp, wVar, wC, wCall, wCallK, wCons, wNil, wRet, wRetN, wDrop, wTup, wLst, wIf, wAnd, wOr, wNot, wAndV, wOrV, wNotV, wNeg, wChain, fI, fI0, addD, fLt, fLe, fGt, fGe, fIsB, wCB, fAbs, f2I, fInt, fIsq, wPar, wPar3, permD, startE, List.map_cons, List.map_nil, List.cons_append, List.nil_append, List.append_nil, List.length_cons, List.length_nil, List.replicate, List.getElem?_cons_zero, List.getElem?_cons_succ, List.set_cons_zero, List.set_cons_succ, List.getD_cons_zero, List.getD_cons_succ, Nat.reduceAdd, Nat.reduceSub, Nat.zero_add, true_and, and_true, Bool.not_true, Bool.not_false, if_true, if_false, Bool.false_eq_true, reduceIte, decide_eq_true_eq, Bool.not_eq_true', decide_eq_false_iff_not, eqV_int, eqV_str, eqV_bl, decide_true, reduceCtorEq, not_true_eq_false, not_false_eq_true, Bool.not_eq_true, List.not_mem_nil, false_implies, implies_true, Int.reduceNeg, Int.reduceToNat, Int.reducePow, Int.reduceMul, Int.reduceAdd, draw_i, ix_t0, ix_t1, ix_t2, ix_t3, ix_m3, ix_m4, sn_ball_box, sn_cell_box, sn_cell_ball, sn_ball_cell, sn_box_ball, sn_box_cell, decide_false, wSl, wNoP, wPart, ixv_i]
        unfold vec
        simp (disch := first | assumption | decide) only [wSeq, wNext, wAsg, wgName, wIfS, wB, wOp, wVar, wC, wCall, wCallK, wCons, wNil, wRet, wRetN, wDrop, wTup, wLst, wIf, wAnd, wOr, wNot, wAndV, wOrV, wNotV, wNeg, wChain, fI, fI0, addD, fLt, fLe, fGt, fGe, fIsB, wCB, fAbs, f2I, fInt, fIsq, wPar, wPar3, permD, startE, List.map_cons, List.map_nil, List.cons_append, List.nil_append, List.append_nil, List.length_cons, List.length_nil, List.replicate, List.getElem?_cons_zero, List.getElem?_cons_succ, List.set_cons_zero, List.set_cons_succ, List.getD_cons_zero, List.getD_cons_succ, Nat.reduceAdd, Nat.reduceSub, Nat.zero_add, true_and, and_true, Bool.not_true, Bool.not_false, if_true, if_false, Bool.false_eq_true, reduceIte, decide_eq_true_eq, Bool.not_eq_true', decide_eq_false_iff_not, eqV_int, eqV_str, eqV_bl, decide_true, reduceCtorEq, not_true_eq_false, not_false_eq_true, Bool.not_eq_true, List.not_mem_nil, false_implies, implies_true, Int.reduceNeg, Int.reduceToNat, Int.reducePow, Int.reduceMul, Int.reduceAdd, draw_i, ix_t0, ix_t1, ix_t2, ix_t3, ix_m3, ix_m4, sn_ball_box, sn_cell_box, sn_cell_ball, sn_ball_cell, sn_box_ball, sn_box_cell, decide_false, slD]
        refine ⟨by decide, ?_, ?_⟩
        · rw [cut_lo (by omega)]
          simp only [List.length_map, List.length_take]
          omega
        · have e1 : ((i : Int) + 1) = ((i + 1 : Nat) : Int) := by omega
          rw [e1, cut_lo (by omega), cut_hi (by omega)]
          refine ⟨?_, ?_⟩
          · simp only [List.length_append, List.length_map, List.length_take, List.length_cons, List.length_nil, List.length_drop]
            omega
          · refine hK2 _ ⟨v.take i ++ [v.getD i 0 + s] ++ v.drop (i + 1), ?_, ?_, fun x hx => ?_⟩
            · unfold vec
              rw [List.map_append, List.map_append]
              rfl
            · simp only [List.length_append, List.length_take, List.length_cons, List.length_nil, List.length_drop]
              omega
            · have g := get_vk hv (by decide) i
              rcases List.mem_append.mp hx with hx | hx
              · rcases List.mem_append.mp hx with hx | hx
                · have := hv.2 x (List.mem_of_mem_take hx)
                  omega
                · rw [List.mem_singleton.mp hx]
                  omega
              · have := hv.2 x (List.mem_of_mem_drop hx)
                omega
      · rw [List.nil_append]
        obtain ⟨us, rfl, hl, hu⟩ := vecs_of (P := vk p 60000) (fun y hy => by
          obtain ⟨i, hi⟩ := List.mem_iff_getElem?.mp hy
          obtain ⟨_, _, h⟩ := hy2 i y hi
          exact h)
        have hy1' : us.length = 2 := by
          rw [hl, hy1]
          rfl
        refine ⟨_, _, ⟨0, .inr rfl⟩, ⟨0, .inr rfl⟩, rfl, rfl, ?_, ?_⟩
        · rw [List.length_map, List.length_map]
          omega
        · rw [← List.map_append]
          refine hK' _ _ ⟨rfl, vs ++ us, _, rfl, by rw [List.length_append]; omega, fun u hu' => ?_⟩
          rcases List.mem_append.mp hu' with z | z
          · exact hvs u z
          · exact hu u z
    · rintro ρ' M' ⟨rfl, vs, v4, rfl, l1, hvs⟩
      refine ⟨True.intro, ?_⟩
      simp (disch := first | assumption | decide) only [wSeq, wNext, wAsg, wgName, wIfS, wB, wOp, wVar, wC, wCall, wCallK, wCons, wNil, wRet, wRetN, wDrop, wTup, wLst, wIf, wAnd, wOr, wNot, wAndV, wOrV, wNotV, wNeg, wChain, fI, fI0, addD, fLt, fLe, fGt, fGe, fIsB, wCB, fAbs, f2I, fInt, fIsq, wPar, wPar3, permD, startE, List.map_cons, List.map_nil, List.cons_append, List.nil_append, List.append_nil, List.length_cons, List.length_nil, List.replicate, List.getElem?_cons_zero, List.getElem?_cons_succ, List.set_cons_zero, List.set_cons_succ, List.getD_cons_zero, List.getD_cons_succ, Nat.reduceAdd, Nat.reduceSub, Nat.zero_add, true_and, and_true, Bool.not_true, Bool.not_false, if_true, if_false, Bool.false_eq_true, reduceIte, decide_eq_true_eq, Bool.not_eq_true', decide_eq_false_iff_not, eqV_int, eqV_str, eqV_bl, decide_true, reduceCtorEq, not_true_eq_false, not_false_eq_true, Bool.not_eq_true, List.not_mem_nil, false_implies, implies_true, Int.reduceNeg, Int.reduceToNat, Int.reducePow, Int.reduceMul, Int.reduceAdd, draw_i, ix_t0, ix_t1, ix_t2, ix_t3, ix_m3, ix_m4, sn_ball_box, sn_cell_box, sn_cell_ball, sn_ball_cell, sn_box_ball, sn_box_cell, decide_false]
      exact q vs M' (fun _ _ e => e) hvs
  · -- few places
    rename_i hfew
    have p3 : p ≤ 3 := by omega
    subst hK
    refine seq_gen fun K hK => ?_
    simp (disch := first | assumption | decide) only [wSeq, wNext, wAsg, wgName, wIfS, wB, wOp, wVar, wC, wCall, wCallK, wCons, wNil, wRet, wRetN, wDrop, wTup, wLst, wIf, wAnd, wOr, wNot, wAndV, wOrV, wNotV, wNeg, wChain, fI, fI0, addD, fLt, fLe, fGt, fGe, fIsB, wCB, fAbs, f2I, fInt, fIsq, wPar, wPar3, permD, startE, List.map_cons, List.map_nil, List.cons_append, List.nil_append, List.append_nil, List.length_cons, List.length_nil, List.replicate, List.getElem?_cons_zero, List.getElem?_cons_succ, List.set_cons_zero, List.set_cons_succ, List.getD_cons_zero, List.getD_cons_succ, Nat.reduceAdd, Nat.reduceSub, Nat.zero_add, true_and, and_true, Bool.not_true, Bool.not_false, if_true, if_false, Bool.false_eq_true, reduceIte, decide_eq_true_eq, Bool.not_eq_true', decide_eq_false_iff_not, eqV_int, eqV_str, eqV_bl, decide_true, reduceCtorEq, not_true_eq_false, not_false_eq_true, Bool.not_eq_true, List.not_mem_nil, false_implies, implies_true, Int.reduceNeg, Int.reduceToNat, Int.reducePow, Int.reduceMul, Int.reduceAdd, draw_i, ix_t0, ix_t1, ix_t2, ix_t3, ix_m3, ix_m4, sn_ball_box, sn_cell_box, sn_cell_ball, sn_ball_cell, sn_box_ball, sn_box_cell, decide_false]
    refine ⟨by decide, by decide, ?_⟩
    subst hK
    refine seq_gen fun K hK => ?_
    refine for_gen fun B hB => ?_
    simp (disch := first | assumption | decide) only [wSeq, wNext, wAsg, wgName, wIfS, wB, wOp, wVar, wC, wCall, wCallK, wCons, wNil, wRet, wRetN, wDrop, wTup, wLst, wIf, wAnd, wOr, wNot, wAndV, wOrV, wNotV, wNeg, wChain, fI, fI0, addD, fLt, fLe, fGt, fGe, fIsB, wCB, fAbs, f2I, fInt, fIsq, wPar, wPar3, permD, startE, List.map_cons, List.map_nil, List.cons_append, List.nil_append, List.append_nil, List.length_cons, List.length_nil, List.replicate, List.getElem?_cons_zero, List.getElem?_cons_succ, List.set_cons_zero, List.set_cons_succ, List.getD_cons_zero, List.getD_cons_succ, Nat.reduceAdd, Nat.reduceSub, Nat.zero_add, true_and, and_true, Bool.not_true, Bool.not_false, if_true, if_false, Bool.false_eq_true, reduceIte, decide_eq_true_eq, Bool.not_eq_true', decide_eq_false_iff_not, eqV_int, eqV_str, eqV_bl, decide_true, reduceCtorEq, not_true_eq_false, not_false_eq_true, Bool.not_eq_true, List.not_mem_nil, false_implies, implies_true, Int.reduceNeg, Int.reduceToNat, Int.reducePow, Int.reduceMul, Int.reduceAdd, draw_i, ix_t0, ix_t1, ix_t2, ix_t3, ix_m3, ix_m4, sn_ball_box, sn_cell_box, sn_cell_ball, sn_ball_cell, sn_box_ball, sn_box_cell, decide_false, wFor, wiSeq, vec]
    have pw7 : ∀ i, i < 4 → 1 ≤ 7 ^ i ∧ 7 ^ i ≤ 343 := by decide
    refine loop_ix (fun i ρ' M' => ∃ (us : List (List Int)) (v3 v5 v6 : Option D), ρ' = [some (vec v), some (.int wide), some (.lst (us.map vec)), v3, none, v5, v6, none] ∧ Up M M' ∧ i ≤ p ∧ us.length ≤ 7 ^ i ∧ 1 ≤ us.length ∧ ∀ u ∈ us, vk i 60000 u) ?_ ?_ ⟨[[]], none, none, none, rfl, (fun _ _ e => e), Nat.zero_le _, Nat.le_refl 1, Nat.le_refl 1, fun u hu => by
        rw [List.mem_singleton.mp hu]
        exact ⟨rfl, fun a ha => by cases ha⟩⟩
    · rintro i d ρ' M' hi ⟨us, v3, v5, v6, rfl, up, lp, l1, l0, hus⟩
      have li := (List.getElem?_eq_some_iff.mp hi).1
      rw [List.length_map, lv] at li
      obtain ⟨x, rfl, x0, x1⟩ : ∃ x : Int, d = .int x ∧ -50000 ≤ x ∧ x ≤ 50000 := by
        rw [List.getElem?_map, List.getElem?_eq_getElem (by omega)] at hi
        exact ⟨_, (Option.some.inj hi).symm, hv.2 _ (List.getElem_mem _)⟩
      refine ⟨True.intro, fun K' hK' => ?_⟩
      have p7 := pw7 i (by omega)
      subst hB
      refine seq_gen fun K2 hK2 => ?_
      simp (disch := first | assumption | decide) only [wSeq, wNext, wAsg, wgName, wIfS, wB, wOp, wVar, wC, wCall, wCallK, wCons, wNil, wRet, wRetN, wDrop, wTup, wLst, wIf, wAnd, wOr, wNot, wAndV, wOrV, wNotV, wNeg, wChain, fI, fI0, addD, fLt, fLe, fGt, fGe, fIsB, wCB, fAbs, f2I, fInt, fIsq, wPar, wPar3, permD, startE, List.map_cons, List.map_nil, List.cons_append, List.nil_append, List.append_nil, List.length_cons, List.length_nil, List.replicate, List.getElem?_cons_zero, List.getElem?_cons_succ, List.set_cons_zero, List.set_cons_succ, List.getD_cons_zero, List.getD_cons_succ, Nat.reduceAdd, Nat.reduceSub, Nat.zero_add, true_and, and_true, Bool.not_true, Bool.not_false, if_true, if_false, Bool.false_eq_true, reduceIte, decide_eq_true_eq, Bool.not_eq_true', decide_eq_false_iff_not, eqV_int, eqV_str, eqV_bl, decide_true, reduceCtorEq, not_true_eq_false, not_false_eq_true, Bool.not_eq_true, List.not_mem_nil, false_implies, implies_true, Int.reduceNeg, Int.reduceToNat, Int.reducePow, Int.reduceMul, Int.reduceAdd, draw_i, ix_t0, ix_t1, ix_t2, ix_t3, ix_m3, ix_m4, sn_ball_box, sn_cell_box, sn_cell_ball, sn_ball_cell, sn_box_ball, sn_box_cell, decide_false, wLstM]
      refine ⟨by decide, fun f hf => ?_⟩
      have up2 : Up M (setM M' f (.lst [])) := fun b c e => by
        have e2 := up b c e
        rw [setM_ne (fun z => by rw [z, hf] at e2; cases e2)]
        exact e2
      subst hK2
      refine seq_gen fun K2 hK2 => ?_
      refine for_gen fun B hB => ?_
      simp (disch := first | assumption | decide) only [wSeq, wNext, wAsg, wgName, wIfS, wB, wOp, wVar, wC, wCall, wCallK, wCons, wNil, wRet, wRetN, wDrop, wTup, wLst, wIf, wAnd, wOr, wNot, wAndV, wOrV, wNotV, wNeg, wChain, fI, fI0, addD, fLt, fLe, fGt, fGe, fIsB, wCB, fAbs, f2I, fInt, fIsq, wPar, wPar3, permD, startE, List.map_cons, List.map_nil, List.cons_append, List.nil_append, List.append_nil, List.length_cons, List.length_nil, List.replicate, List.getElem?_cons_zero, List.getElem?_cons_succ, List.set_cons_zero, List.set_cons_succ, List.getD_cons_zero, List.getD_cons_succ, Nat.reduceAdd, Nat.reduceSub, Nat.zero_add, true_and, and_true, Bool.not_true, Bool.not_false, if_true, if_false, Bool.false_eq_true, reduceIte, decide_eq_true_eq, Bool.not_eq_true', decide_eq_false_iff_not, eqV_int, eqV_str, eqV_bl, decide_true, reduceCtorEq, not_true_eq_false, not_false_eq_true, Bool.not_eq_true, List.not_mem_nil, false_implies, implies_true, Int.reduceNeg, Int.reduceToNat, Int.reducePow, Int.reduceMul, Int.reduceAdd, draw_i, ix_t0, ix_t1, ix_t2, ix_t3, ix_m3, ix_m4, sn_ball_box, sn_cell_box, sn_cell_ball, sn_ball_cell, sn_box_ball, sn_box_cell, decide_false, wFor, wiSeq]
      obtain ⟨m, hm, m1, m7⟩ : ∃ m : Nat, m = (wide + 1 - -wide).toNat ∧ 1 ≤ m ∧ m ≤ 7 := ⟨_, rfl, by omega, by omega⟩
      refine loop_ix (fun j ρ2 M2 => M2 = setM M' f (.lst []) ∧ ∃ (ls : List (List Int)) (l v6 : Option D), ρ2 = [some (vec v), some (.int wide), some (.lst (us.map vec)), some (.int x), none, l, v6, none] ∧ ((j = 0 ∧ l = some (.tok f) ∧ ls = []) ∨ (1 ≤ j ∧ l = some (.lst (ls.map vec)))) ∧ j ≤ us.length ∧ ls.length = j * m ∧ ∀ u ∈ ls, vk (i + 1) 60000 u) ?_ ?_ ⟨rfl, [], _, _, rfl, .inl ⟨rfl, rfl, rfl⟩, Nat.zero_le _, by rw [Nat.zero_mul]; rfl, fun u hu => by cases hu⟩
      · rintro j d2 ρ2 M2 hj ⟨rfl, ls, l, v6, rfl, hl, jl, ll, hls⟩
        have lj := (List.getElem?_eq_some_iff.mp hj).1
        rw [List.length_map] at lj
        obtain ⟨u, hu, rfl⟩ : ∃ u ∈ us, d2 = vec u := by
          obtain ⟨u, hu, e⟩ := List.mem_map.mp (List.mem_of_getElem? hj)
          exact ⟨u, hu, e.symm⟩
        have uk := hus u hu
        refine ⟨True.intro, fun K3 hK3 => ?_⟩
        subst hB
        have jm : j * m ≤ 343 * 7 := Nat.mul_le_mul (by omega) m7
        -- the new ones
        have main : ∀ (ss : List D), seqD (setM M' f (.lst [])) (l.getD .non) = some (ls.map vec) → (∃ a, l.getD .non = .tok a ∨ l.getD .non = .lst (ls.map vec)) → l = some (l.getD .non) →
            wAsg (wOp addD (wVar 5) (wLc (wiRange2 (wCons (wNeg (wVar 1)) (wCons (wOp addD (wVar 1) (wC (.int 1))) wNil))) (wgName 7) wYes (wOp addD (wVar 6) (wTup (wCons (wOp addD (wVar 3) (wVar 7)) wNil))) [7])) (wgName 5) { nx := K3, rt := Q, bk := K2, ct := K3, xr := R } [some (vec v), some (.int wide), some (.lst (us.map vec)), some (.int x), none, l, some (vec u), none] (setM M' f (.lst [])) := fun _ h1 h2 h3 => by
          rw [h3]
          obtain ⟨ld, hld⟩ : ∃ ld, ld = l.getD .non := ⟨_, rfl⟩
          rw [← hld] at h1 h2 ⊢
          simp (disch := first | assumption | decide) only [wSeq, wNext, wAsg, wgName, wIfS, wB, wOp, wVar, wC, wCall, wCallK, wCons, wNil, wRet, wRetN, wDrop, wTup, wLst, wIf, wAnd, wOr, wNot, wAndV, wOrV, wNotV, wNeg, wChain, fI, fI0, addD, fLt, fLe, fGt, fGe, fIsB, wCB, fAbs, f2I, fInt, fIsq, wPar, wPar3, permD, startE, List.map_cons, List.map_nil, List.cons_append, List.nil_append, List.append_nil, List.length_cons, List.length_nil, List.replicate, List.getElem?_cons_zero, List.getElem?_cons_succ, List.set_cons_zero, List.set_cons_succ, List.getD_cons_zero, List.getD_cons_succ, Nat.reduceAdd, Nat.reduceSub, Nat.zero_add, true_and, and_true, Bool.not_true, Bool.not_false, if_true, if_false, Bool.false_eq_true, reduceIte, decide_eq_true_eq, Bool.not_eq_true', decide_eq_false_iff_not, eqV_int, eqV_str, eqV_bl, decide_true, reduceCtorEq, not_true_eq_false, not_false_eq_true, Bool.not_eq_true, List.not_mem_nil, false_implies, implies_true, Int.reduceNeg, Int.reduceToNat, Int.reducePow, Int.reduceMul, Int.reduceAdd, draw_i, ix_t0, ix_t1, ix_t2, ix_t3, ix_m3, ix_m4, sn_ball_box, sn_cell_box, sn_cell_ball, sn_ball_cell, sn_box_ball, sn_box_cell, decide_false, wLc, wiRange2, wipeE]
          refine ⟨⟨by omega, by omega, by omega, by omega⟩, ?_⟩
          refine lc_any (fun _ y => ∃ u : List Int, y = vec u ∧ vk (i + 1) 60000 u) True.intro _ [] (by rw [intsD_len]; simp only [List.length_nil]; omega) (fun d hd K4 hK4 => ?_) fun ys hy1 hy2 => ?_
          · obtain ⟨n, hn⟩ := List.mem_iff_getElem?.mp hd
            obtain ⟨ln, rfl⟩ := intsD_get hn
            simp (disch := first | assumption | decide) only [wSeq, wNext, wAsg, wgName, wIfS, wB, wOp, wVar, wC, wCall, wCallK, wCons, wNil, wRet, wRetN, wDrop, wTup, wLst, wIf, wAnd, wOr, wNot, wAndV, wOrV, wNotV, wNeg, wChain, fI, fI0, addD, fLt, fLe, fGt, fGe, fIsB, wCB, fAbs, f2I, fInt, fIsq, wPar, wPar3, permD, startE, List.map_cons, List.map_nil, List.cons_append, List.nil_append, List.append_nil, List.length_cons, List.length_nil, List.replicate, List.getElem?_cons_zero, List.getElem?_cons_succ, List.set_cons_zero, List.set_cons_succ, List.getD_cons_zero, List.getD_cons_succ, Nat.reduceAdd, Nat.reduceSub, Nat.zero_add, true_and, and_true, Bool.not_true, Bool.not_false, if_true, if_false, Bool.false_eq_true, reduceIte, decide_eq_true_eq, Bool.not_eq_true', decide_eq_false_iff_not, eqV_int, eqV_str, eqV_bl, decide_true, reduceCtorEq, not_true_eq_false, not_false_eq_true, Bool.not_eq_true, List.not_mem_nil, false_implies, implies_true, Int.reduceNeg, Int.reduceToNat, Int.reducePow, Int.reduceMul, Int.reduceAdd, draw_i, ix_t0, ix_t1, ix_t2, ix_t3, ix_m3, ix_m4, sn_ball_box, sn_cell_box, sn_cell_ball, sn_ball_cell, sn_box_ball, sn_box_cell, decide_false]
            refine ⟨by decide, ?_⟩
            unfold vec
            simp (disch := first | assumption | decide) only [wSeq, wNext, wAsg, wgName, wIfS, wB, wOp, wVar, wC, wCall, wCallK, wCons, wNil, wRet, wRetN, wDrop, wTup, wLst, wIf, wAnd, wOr, wNot, wAndV, wOrV, wNotV, wNeg, wChain, fI, fI0, addD, fLt, fLe, fGt, fGe, fIsB, wCB, fAbs, f2I, fInt, fIsq, wPar, wPar3, permD, startE, List.map_cons, List.map_nil, List.cons_append, List.nil_append, List.append_nil, List.length_cons, List.length_nil, List.replicate, List.getElem?_cons_zero, List.getElem?_cons_succ, List.set_cons_zero, List.set_cons_succ, List.getD_cons_zero, List.getD_cons_succ, Nat.reduceAdd, Nat.reduceSub, Nat.zero_add, true_and, and_true, Bool.not_true, Bool.not_false, if_true, if_false, Bool.false_eq_true, reduceIte, decide_eq_true_eq, Bool.not_eq_true', decide_eq_false_iff_not, eqV_int, eqV_str, eqV_bl, decide_true, reduceCtorEq, not_true_eq_false, not_false_eq_true, Bool.not_eq_true, List.not_mem_nil, false_implies, implies_true, Int.reduceNeg, Int.reduceToNat, Int.reducePow, Int.reduceMul, Int.reduceAdd, draw_i, ix_t0, ix_t1, ix_t2, ix_t3, ix_m3, ix_m4, sn_ball_box, sn_cell_box, sn_cell_ball, sn_ball_cell, sn_box_ball, sn_box_cell, decide_false]
            refine ⟨by rw [List.length_map, uk.1]; omega, hK4 _ ⟨u ++ [x + (-wide + (n : Int))], ?_, ?_, fun y hy => ?_⟩⟩
            · unfold vec
              rw [List.map_append]
              rfl
            · rw [List.length_append, uk.1]
              rfl
            · rcases List.mem_append.mp hy with z | z
              · exact uk.2 y z
              · rw [List.mem_singleton.mp z]
                omega
          · rw [List.nil_append]
            obtain ⟨ws, rfl, hl2, hw⟩ := vecs_of (P := vk (i + 1) 60000) (fun y hy => by
              obtain ⟨i, hi⟩ := List.mem_iff_getElem?.mp hy
              obtain ⟨_, _, h⟩ := hy2 i y hi
              exact h)
            rw [intsD_len, ← hm] at hy1
            have fin : K3 [some (vec v), some (.int wide), some (.lst (us.map vec)), some (.int x), none, some (.lst (ls.map vec ++ ws.map vec)), some (vec u), none] (setM M' f (.lst [])) := by
              rw [← List.map_append]
              refine hK3 _ _ ⟨rfl, ls ++ ws, _, _, rfl, .inr ⟨by omega, rfl⟩, by omega, ?_, fun y hy => ?_⟩
              · rw [List.length_append, ll, hl2, hy1, Nat.add_mul, Nat.one_mul]
              · rcases List.mem_append.mp hy with z | z
                · exact hls y z
                · exact hw y z
            have via : ∃ i j, (∃ a, ld = .tok a ∨ ld = .lst i) ∧ (∃ a, D.lst (ws.map vec) = .tok a ∨ D.lst (ws.map vec) = .lst j) ∧ seqD (setM M' f (.lst [])) ld = some i ∧ seqD (setM M' f (.lst [])) (.lst (ws.map vec)) = some j ∧ i.length + j.length ≤ sizeLine ∧ K3 [some (vec v), some (.int wide), some (.lst (us.map vec)), some (.int x), none, some (.lst (i ++ j)), some (vec u), none] (setM M' f (.lst [])) :=
              ⟨_, _, h2, ⟨0, .inr rfl⟩, h1, rfl, by rw [List.length_map, List.length_map]; omega, fin⟩
            obtain ⟨a, h2⟩ := h2
            rcases h2 with rfl | rfl
            · exact via
            · exact via
        rcases hl with ⟨rfl, rfl, rfl⟩ | ⟨_, rfl⟩
        · refine main [] ?_ ⟨f, .inl rfl⟩ rfl
          show (match setM M' f (.lst []) f with | some (.lst ds) => some ds | _ => none) = _
          rw [setM_same]
          rfl
        · exact main [] rfl ⟨0, .inr rfl⟩ rfl
      · rintro ρ2 M2 ⟨rfl, ls, l, v6, rfl, hl, jl, ll, hls⟩
        rw [List.length_map] at hl ll
        refine ⟨True.intro, ?_⟩
        show K2 _ _
        subst hK2
        rcases hl with ⟨z, _⟩ | ⟨_, rfl⟩
        · omega
        · simp (disch := first | assumption | decide) only [wSeq, wNext, wAsg, wgName, wIfS, wB, wOp, wVar, wC, wCall, wCallK, wCons, wNil, wRet, wRetN, wDrop, wTup, wLst, wIf, wAnd, wOr, wNot, wAndV, wOrV, wNotV, wNeg, wChain, fI, fI0, addD, fLt, fLe, fGt, fGe, fIsB, wCB, fAbs, f2I, fInt, fIsq, wPar, wPar3, permD, startE, List.map_cons, List.map_nil, List.cons_append, List.nil_append, List.append_nil, List.length_cons, List.length_nil, List.replicate, List.getElem?_cons_zero, List.getElem?_cons_succ, List.set_cons_zero, List.set_cons_succ, List.getD_cons_zero, List.getD_cons_succ, Nat.reduceAdd, Nat.reduceSub, Nat.zero_add, true_and, and_true, Bool.not_true, Bool.not_false, if_true, if_false, Bool.false_eq_true, reduceIte, decide_eq_true_eq, Bool.not_eq_true', decide_eq_false_iff_not, eqV_int, eqV_str, eqV_bl, decide_true, reduceCtorEq, not_true_eq_false, not_false_eq_true, Bool.not_eq_true, List.not_mem_nil, false_implies, implies_true, Int.reduceNeg, Int.reduceToNat, Int.reducePow, Int.reduceMul, Int.reduceAdd, draw_i, ix_t0, ix_t1, ix_t2, ix_t3, ix_m3, ix_m4, sn_ball_box, sn_cell_box, sn_cell_ball, sn_ball_cell, sn_box_ball, sn_box_cell, decide_false]
          refine hK' _ _ ⟨ls, _, _, _, rfl, up2, by omega, ?_, ?_, hls⟩
          · rw [ll, Nat.pow_succ]
            exact Nat.mul_le_mul l1 m7
          · rw [ll]
            have := Nat.mul_le_mul l0 m1
            omega
    · rintro ρ' M' ⟨us, v3, v5, v6, rfl, up, lp, l1, l0, hus⟩
      rw [List.length_map, lv] at hus
      refine ⟨True.intro, ?_⟩
      show K _ _
      subst hK
      simp (disch := first | assumption | decide) only [wSeq, wNext, wAsg, wgName, wIfS, wB, wOp, wVar, wC, wCall, wCallK, wCons, wNil, wRet, wRetN, wDrop, wTup, wLst, wIf, wAnd, wOr, wNot, wAndV, wOrV, wNotV, wNeg, wChain, fI, fI0, addD, fLt, fLe, fGt, fGe, fIsB, wCB, fAbs, f2I, fInt, fIsq, wPar, wPar3, permD, startE, List.map_cons, List.map_nil, List.cons_append, List.nil_append, List.append_nil, List.length_cons, List.length_nil, List.replicate, List.getElem?_cons_zero, List.getElem?_cons_succ, List.set_cons_zero, List.set_cons_succ, List.getD_cons_zero, List.getD_cons_succ, Nat.reduceAdd, Nat.reduceSub, Nat.zero_add, true_and, and_true, Bool.not_true, Bool.not_false, if_true, if_false, Bool.false_eq_true, reduceIte, decide_eq_true_eq, Bool.not_eq_true', decide_eq_false_iff_not, eqV_int, eqV_str, eqV_bl, decide_true, reduceCtorEq, not_true_eq_false, not_false_eq_true, Bool.not_eq_true, List.not_mem_nil, false_implies, implies_true, Int.reduceNeg, Int.reduceToNat, Int.reducePow, Int.reduceMul, Int.reduceAdd, draw_i, ix_t0, ix_t1, ix_t2, ix_t3, ix_m3, ix_m4, sn_ball_box, sn_cell_box, sn_cell_ball, sn_ball_cell, sn_box_ball, sn_box_cell, decide_false]
      exact q us M' up hus
end K21
namespace K21
open PySem L2 L3
theorem hold_i {M : Mp} {k : Str} {r : Rg} {v : List Int} {p : Nat} {Q : KD} {R} (hp : p ≤ 8) (ok : rgOk p r) (hv : vk p 60000 v) (q : Q (.bl (holdB k r v)) M) : F_holds_vector [.str k, r.d, vec v] M Q R := ⟨k, r, v, p, rfl, hp, ok, hv, q⟩
theorem lhold_i {M : Mp} {k : Str} {r : Rg} {v : List Int} {p : Nat} {Q : KD} {R} (hp : p ≤ 8) (ok : rgOk p r) (hv : vk p 60000 v) (q : Q (.bl (holdB k r v)) M) : F__law_holds [.str k, r.d, vec v] M Q R := ⟨k, r, v, p, rfl, hp, ok, hv, q⟩
def farF (k : Str) (l h v : List Int) (i : Nat) : Int := pickFar k (v.getD i 0) (l.getD i 0) (h.getD i 0)
theorem farF_or (k : Str) (l h v : List Int) (i : Nat) : farF k l h v i = l.getD i 0 ∨ farF k l h v i = h.getD i 0 := by
  unfold farF pickFar
  split
  · exact .inl rfl
  · exact .inr rfl
theorem farF_part {k : Str} {p : Nat} {l h v : List Int} (ok : rgOk p (.box l h)) : ∀ i, i < p → partI k (v.getD i 0 - farF k l h v i) = partI k (mx2 (v.getD i 0 - l.getD i 0) (h.getD i 0 - v.getD i 0)) := fun i hi => by
  have lh := ok.2.2 i hi
  unfold farF pickFar
  by_cases hk : k = "unlike"
  · subst hk
    rw [part_un, part_un]
    unfold mx2
    split
    · rename_i z
      rcases z with z | ⟨_, z⟩
      · split <;> split <;> (try split) <;> omega
      · split <;> split <;> (try split) <;> omega
    · rename_i z
      have z1 : ¬ (v.getD i 0 - l.getD i 0 > h.getD i 0 - v.getD i 0) := fun q => z (.inl q)
      have z2 : ¬ (v.getD i 0 = h.getD i 0) := fun q => z (.inr ⟨rfl, q⟩)
      split <;> split <;> (try split) <;> omega
  · refine part_pm k ?_
    unfold mx2
    split
    · rename_i z
      rcases z with z | ⟨z, _⟩
      · split <;> omega
      · exact absurd z hk
    · rename_i z
      have z1 : ¬ (v.getD i 0 - l.getD i 0 > h.getD i 0 - v.getD i 0) := fun q => z (.inl q)
      split <;> omega
theorem far_held {k : Str} {p : Nat} {l h v : List Int} (ok : rgOk p (.box l h)) : holdB k (.box l h) ((List.range p).map (farF k l h v)) = true := by
  refine (box_at ok.1.1 ok.2.1.1 (by rw [List.length_map, List.length_range])).mpr fun i hi => ?_
  have lh := ok.2.2 i hi
  rw [get_range _ hi]
  rcases farF_or k l h v i with z | z <;> rw [z] <;> omega
theorem far_vk {k : Str} {p : Nat} {l h v : List Int} (ok : rgOk p (.box l h)) : vk p 60000 ((List.range p).map (farF k l h v)) := ⟨by rw [List.length_map, List.length_range], fun a ha => by
  obtain ⟨i, _, rfl⟩ := List.mem_map.mp ha
  have a1 := get_vk ok.1 (by decide) i
  have a2 := get_vk ok.2.1 (by decide) i
  rcases farF_or k l h v i with z | z <;> rw [z] <;> omega⟩
theorem wp__law_box_reached : ∀ ds M Q R, F__law_box_reached ds M Q R → W__law_box_reached { nx := fun _ M' => Q .non M', rt := Q, xr := R } (startE 8 ds) M := by
  rintro ds M Q R ⟨k, l, h, v, p, rfl, hp, ok, hv, q⟩
  have lv := hv.1
  have ll := ok.1.1
  have lh := ok.2.1.1
  have sv := vk_sm hp (by decide) hv
  have nv := near_vk ok (vk_up hv (by decide))
  have fv := far_vk (k := k) (v := v) ok
  obtain ⟨fl, efl⟩ : ∃ fl, fl = floorI k (.box l h) v := ⟨_, rfl⟩
  obtain ⟨ce, ece⟩ : ∃ ce, ce = ceilI k (.box l h) v := ⟨_, rfl⟩
  rw [← efl, ← ece]
  unfold W__law_box_reached
  refine seq_gen fun K hK => ?_
  simp (disch := first | assumption | decide) only [wSeq, wNext, wAsg, wgName, wIfS, wB, wOp, wVar, wC, wCall, wCallK, wCons, wNil, wRet, wRetN, wDrop, wTup, wLst, wIf, wAnd, wOr, wNot, wAndV, wOrV, wNotV, wNeg, wChain, fI, fI0, addD, fLt, fLe, fGt, fGe, fIsB, wCB, fAbs, f2I, fInt, fIsq, wPar, wPar3, permD, startE, List.map_cons, List.map_nil, List.cons_append, List.nil_append, List.append_nil, List.length_cons, List.length_nil, List.replicate, List.getElem?_cons_zero, List.getElem?_cons_succ, List.set_cons_zero, List.set_cons_succ, List.getD_cons_zero, List.getD_cons_succ, Nat.reduceAdd, Nat.reduceSub, Nat.zero_add, true_and, and_true, Bool.not_true, Bool.not_false, if_true, if_false, Bool.false_eq_true, reduceIte, decide_eq_true_eq, Bool.not_eq_true', decide_eq_false_iff_not, eqV_int, eqV_str, eqV_bl, decide_true, reduceCtorEq, not_true_eq_false, not_false_eq_true, Bool.not_eq_true, List.not_mem_nil, false_implies, implies_true, Int.reduceNeg, Int.reduceToNat, Int.reducePow, Int.reduceMul, Int.reduceAdd, draw_i, ix_t0, ix_t1, ix_t2, ix_t3, ix_m3, ix_m4, sn_ball_box, sn_cell_box, sn_cell_ball, sn_ball_cell, sn_box_ball, sn_box_cell, decide_false, wLc, wiRange1, wipeE, len_vec, fTuple]
  refine ⟨by omega, by omega, ?_⟩
  rw [Int.toNat_natCast, nums_range, lv]
  refine lc_nums (fun i => if h.getD i 0 < (if l.getD i 0 > v.getD i 0 then l.getD i 0 else v.getD i 0) then h.getD i 0 else (if l.getD i 0 > v.getD i 0 then l.getD i 0 else v.getD i 0)) _ (by rw [List.length_range]; omega) (fun i hi K hK => ?_) ?_
  · have hi := List.mem_range.mp hi
    have h1 : i < l.length := by omega
    have h2 : i < h.length := by omega
    have h3 : i < v.length := by omega
    unfold Rg.d
    simp (disch := first | assumption | decide) only [wSeq, wNext, wAsg, wgName, wIfS, wB, wOp, wVar, wC, wCall, wCallK, wCons, wNil, wRet, wRetN, wDrop, wTup, wLst, wIf, wAnd, wOr, wNot, wAndV, wOrV, wNotV, wNeg, wChain, fI, fI0, addD, fLt, fLe, fGt, fGe, fIsB, wCB, fAbs, f2I, fInt, fIsq, wPar, wPar3, permD, startE, List.map_cons, List.map_nil, List.cons_append, List.nil_append, List.append_nil, List.length_cons, List.length_nil, List.replicate, List.getElem?_cons_zero, List.getElem?_cons_succ, List.set_cons_zero, List.set_cons_succ, List.getD_cons_zero, List.getD_cons_succ, Nat.reduceAdd, Nat.reduceSub, Nat.zero_add, true_and, and_true, Bool.not_true, Bool.not_false, if_true, if_false, Bool.false_eq_true, reduceIte, decide_eq_true_eq, Bool.not_eq_true', decide_eq_false_iff_not, eqV_int, eqV_str, eqV_bl, decide_true, reduceCtorEq, not_true_eq_false, not_false_eq_true, Bool.not_eq_true, List.not_mem_nil, false_implies, implies_true, Int.reduceNeg, Int.reduceToNat, Int.reducePow, Int.reduceMul, Int.reduceAdd, draw_i, ix_t0, ix_t1, ix_t2, ix_t3, ix_m3, ix_m4, sn_ball_box, sn_cell_box, sn_cell_ball, sn_ball_cell, sn_box_ball, sn_box_cell, decide_false, ixv_i]
    exact hK
  refine ⟨_, rfl, ?_⟩
  subst hK
  refine seq_gen fun K hK => ?_
  simp (disch := first | assumption | decide) only [wSeq, wNext, wAsg, wgName, wIfS, wB, wOp, wVar, wC, wCall, wCallK, wCons, wNil, wRet, wRetN, wDrop, wTup, wLst, wIf, wAnd, wOr, wNot, wAndV, wOrV, wNotV, wNeg, wChain, fI, fI0, addD, fLt, fLe, fGt, fGe, fIsB, wCB, fAbs, f2I, fInt, fIsq, wPar, wPar3, permD, startE, List.map_cons, List.map_nil, List.cons_append, List.nil_append, List.append_nil, List.length_cons, List.length_nil, List.replicate, List.getElem?_cons_zero, List.getElem?_cons_succ, List.set_cons_zero, List.set_cons_succ, List.getD_cons_zero, List.getD_cons_succ, Nat.reduceAdd, Nat.reduceSub, Nat.zero_add, true_and, and_true, Bool.not_true, Bool.not_false, if_true, if_false, Bool.false_eq_true, reduceIte, decide_eq_true_eq, Bool.not_eq_true', decide_eq_false_iff_not, eqV_int, eqV_str, eqV_bl, decide_true, reduceCtorEq, not_true_eq_false, not_false_eq_true, Bool.not_eq_true, List.not_mem_nil, false_implies, implies_true, Int.reduceNeg, Int.reduceToNat, Int.reducePow, Int.reduceMul, Int.reduceAdd, draw_i, ix_t0, ix_t1, ix_t2, ix_t3, ix_m3, ix_m4, sn_ball_box, sn_cell_box, sn_cell_ball, sn_ball_cell, sn_box_ball, sn_box_cell, decide_false]
  refine hold_i (v := nearV p l h v) hp ok nv ?_
  rw [near_held ok]
  simp (disch := first | assumption | decide) only [wSeq, wNext, wAsg, wgName, wIfS, wB, wOp, wVar, wC, wCall, wCallK, wCons, wNil, wRet, wRetN, wDrop, wTup, wLst, wIf, wAnd, wOr, wNot, wAndV, wOrV, wNotV, wNeg, wChain, fI, fI0, addD, fLt, fLe, fGt, fGe, fIsB, wCB, fAbs, f2I, fInt, fIsq, wPar, wPar3, permD, startE, List.map_cons, List.map_nil, List.cons_append, List.nil_append, List.append_nil, List.length_cons, List.length_nil, List.replicate, List.getElem?_cons_zero, List.getElem?_cons_succ, List.set_cons_zero, List.set_cons_succ, List.getD_cons_zero, List.getD_cons_succ, Nat.reduceAdd, Nat.reduceSub, Nat.zero_add, true_and, and_true, Bool.not_true, Bool.not_false, if_true, if_false, Bool.false_eq_true, reduceIte, decide_eq_true_eq, Bool.not_eq_true', decide_eq_false_iff_not, eqV_int, eqV_str, eqV_bl, decide_true, reduceCtorEq, not_true_eq_false, not_false_eq_true, Bool.not_eq_true, List.not_mem_nil, false_implies, implies_true, Int.reduceNeg, Int.reduceToNat, Int.reducePow, Int.reduceMul, Int.reduceAdd, draw_i, ix_t0, ix_t1, ix_t2, ix_t3, ix_m3, ix_m4, sn_ball_box, sn_cell_box, sn_cell_ball, sn_ball_cell, sn_box_ball, sn_box_cell, decide_false]
  refine ldist_i (u := nearV p l h v) (by rw [nv.1, lv]) sv (vk_sm hp (by decide) nv) ?_
  rw [near_dist ok lv, ← efl]
  simp (disch := first | assumption | decide) only [wSeq, wNext, wAsg, wgName, wIfS, wB, wOp, wVar, wC, wCall, wCallK, wCons, wNil, wRet, wRetN, wDrop, wTup, wLst, wIf, wAnd, wOr, wNot, wAndV, wOrV, wNotV, wNeg, wChain, fI, fI0, addD, fLt, fLe, fGt, fGe, fIsB, wCB, fAbs, f2I, fInt, fIsq, wPar, wPar3, permD, startE, List.map_cons, List.map_nil, List.cons_append, List.nil_append, List.append_nil, List.length_cons, List.length_nil, List.replicate, List.getElem?_cons_zero, List.getElem?_cons_succ, List.set_cons_zero, List.set_cons_succ, List.getD_cons_zero, List.getD_cons_succ, Nat.reduceAdd, Nat.reduceSub, Nat.zero_add, true_and, and_true, Bool.not_true, Bool.not_false, if_true, if_false, Bool.false_eq_true, reduceIte, decide_eq_true_eq, Bool.not_eq_true', decide_eq_false_iff_not, eqV_int, eqV_str, eqV_bl, decide_true, reduceCtorEq, not_true_eq_false, not_false_eq_true, Bool.not_eq_true, List.not_mem_nil, false_implies, implies_true, Int.reduceNeg, Int.reduceToNat, Int.reducePow, Int.reduceMul, Int.reduceAdd, draw_i, ix_t0, ix_t1, ix_t2, ix_t3, ix_m3, ix_m4, sn_ball_box, sn_cell_box, sn_cell_ball, sn_ball_cell, sn_box_ball, sn_box_cell, decide_false]
  subst hK
  refine seq_gen fun K hK => ?_
  simp (disch := first | assumption | decide) only [wSeq, wNext, wAsg, wgName, wIfS, wB, wOp, wVar, wC, wCall, wCallK, wCons, wNil, wRet, wRetN, wDrop, wTup, wLst, wIf, wAnd, wOr, wNot, wAndV, wOrV, wNotV, wNeg, wChain, fI, fI0, addD, fLt, fLe, fGt, fGe, fIsB, wCB, fAbs, f2I, fInt, fIsq, wPar, wPar3, permD, startE, List.map_cons, List.map_nil, List.cons_append, List.nil_append, List.append_nil, List.length_cons, List.length_nil, List.replicate, List.getElem?_cons_zero, List.getElem?_cons_succ, List.set_cons_zero, List.set_cons_succ, List.getD_cons_zero, List.getD_cons_succ, Nat.reduceAdd, Nat.reduceSub, Nat.zero_add, true_and, and_true, Bool.not_true, Bool.not_false, if_true, if_false, Bool.false_eq_true, reduceIte, decide_eq_true_eq, Bool.not_eq_true', decide_eq_false_iff_not, eqV_int, eqV_str, eqV_bl, decide_true, reduceCtorEq, not_true_eq_false, not_false_eq_true, Bool.not_eq_true, List.not_mem_nil, false_implies, implies_true, Int.reduceNeg, Int.reduceToNat, Int.reducePow, Int.reduceMul, Int.reduceAdd, draw_i, ix_t0, ix_t1, ix_t2, ix_t3, ix_m3, ix_m4, sn_ball_box, sn_cell_box, sn_cell_ball, sn_ball_cell, sn_box_ball, sn_box_cell, decide_false, wLc, wiRange1, wipeE, len_vec, fTuple]
  refine ⟨by omega, by omega, ?_⟩
  rw [Int.toNat_natCast, nums_range, lv]
  refine lc_nums (farF k l h v) _ (by rw [List.length_range]; omega) (fun i hi K hK => ?_) ?_
  · have hi := List.mem_range.mp hi
    have h1 : i < l.length := by omega
    have h2 : i < h.length := by omega
    have h3 : i < v.length := by omega
    unfold Rg.d
    simp (disch := first | assumption | decide) only [wSeq, wNext, wAsg, wgName, wIfS, wB, wOp, wVar, wC, wCall, wCallK, wCons, wNil, wRet, wRetN, wDrop, wTup, wLst, wIf, wAnd, wOr, wNot, wAndV, wOrV, wNotV, wNeg, wChain, fI, fI0, addD, fLt, fLe, fGt, fGe, fIsB, wCB, fAbs, f2I, fInt, fIsq, wPar, wPar3, permD, startE, List.map_cons, List.map_nil, List.cons_append, List.nil_append, List.append_nil, List.length_cons, List.length_nil, List.replicate, List.getElem?_cons_zero, List.getElem?_cons_succ, List.set_cons_zero, List.set_cons_succ, List.getD_cons_zero, List.getD_cons_succ, Nat.reduceAdd, Nat.reduceSub, Nat.zero_add, true_and, and_true, Bool.not_true, Bool.not_false, if_true, if_false, Bool.false_eq_true, reduceIte, decide_eq_true_eq, Bool.not_eq_true', decide_eq_false_iff_not, eqV_int, eqV_str, eqV_bl, decide_true, reduceCtorEq, not_true_eq_false, not_false_eq_true, Bool.not_eq_true, List.not_mem_nil, false_implies, implies_true, Int.reduceNeg, Int.reduceToNat, Int.reducePow, Int.reduceMul, Int.reduceAdd, draw_i, ix_t0, ix_t1, ix_t2, ix_t3, ix_m3, ix_m4, sn_ball_box, sn_cell_box, sn_cell_ball, sn_ball_cell, sn_box_ball, sn_box_cell, decide_false, ixv_i, pickfar_i]
    exact hK
  refine ⟨_, rfl, ?_⟩
  subst hK
  simp (disch := first | assumption | decide) only [wSeq, wNext, wAsg, wgName, wIfS, wB, wOp, wVar, wC, wCall, wCallK, wCons, wNil, wRet, wRetN, wDrop, wTup, wLst, wIf, wAnd, wOr, wNot, wAndV, wOrV, wNotV, wNeg, wChain, fI, fI0, addD, fLt, fLe, fGt, fGe, fIsB, wCB, fAbs, f2I, fInt, fIsq, wPar, wPar3, permD, startE, List.map_cons, List.map_nil, List.cons_append, List.nil_append, List.append_nil, List.length_cons, List.length_nil, List.replicate, List.getElem?_cons_zero, List.getElem?_cons_succ, List.set_cons_zero, List.set_cons_succ, List.getD_cons_zero, List.getD_cons_succ, Nat.reduceAdd, Nat.reduceSub, Nat.zero_add, true_and, and_true, Bool.not_true, Bool.not_false, if_true, if_false, Bool.false_eq_true, reduceIte, decide_eq_true_eq, Bool.not_eq_true', decide_eq_false_iff_not, eqV_int, eqV_str, eqV_bl, decide_true, reduceCtorEq, not_true_eq_false, not_false_eq_true, Bool.not_eq_true, List.not_mem_nil, false_implies, implies_true, Int.reduceNeg, Int.reduceToNat, Int.reducePow, Int.reduceMul, Int.reduceAdd, draw_i, ix_t0, ix_t1, ix_t2, ix_t3, ix_m3, ix_m4, sn_ball_box, sn_cell_box, sn_cell_ball, sn_ball_cell, sn_box_ball, sn_box_cell, decide_false]
  refine hold_i hp ok fv ?_
  rw [far_held ok]
  simp (disch := first | assumption | decide) only [wSeq, wNext, wAsg, wgName, wIfS, wB, wOp, wVar, wC, wCall, wCallK, wCons, wNil, wRet, wRetN, wDrop, wTup, wLst, wIf, wAnd, wOr, wNot, wAndV, wOrV, wNotV, wNeg, wChain, fI, fI0, addD, fLt, fLe, fGt, fGe, fIsB, wCB, fAbs, f2I, fInt, fIsq, wPar, wPar3, permD, startE, List.map_cons, List.map_nil, List.cons_append, List.nil_append, List.append_nil, List.length_cons, List.length_nil, List.replicate, List.getElem?_cons_zero, List.getElem?_cons_succ, List.set_cons_zero, List.set_cons_succ, List.getD_cons_zero, List.getD_cons_succ, Nat.reduceAdd, Nat.reduceSub, Nat.zero_add, true_and, and_true, Bool.not_true, Bool.not_false, if_true, if_false, Bool.false_eq_true, reduceIte, decide_eq_true_eq, Bool.not_eq_true', decide_eq_false_iff_not, eqV_int, eqV_str, eqV_bl, decide_true, reduceCtorEq, not_true_eq_false, not_false_eq_true, Bool.not_eq_true, List.not_mem_nil, false_implies, implies_true, Int.reduceNeg, Int.reduceToNat, Int.reducePow, Int.reduceMul, Int.reduceAdd, draw_i, ix_t0, ix_t1, ix_t2, ix_t3, ix_m3, ix_m4, sn_ball_box, sn_cell_box, sn_cell_ball, sn_ball_cell, sn_box_ball, sn_box_cell, decide_false]
  refine ldist_i (by rw [fv.1, lv]) sv (vk_sm hp (by decide) fv) ?_
  rw [far_dist ok lv _ (farF_part ok), ← ece]
  simp (disch := first | assumption | decide) only [wSeq, wNext, wAsg, wgName, wIfS, wB, wOp, wVar, wC, wCall, wCallK, wCons, wNil, wRet, wRetN, wDrop, wTup, wLst, wIf, wAnd, wOr, wNot, wAndV, wOrV, wNotV, wNeg, wChain, fI, fI0, addD, fLt, fLe, fGt, fGe, fIsB, wCB, fAbs, f2I, fInt, fIsq, wPar, wPar3, permD, startE, List.map_cons, List.map_nil, List.cons_append, List.nil_append, List.append_nil, List.length_cons, List.length_nil, List.replicate, List.getElem?_cons_zero, List.getElem?_cons_succ, List.set_cons_zero, List.set_cons_succ, List.getD_cons_zero, List.getD_cons_succ, Nat.reduceAdd, Nat.reduceSub, Nat.zero_add, true_and, and_true, Bool.not_true, Bool.not_false, if_true, if_false, Bool.false_eq_true, reduceIte, decide_eq_true_eq, Bool.not_eq_true', decide_eq_false_iff_not, eqV_int, eqV_str, eqV_bl, decide_true, reduceCtorEq, not_true_eq_false, not_false_eq_true, Bool.not_eq_true, List.not_mem_nil, false_implies, implies_true, Int.reduceNeg, Int.reduceToNat, Int.reducePow, Int.reduceMul, Int.reduceAdd, draw_i, ix_t0, ix_t1, ix_t2, ix_t3, ix_m3, ix_m4, sn_ball_box, sn_cell_box, sn_cell_ball, sn_ball_cell, sn_box_ball, sn_box_cell, decide_false]
  exact q
theorem win_i {M : Mp} {v : List Int} {wide : Int} {p : Nat} {Q : KD} {R} (hp : p ≤ 8) (hv : vk p 50000 v) (w0 : 0 ≤ wide) (w3 : wide ≤ 3) (q : ∀ (vs : List (List Int)) (M' : Mp), Up M M' → (∀ u ∈ vs, vk p 60000 u) → Q (.lst (vs.map vec)) M') : F__law_window [vec v, .int wide] M Q R := ⟨v, wide, p, rfl, hp, hv, w0, w3, q⟩
theorem shown_bl {b : Bool} : shown (.bl b) = shown (.bl b) := rfl
theorem wp__law_tried_right : ∀ ds M Q R, F__law_tried_right ds M Q R → W__law_tried_right { nx := fun _ M' => Q .non M', rt := Q, xr := R } (startE 9 ds) M := by
  rintro ds M Q R ⟨k, r, v, low, high, p, rfl, hp, ok, hv, hb, q⟩
  have lv := hv.1
  have sv := vk_sm hp (by decide) hv
  unfold W__law_tried_right
  -- around some vectors
  have main : ∀ (ms : List (List Int)), (∀ u ∈ ms, vk p 50000 u) → ∀ K : En → Mp → Prop, (∀ ρ M', Up M M' → K ρ M') → wFor (wiSeq (wVar 5)) (wgName 6) (wFor (wiSeq (wCall F__law_window (wCons (wVar 6) (wCons (wIf (wB (wOp (eqV false) (wCB fLen (wCons (wVar 2) wNil)) (wC (.int 1)))) (wC (.int 3)) (wIf (wB (wOp (eqV false) (wCB fLen (wCons (wVar 2) wNil)) (wC (.int 2)))) (wC (.int 2)) (wC (.int 1)))) wNil)))) (wgName 7) (wSeq (wAsg (wCall F__law_holds (wCons (wVar 0) (wCons (wVar 1) (wCons (wVar 7) wNil)))) (wgName 8)) (wSeq (wIfS (wB (wOp (eqV true) (wCB fRepr (wCons (wCall F_holds_vector (wCons (wVar 0) (wCons (wVar 1) (wCons (wVar 7) wNil)))) wNil)) (wCB fRepr (wCons (wVar 8) wNil)))) (wRet (wC (.bl false))) wNext) (wIfS (wAnd (wB (wVar 8)) (wNot (wB (wChain fLe fLe (wVar 3) (wCall F__law_distance (wCons (wVar 0) (wCons (wVar 2) (wCons (wVar 7) wNil)))) (wVar 4))))) (wRet (wC (.bl false))) wNext)))) { nx := K, rt := Q, xr := R } [some (.str k), some r.d, some (vec v), some (.int low), some (.int high), some (.lst (ms.map vec)), none, none, none] M := by
    intro ms hms K hK
    refine for_gen fun B hB => ?_
    simp (disch := first | assumption | decide) only [wSeq, wNext, wAsg, wgName, wIfS, wB, wOp, wVar, wC, wCall, wCallK, wCons, wNil, wRet, wRetN, wDrop, wTup, wLst, wIf, wAnd, wOr, wNot, wAndV, wOrV, wNotV, wNeg, wChain, fI, fI0, addD, fLt, fLe, fGt, fGe, fIsB, wCB, fAbs, f2I, fInt, fIsq, wPar, wPar3, permD, startE, List.map_cons, List.map_nil, List.cons_append, List.nil_append, List.append_nil, List.length_cons, List.length_nil, List.replicate, List.getElem?_cons_zero, List.getElem?_cons_succ, List.set_cons_zero, List.set_cons_succ, List.getD_cons_zero, List.getD_cons_succ, Nat.reduceAdd, Nat.reduceSub, Nat.zero_add, true_and, and_true, Bool.not_true, Bool.not_false, if_true, if_false, Bool.false_eq_true, reduceIte, decide_eq_true_eq, Bool.not_eq_true', decide_eq_false_iff_not, eqV_int, eqV_str, eqV_bl, decide_true, reduceCtorEq, not_true_eq_false, not_false_eq_true, Bool.not_eq_true, List.not_mem_nil, false_implies, implies_true, Int.reduceNeg, Int.reduceToNat, Int.reducePow, Int.reduceMul, Int.reduceAdd, draw_i, ix_t0, ix_t1, ix_t2, ix_t3, ix_m3, ix_m4, sn_ball_box, sn_cell_box, sn_cell_ball, sn_ball_cell, sn_box_ball, sn_box_cell, decide_false, wFor, wiSeq]
    refine loop_ix (fun i ρ' M' => Up M M' ∧ ∃ v6 v7 v8 : Option D, ρ' = [some (.str k), some r.d, some (vec v), some (.int low), some (.int high), some (.lst (ms.map vec)), v6, v7, v8]) ?_ ?_ ⟨fun _ _ e => e, none, none, none, rfl⟩
    · rintro i d ρ' M' hi ⟨up, v6, v7, v8, rfl⟩
      obtain ⟨m, hm, rfl⟩ : ∃ m ∈ ms, d = vec m := by
        obtain ⟨u, hu, e⟩ := List.mem_map.mp (List.mem_of_getElem? hi)
        exact ⟨u, hu, e.symm⟩
      refine ⟨True.intro, fun K' hK' => ?_⟩
      subst hB
      refine for_gen fun B hB => ?_
      simp (disch := first | assumption | decide) only [wSeq, wNext, wAsg, wgName, wIfS, wB, wOp, wVar, wC, wCall, wCallK, wCons, wNil, wRet, wRetN, wDrop, wTup, wLst, wIf, wAnd, wOr, wNot, wAndV, wOrV, wNotV, wNeg, wChain, fI, fI0, addD, fLt, fLe, fGt, fGe, fIsB, wCB, fAbs, f2I, fInt, fIsq, wPar, wPar3, permD, startE, List.map_cons, List.map_nil, List.cons_append, List.nil_append, List.append_nil, List.length_cons, List.length_nil, List.replicate, List.getElem?_cons_zero, List.getElem?_cons_succ, List.set_cons_zero, List.set_cons_succ, List.getD_cons_zero, List.getD_cons_succ, Nat.reduceAdd, Nat.reduceSub, Nat.zero_add, true_and, and_true, Bool.not_true, Bool.not_false, if_true, if_false, Bool.false_eq_true, reduceIte, decide_eq_true_eq, Bool.not_eq_true', decide_eq_false_iff_not, eqV_int, eqV_str, eqV_bl, decide_true, reduceCtorEq, not_true_eq_false, not_false_eq_true, Bool.not_eq_true, List.not_mem_nil, false_implies, implies_true, Int.reduceNeg, Int.reduceToNat, Int.reducePow, Int.reduceMul, Int.reduceAdd, draw_i, ix_t0, ix_t1, ix_t2, ix_t3, ix_m3, ix_m4, sn_ball_box, sn_cell_box, sn_cell_ball, sn_ball_cell, sn_box_ball, sn_box_cell, decide_false, wFor, wiSeq, len_vec]
      have wide : ∀ (n : Int), 0 ≤ n → n ≤ 3 → F__law_window [vec m, .int n] M' (fun d M1 => match d with
          | .tup ds => wLoop (wgName 7) B AnyM { nx := K', rt := Q, bk := K, ct := K', xr := R } ds [some (.str k), some r.d, some (vec v), some (.int low), some (.int high), some (.lst (ms.map vec)), some (vec m), v7, v8] M1
          | .lst ds => wLoop (wgName 7) B AnyM { nx := K', rt := Q, bk := K, ct := K', xr := R } ds [some (.str k), some r.d, some (vec v), some (.int low), some (.int high), some (.lst (ms.map vec)), some (vec m), v7, v8] M1
          | .tok p => ∃ ds, M1 p = some (.lst ds) ∧ wLoop (wgName 7) B (fun M2 => M2 p = some (.lst ds)) { nx := K', rt := Q, bk := K, ct := K', xr := R } ds [some (.str k), some r.d, some (vec v), some (.int low), some (.int high), some (.lst (ms.map vec)), some (vec m), v7, v8] M1
          | _ => False) (fun _ _ _ => False) := fun n n0 n3 => by
        refine win_i hp (hms m hm) n0 n3 fun vs M2 up2 hvs => ?_
        refine loop_ix (fun i ρ' M3 => Up M M3 ∧ ∃ v7 v8 : Option D, ρ' = [some (.str k), some r.d, some (vec v), some (.int low), some (.int high), some (.lst (ms.map vec)), some (vec m), v7, v8]) ?_ ?_ ⟨fun b c e => up2 b c (up b c e), _, _, rfl⟩
        · rintro i d ρ' M3 hi ⟨up3, v7, v8, rfl⟩
          obtain ⟨u, hu, rfl⟩ : ∃ u ∈ vs, d = vec u := by
            obtain ⟨u, hu, e⟩ := List.mem_map.mp (List.mem_of_getElem? hi)
            exact ⟨u, hu, e.symm⟩
          have uk := hvs u hu
          refine ⟨True.intro, fun K3 hK3 => ?_⟩
          subst hB
          refine seq_gen fun K4 hK4 => ?_
          simp (disch := first | assumption | decide) only [wSeq, wNext, wAsg, wgName, wIfS, wB, wOp, wVar, wC, wCall, wCallK, wCons, wNil, wRet, wRetN, wDrop, wTup, wLst, wIf, wAnd, wOr, wNot, wAndV, wOrV, wNotV, wNeg, wChain, fI, fI0, addD, fLt, fLe, fGt, fGe, fIsB, wCB, fAbs, f2I, fInt, fIsq, wPar, wPar3, permD, startE, List.map_cons, List.map_nil, List.cons_append, List.nil_append, List.append_nil, List.length_cons, List.length_nil, List.replicate, List.getElem?_cons_zero, List.getElem?_cons_succ, List.set_cons_zero, List.set_cons_succ, List.getD_cons_zero, List.getD_cons_succ, Nat.reduceAdd, Nat.reduceSub, Nat.zero_add, true_and, and_true, Bool.not_true, Bool.not_false, if_true, if_false, Bool.false_eq_true, reduceIte, decide_eq_true_eq, Bool.not_eq_true', decide_eq_false_iff_not, eqV_int, eqV_str, eqV_bl, decide_true, reduceCtorEq, not_true_eq_false, not_false_eq_true, Bool.not_eq_true, List.not_mem_nil, false_implies, implies_true, Int.reduceNeg, Int.reduceToNat, Int.reducePow, Int.reduceMul, Int.reduceAdd, draw_i, ix_t0, ix_t1, ix_t2, ix_t3, ix_m3, ix_m4, sn_ball_box, sn_cell_box, sn_cell_ball, sn_ball_cell, sn_box_ball, sn_box_cell, decide_false]
          refine lhold_i hp ok uk ?_
          subst hK4
          refine seq_gen fun K4 hK4 => ?_
          simp (disch := first | assumption | decide) only [wSeq, wNext, wAsg, wgName, wIfS, wB, wOp, wVar, wC, wCall, wCallK, wCons, wNil, wRet, wRetN, wDrop, wTup, wLst, wIf, wAnd, wOr, wNot, wAndV, wOrV, wNotV, wNeg, wChain, fI, fI0, addD, fLt, fLe, fGt, fGe, fIsB, wCB, fAbs, f2I, fInt, fIsq, wPar, wPar3, permD, startE, List.map_cons, List.map_nil, List.cons_append, List.nil_append, List.append_nil, List.length_cons, List.length_nil, List.replicate, List.getElem?_cons_zero, List.getElem?_cons_succ, List.set_cons_zero, List.set_cons_succ, List.getD_cons_zero, List.getD_cons_succ, Nat.reduceAdd, Nat.reduceSub, Nat.zero_add, true_and, and_true, Bool.not_true, Bool.not_false, if_true, if_false, Bool.false_eq_true, reduceIte, decide_eq_true_eq, Bool.not_eq_true', decide_eq_false_iff_not, eqV_int, eqV_str, eqV_bl, decide_true, reduceCtorEq, not_true_eq_false, not_false_eq_true, Bool.not_eq_true, List.not_mem_nil, false_implies, implies_true, Int.reduceNeg, Int.reduceToNat, Int.reducePow, Int.reduceMul, Int.reduceAdd, draw_i, ix_t0, ix_t1, ix_t2, ix_t3, ix_m3, ix_m4, sn_ball_box, sn_cell_box, sn_cell_ball, sn_ball_cell, sn_box_ball, sn_box_cell, decide_false]
          refine hold_i hp ok uk ?_
          simp (disch := first | assumption | decide) only [wSeq, wNext, wAsg, wgName, wIfS, wB, wOp, wVar, wC, wCall, wCallK, wCons, wNil, wRet, wRetN, wDrop, wTup, wLst, wIf, wAnd, wOr, wNot, wAndV, wOrV, wNotV, wNeg, wChain, fI, fI0, addD, fLt, fLe, fGt, fGe, fIsB, wCB, fAbs, f2I, fInt, fIsq, wPar, wPar3, permD, startE, List.map_cons, List.map_nil, List.cons_append, List.nil_append, List.append_nil, List.length_cons, List.length_nil, List.replicate, List.getElem?_cons_zero, List.getElem?_cons_succ, List.set_cons_zero, List.set_cons_succ, List.getD_cons_zero, List.getD_cons_succ, Nat.reduceAdd, Nat.reduceSub, Nat.zero_add, true_and, and_true, Bool.not_true, Bool.not_false, if_true, if_false, Bool.false_eq_true, reduceIte, decide_eq_true_eq, Bool.not_eq_true', decide_eq_false_iff_not, eqV_int, eqV_str, eqV_bl, decide_true, reduceCtorEq, not_true_eq_false, not_false_eq_true, Bool.not_eq_true, List.not_mem_nil, false_implies, implies_true, Int.reduceNeg, Int.reduceToNat, Int.reducePow, Int.reduceMul, Int.reduceAdd, draw_i, ix_t0, ix_t1, ix_t2, ix_t3, ix_m3, ix_m4, sn_ball_box, sn_cell_box, sn_cell_ball, sn_ball_cell, sn_box_ball, sn_box_cell, decide_false, repr_bl]
          subst hK4
          simp (disch := first | assumption | decide) only [wSeq, wNext, wAsg, wgName, wIfS, wB, wOp, wVar, wC, wCall, wCallK, wCons, wNil, wRet, wRetN, wDrop, wTup, wLst, wIf, wAnd, wOr, wNot, wAndV, wOrV, wNotV, wNeg, wChain, fI, fI0, addD, fLt, fLe, fGt, fGe, fIsB, wCB, fAbs, f2I, fInt, fIsq, wPar, wPar3, permD, startE, List.map_cons, List.map_nil, List.cons_append, List.nil_append, List.append_nil, List.length_cons, List.length_nil, List.replicate, List.getElem?_cons_zero, List.getElem?_cons_succ, List.set_cons_zero, List.set_cons_succ, List.getD_cons_zero, List.getD_cons_succ, Nat.reduceAdd, Nat.reduceSub, Nat.zero_add, true_and, and_true, Bool.not_true, Bool.not_false, if_true, if_false, Bool.false_eq_true, reduceIte, decide_eq_true_eq, Bool.not_eq_true', decide_eq_false_iff_not, eqV_int, eqV_str, eqV_bl, decide_true, reduceCtorEq, not_true_eq_false, not_false_eq_true, Bool.not_eq_true, List.not_mem_nil, false_implies, implies_true, Int.reduceNeg, Int.reduceToNat, Int.reducePow, Int.reduceMul, Int.reduceAdd, draw_i, ix_t0, ix_t1, ix_t2, ix_t3, ix_m3, ix_m4, sn_ball_box, sn_cell_box, sn_cell_ball, sn_ball_cell, sn_box_ball, sn_box_cell, decide_false]
          by_cases hh : holdB k r u = true
          · rw [hh]
            have b := hb u uk hh
            simp (disch := first | assumption | decide) only [wSeq, wNext, wAsg, wgName, wIfS, wB, wOp, wVar, wC, wCall, wCallK, wCons, wNil, wRet, wRetN, wDrop, wTup, wLst, wIf, wAnd, wOr, wNot, wAndV, wOrV, wNotV, wNeg, wChain, fI, fI0, addD, fLt, fLe, fGt, fGe, fIsB, wCB, fAbs, f2I, fInt, fIsq, wPar, wPar3, permD, startE, List.map_cons, List.map_nil, List.cons_append, List.nil_append, List.append_nil, List.length_cons, List.length_nil, List.replicate, List.getElem?_cons_zero, List.getElem?_cons_succ, List.set_cons_zero, List.set_cons_succ, List.getD_cons_zero, List.getD_cons_succ, Nat.reduceAdd, Nat.reduceSub, Nat.zero_add, true_and, and_true, Bool.not_true, Bool.not_false, if_true, if_false, Bool.false_eq_true, reduceIte, decide_eq_true_eq, Bool.not_eq_true', decide_eq_false_iff_not, eqV_int, eqV_str, eqV_bl, decide_true, reduceCtorEq, not_true_eq_false, not_false_eq_true, Bool.not_eq_true, List.not_mem_nil, false_implies, implies_true, Int.reduceNeg, Int.reduceToNat, Int.reducePow, Int.reduceMul, Int.reduceAdd, draw_i, ix_t0, ix_t1, ix_t2, ix_t3, ix_m3, ix_m4, sn_ball_box, sn_cell_box, sn_cell_ball, sn_ball_cell, sn_box_ball, sn_box_cell, decide_false]
            refine ldist_i (by rw [lv, uk.1]) sv (vk_sm hp (by decide) uk) ?_
            dsimp only
            rw [decide_eq_true b.1]
            dsimp only
            rw [if_neg (fun z => z b.2)]
            exact hK3 _ _ ⟨up3, _, _, rfl⟩
          · have hf : holdB k r u = false := by
              cases e : holdB k r u
              · rfl
              · exact absurd e hh
            rw [hf]
            simp (disch := first | assumption | decide) only [wSeq, wNext, wAsg, wgName, wIfS, wB, wOp, wVar, wC, wCall, wCallK, wCons, wNil, wRet, wRetN, wDrop, wTup, wLst, wIf, wAnd, wOr, wNot, wAndV, wOrV, wNotV, wNeg, wChain, fI, fI0, addD, fLt, fLe, fGt, fGe, fIsB, wCB, fAbs, f2I, fInt, fIsq, wPar, wPar3, permD, startE, List.map_cons, List.map_nil, List.cons_append, List.nil_append, List.append_nil, List.length_cons, List.length_nil, List.replicate, List.getElem?_cons_zero, List.getElem?_cons_succ, List.set_cons_zero, List.set_cons_succ, List.getD_cons_zero, List.getD_cons_succ, Nat.reduceAdd, Nat.reduceSub, Nat.zero_add, true_and, and_true, Bool.not_true, Bool.not_false, if_true, if_false, Bool.false_eq_true, reduceIte, decide_eq_true_eq, Bool.not_eq_true', decide_eq_false_iff_not, eqV_int, eqV_str, eqV_bl, decide_true, reduceCtorEq, not_true_eq_false, not_false_eq_true, Bool.not_eq_true, List.not_mem_nil, false_implies, implies_true, Int.reduceNeg, Int.reduceToNat, Int.reducePow, Int.reduceMul, Int.reduceAdd, draw_i, ix_t0, ix_t1, ix_t2, ix_t3, ix_m3, ix_m4, sn_ball_box, sn_cell_box, sn_cell_ball, sn_ball_cell, sn_box_ball, sn_box_cell, decide_false]
            exact hK3 _ _ ⟨up3, _, _, rfl⟩
        · rintro ρ' M3 ⟨up3, v7, v8, rfl⟩
          exact ⟨True.intro, hK' _ _ ⟨up3, _, _, _, rfl⟩⟩
      split
      · exact wide 3 (by decide) (by decide)
      · split
        · exact wide 2 (by decide) (by decide)
        · exact wide 1 (by decide) (by decide)
    · rintro ρ' M' ⟨up, v6, v7, v8, rfl⟩
      exact ⟨True.intro, hK _ _ up⟩
  refine seq_gen fun K hK => ?_
  have go : ∀ m1 m2 : List Int, vk p 50000 m1 → vk p 50000 m2 → K [some (.str k), some r.d, some (vec v), some (.int low), some (.int high), some (.lst [vec m1, vec m2]), none, none, none] M := fun m1 m2 h1 h2 => by
    subst hK
    refine seq_gen fun K hK => ?_
    refine main [m1, m2] (fun u hu => ?_) K fun ρ M' up => ?_
    · simp only [List.mem_cons, List.not_mem_nil, or_false] at hu
      rcases hu with rfl | rfl
      · exact h1
      · exact h2
    · subst hK
      simp (disch := first | assumption | decide) only [wSeq, wNext, wAsg, wgName, wIfS, wB, wOp, wVar, wC, wCall, wCallK, wCons, wNil, wRet, wRetN, wDrop, wTup, wLst, wIf, wAnd, wOr, wNot, wAndV, wOrV, wNotV, wNeg, wChain, fI, fI0, addD, fLt, fLe, fGt, fGe, fIsB, wCB, fAbs, f2I, fInt, fIsq, wPar, wPar3, permD, startE, List.map_cons, List.map_nil, List.cons_append, List.nil_append, List.append_nil, List.length_cons, List.length_nil, List.replicate, List.getElem?_cons_zero, List.getElem?_cons_succ, List.set_cons_zero, List.set_cons_succ, List.getD_cons_zero, List.getD_cons_succ, Nat.reduceAdd, Nat.reduceSub, Nat.zero_add, true_and, and_true, Bool.not_true, Bool.not_false, if_true, if_false, Bool.false_eq_true, reduceIte, decide_eq_true_eq, Bool.not_eq_true', decide_eq_false_iff_not, eqV_int, eqV_str, eqV_bl, decide_true, reduceCtorEq, not_true_eq_false, not_false_eq_true, Bool.not_eq_true, List.not_mem_nil, false_implies, implies_true, Int.reduceNeg, Int.reduceToNat, Int.reducePow, Int.reduceMul, Int.reduceAdd, draw_i, ix_t0, ix_t1, ix_t2, ix_t3, ix_m3, ix_m4, sn_ball_box, sn_cell_box, sn_cell_ball, sn_ball_cell, sn_box_ball, sn_box_cell, decide_false]
      exact q M' up
  cases r with
  | box l h =>
    unfold Rg.d at go ⊢
    simp (disch := first | assumption | decide) only [wSeq, wNext, wAsg, wgName, wIfS, wB, wOp, wVar, wC, wCall, wCallK, wCons, wNil, wRet, wRetN, wDrop, wTup, wLst, wIf, wAnd, wOr, wNot, wAndV, wOrV, wNotV, wNeg, wChain, fI, fI0, addD, fLt, fLe, fGt, fGe, fIsB, wCB, fAbs, f2I, fInt, fIsq, wPar, wPar3, permD, startE, List.map_cons, List.map_nil, List.cons_append, List.nil_append, List.append_nil, List.length_cons, List.length_nil, List.replicate, List.getElem?_cons_zero, List.getElem?_cons_succ, List.set_cons_zero, List.set_cons_succ, List.getD_cons_zero, List.getD_cons_succ, Nat.reduceAdd, Nat.reduceSub, Nat.zero_add, true_and, and_true, Bool.not_true, Bool.not_false, if_true, if_false, Bool.false_eq_true, reduceIte, decide_eq_true_eq, Bool.not_eq_true', decide_eq_false_iff_not, eqV_int, eqV_str, eqV_bl, decide_true, reduceCtorEq, not_true_eq_false, not_false_eq_true, Bool.not_eq_true, List.not_mem_nil, false_implies, implies_true, Int.reduceNeg, Int.reduceToNat, Int.reducePow, Int.reduceMul, Int.reduceAdd, draw_i, ix_t0, ix_t1, ix_t2, ix_t3, ix_m3, ix_m4, sn_ball_box, sn_cell_box, sn_cell_ball, sn_ball_cell, sn_box_ball, sn_box_cell, decide_false]
    exact ⟨by decide, go l h ok.1 ok.2.1⟩
  | ball c r =>
    unfold Rg.d at go ⊢
    simp (disch := first | assumption | decide) only [wSeq, wNext, wAsg, wgName, wIfS, wB, wOp, wVar, wC, wCall, wCallK, wCons, wNil, wRet, wRetN, wDrop, wTup, wLst, wIf, wAnd, wOr, wNot, wAndV, wOrV, wNotV, wNeg, wChain, fI, fI0, addD, fLt, fLe, fGt, fGe, fIsB, wCB, fAbs, f2I, fInt, fIsq, wPar, wPar3, permD, startE, List.map_cons, List.map_nil, List.cons_append, List.nil_append, List.append_nil, List.length_cons, List.length_nil, List.replicate, List.getElem?_cons_zero, List.getElem?_cons_succ, List.set_cons_zero, List.set_cons_succ, List.getD_cons_zero, List.getD_cons_succ, Nat.reduceAdd, Nat.reduceSub, Nat.zero_add, true_and, and_true, Bool.not_true, Bool.not_false, if_true, if_false, Bool.false_eq_true, reduceIte, decide_eq_true_eq, Bool.not_eq_true', decide_eq_false_iff_not, eqV_int, eqV_str, eqV_bl, decide_true, reduceCtorEq, not_true_eq_false, not_false_eq_true, Bool.not_eq_true, List.not_mem_nil, false_implies, implies_true, Int.reduceNeg, Int.reduceToNat, Int.reducePow, Int.reduceMul, Int.reduceAdd, draw_i, ix_t0, ix_t1, ix_t2, ix_t3, ix_m3, ix_m4, sn_ball_box, sn_cell_box, sn_cell_ball, sn_ball_cell, sn_box_ball, sn_box_cell, decide_false]
    exact ⟨by decide, go c v ok.1 hv⟩
  | cell c a b =>
    unfold Rg.d at go ⊢
    simp (disch := first | assumption | decide) only [wSeq, wNext, wAsg, wgName, wIfS, wB, wOp, wVar, wC, wCall, wCallK, wCons, wNil, wRet, wRetN, wDrop, wTup, wLst, wIf, wAnd, wOr, wNot, wAndV, wOrV, wNotV, wNeg, wChain, fI, fI0, addD, fLt, fLe, fGt, fGe, fIsB, wCB, fAbs, f2I, fInt, fIsq, wPar, wPar3, permD, startE, List.map_cons, List.map_nil, List.cons_append, List.nil_append, List.append_nil, List.length_cons, List.length_nil, List.replicate, List.getElem?_cons_zero, List.getElem?_cons_succ, List.set_cons_zero, List.set_cons_succ, List.getD_cons_zero, List.getD_cons_succ, Nat.reduceAdd, Nat.reduceSub, Nat.zero_add, true_and, and_true, Bool.not_true, Bool.not_false, if_true, if_false, Bool.false_eq_true, reduceIte, decide_eq_true_eq, Bool.not_eq_true', decide_eq_false_iff_not, eqV_int, eqV_str, eqV_bl, decide_true, reduceCtorEq, not_true_eq_false, not_false_eq_true, Bool.not_eq_true, List.not_mem_nil, false_implies, implies_true, Int.reduceNeg, Int.reduceToNat, Int.reducePow, Int.reduceMul, Int.reduceAdd, draw_i, ix_t0, ix_t1, ix_t2, ix_t3, ix_m3, ix_m4, sn_ball_box, sn_cell_box, sn_cell_ball, sn_ball_cell, sn_box_ball, sn_box_cell, decide_false]
    exact ⟨by decide, go c v ok.1 hv⟩
end K21
namespace K21
open PySem L2 L3
theorem dist_self (k : Str) : ∀ v : List Int, distI k v v = 0
  | [] => dist_nil k
  | a :: v => by
    have ih := dist_self k v
    have e : a - a = 0 := by omega
    have e2 : partI k 0 = 0 := by
      unfold partI
      split
      · rfl
      · split <;> simp
    rw [dist_cons, ih, e, e2]
    split <;> rfl
theorem rt_nc {a b : Int} (na : nc a) (nb : nc b) : 0 ≤ rt (4 * a * b) ∧ rt (4 * a * b) < 2 ^ 40 := by
  obtain ⟨r0, r1, _⟩ := nc_root na nb
  obtain ⟨t0, t1, t2⟩ := rt_le r0
  exact ⟨t0, sq_lt t0 (by decide) (by omega)⟩
theorem gap_nc {s : Bool} {a b : Int} (na : nc a) (nb : nc b) : 0 ≤ gapI s a b ∧ gapI s a b < 2 ^ 42 := by
  have t := rt_nc na nb
  refine ⟨gap_pos na.1 nb.1, ?_⟩
  obtain ⟨a0, a1⟩ := na
  obtain ⟨b0, b1⟩ := nb
  unfold gapI
  split
  · omega
  · split <;> omega
theorem least_nc {s : Bool} {a b : Int} (na : nc a) (nb : nc b) : 0 ≤ leastI s a b ∧ leastI s a b < 2 ^ 42 := by
  unfold leastI
  split
  · decide
  · exact gap_nc na nb
theorem most_nc {s : Bool} {a b : Int} (na : nc a) (nb : nc b) : 0 ≤ mostI s a b ∧ mostI s a b < 2 ^ 42 := by
  have t := rt_nc na nb
  refine ⟨most_pos na.1 nb.1, ?_⟩
  obtain ⟨a0, a1⟩ := na
  obtain ⟨b0, b1⟩ := nb
  unfold mostI
  split <;> omega
theorem join_small {k : Str} {ns : List Int} (h : small ns) : 0 ≤ joinI k ns ∧ joinI k ns ≤ 6400000000000000 := by
  unfold joinI
  split
  · refine ⟨mxI_pos _, ?_⟩
    by_cases e : ns = []
    · subst e
      decide
    · have := (h.2 _ (mxI_mem (fun n hn => (h.2 n hn).1) e)).2
      omega
  · have z := sum_bound (B := 100000000000000) (by decide) h.2
    have := h.1
    omega
theorem floor_big {k : Str} {p : Nat} {r : Rg} {v : List Int} (hp : p ≤ 8) (ok : rgOk p r) (hv : vk p 60000 v) : 0 ≤ floorI k r v ∧ floorI k r v ≤ 2 ^ 60 := by
  cases r with
  | box l h =>
    have l60 := vk_up (C := 60000) ok.1 (by decide)
    have h60 := vk_up (C := 60000) ok.2.1 (by decide)
    have nb := near_b l60 h60 hv
    have l8 : (nearL l h v).length ≤ 64 := by
      unfold nearL
      rw [List.length_map, List.length_range, ok.1.1]
      omega
    have z := join_small (k := k) (parts_small (k := k) l8 (fun n hn => by have := nb n hn; omega))
    show 0 ≤ joinI k ((nearL l h v).map (partI k)) ∧ joinI k ((nearL l h v).map (partI k)) ≤ _
    omega
  | ball c r =>
    have nd := dist_nc (k := k) hp (vk_up ok.1 (by decide)) hv
    have nr : nc r := ⟨ok.2.1, by have := ok.2.2; omega⟩
    have z := least_nc (s := sq k) nd nr
    show 0 ≤ leastI (sq k) (distI k c v) r ∧ leastI (sq k) (distI k c v) r ≤ _
    omega
  | cell c a b =>
    have nd := dist_nc (k := k) hp (vk_up ok.1 (by decide)) hv
    have na : nc a := ⟨ok.2.1, by have := ok.2.2; omega⟩
    have nb : nc b := ⟨by have := ok.2; omega, by have := ok.2.2; omega⟩
    have z := least_nc (s := sq k) nd nb
    have z2 := gap_nc (s := sq k) na nd
    show 0 ≤ (if distI k c v < a then gapI (sq k) a (distI k c v) else leastI (sq k) (distI k c v) b) ∧ (if distI k c v < a then gapI (sq k) a (distI k c v) else leastI (sq k) (distI k c v) b) ≤ _
    split <;> omega
theorem ceil_big {k : Str} {p : Nat} {r : Rg} {v : List Int} (hp : p ≤ 8) (ok : rgOk p r) (hv : vk p 60000 v) : 0 ≤ ceilI k r v ∧ ceilI k r v ≤ 2 ^ 60 := by
  have lm : ∀ m : Int, 0 ≤ m → m < 2 ^ 42 → 0 ≤ lenMin k v m ∧ lenMin k v m ≤ 2 ^ 60 := fun m m0 m1 => by
    unfold lenMin
    split
    · split <;> omega
    · omega
  cases r with
  | box l h =>
    have l60 := vk_up (C := 60000) ok.1 (by decide)
    have h60 := vk_up (C := 60000) ok.2.1 (by decide)
    have nb := far_b l60 h60 hv
    have l8 : (farL l h v).length ≤ 64 := by
      unfold farL
      rw [List.length_map, List.length_range, ok.1.1]
      omega
    have z := join_small (k := k) (parts_small (k := k) l8 (fun n hn => by have := nb n hn; omega))
    show 0 ≤ joinI k ((farL l h v).map (partI k)) ∧ joinI k ((farL l h v).map (partI k)) ≤ _
    omega
  | ball c r =>
    have nd := dist_nc (k := k) hp (vk_up ok.1 (by decide)) hv
    have nr : nc r := ⟨ok.2.1, by have := ok.2.2; omega⟩
    have z := most_nc (s := sq k) nd nr
    exact lm _ z.1 z.2
  | cell c a b =>
    have nd := dist_nc (k := k) hp (vk_up ok.1 (by decide)) hv
    have nb : nc b := ⟨by have := ok.2; omega, by have := ok.2.2; omega⟩
    have z := most_nc (s := sq k) nd nb
    exact lm _ z.1 z.2
theorem held_zero {k : Str} {p : Nat} {r : Rg} {v : List Int} (hp : p ≤ 8) (ok : rgOk p r) (hv : vk p 60000 v) (h : holdB k r v = true) : floorI k r v = 0 := by
  have z := (held_between ok hv.1 hv.1 h).1
  rw [dist_self] at z
  have := (floor_big (k := k) hp ok hv).1
  omega
theorem repr_i {M : Mp} {n : Int} {Q : KD} (h : 0 ≤ n ∧ n ≤ 2 ^ 60) : fRepr [.int n] M Q ↔ Q (.str (shown (.int n))) M := by
  refine ⟨fun h => h.2.2, fun q => ⟨⟨1, by decide, ?_⟩, by simp [res, cost], q⟩⟩
  show n.natAbs < 2 ^ 200
  omega
theorem floor_i {M : Mp} {k : Str} {r : Rg} {v : List Int} {p : Nat} {Q : KD} {R} (hp : p ≤ 8) (ok : rgOk p r) (hv : vk p 60000 v) (q : Q (.int (floorI k r v)) M) : F_floor_of [.str k, r.d, vec v] M Q R := ⟨k, r, v, p, rfl, hp, ok, hv, q⟩
theorem ceil_i {M : Mp} {k : Str} {r : Rg} {v : List Int} {p : Nat} {Q : KD} {R} (hp : p ≤ 8) (ok : rgOk p r) (hv : vk p 60000 v) (q : Q (.int (ceilI k r v)) M) : F_ceiling_of [.str k, r.d, vec v] M Q R := ⟨k, r, v, p, rfl, hp, ok, hv, q⟩
theorem lfloor_i {M : Mp} {k : Str} {r : Rg} {v : List Int} {p : Nat} {Q : KD} {R} (hp : p ≤ 8) (ok : rgOk p r) (hv : vk p 60000 v) (q : Q (.int (floorI k r v)) M) : F__law_floor [.str k, r.d, vec v] M Q R := ⟨k, r, v, p, rfl, hp, ok, hv, q⟩
theorem lceil_i {M : Mp} {k : Str} {r : Rg} {v : List Int} {p : Nat} {Q : KD} {R} (hp : p ≤ 8) (ok : rgOk p r) (hv : vk p 60000 v) (q : Q (.int (ceilI k r v)) M) : F__law_ceiling [.str k, r.d, vec v] M Q R := ⟨k, r, v, p, rfl, hp, ok, hv, q⟩
theorem wp__law_right : ∀ ds M Q R, F__law_right ds M Q R → W__law_right { nx := fun _ M' => Q .non M', rt := Q, xr := R } (startE 5 ds) M := by
  rintro ds M Q R ⟨k, r, v, p, rfl, hp, ok, hv, q⟩
  have v6 : vk p 60000 v := vk_up hv (by decide)
  have bf := floor_big (k := k) hp ok v6
  have bc := ceil_big (k := k) hp ok v6
  have hz := held_zero (k := k) hp ok v6
  unfold W__law_right
  refine seq_gen fun K hK => ?_
  simp (disch := first | assumption | decide) only [wSeq, wNext, wAsg, wgName, wIfS, wB, wOp, wVar, wC, wCall, wCallK, wCons, wNil, wRet, wRetN, wDrop, wTup, wLst, wIf, wAnd, wOr, wNot, wAndV, wOrV, wNotV, wNeg, wChain, fI, fI0, addD, fLt, fLe, fGt, fGe, fIsB, wCB, fAbs, f2I, fInt, fIsq, wPar, wPar3, permD, startE, List.map_cons, List.map_nil, List.cons_append, List.nil_append, List.append_nil, List.length_cons, List.length_nil, List.replicate, List.getElem?_cons_zero, List.getElem?_cons_succ, List.set_cons_zero, List.set_cons_succ, List.getD_cons_zero, List.getD_cons_succ, Nat.reduceAdd, Nat.reduceSub, Nat.zero_add, true_and, and_true, Bool.not_true, Bool.not_false, if_true, if_false, Bool.false_eq_true, reduceIte, decide_eq_true_eq, Bool.not_eq_true', decide_eq_false_iff_not, eqV_int, eqV_str, eqV_bl, decide_true, reduceCtorEq, not_true_eq_false, not_false_eq_true, Bool.not_eq_true, List.not_mem_nil, false_implies, implies_true, Int.reduceNeg, Int.reduceToNat, Int.reducePow, Int.reduceMul, Int.reduceAdd, draw_i, ix_t0, ix_t1, ix_t2, ix_t3, ix_m3, ix_m4, sn_ball_box, sn_cell_box, sn_cell_ball, sn_ball_cell, sn_box_ball, sn_box_cell, decide_false]
  refine floor_i hp ok v6 ?_
  refine ceil_i hp ok v6 ?_
  show K [some (.str k), some r.d, some (vec v), some (.int (floorI k r v)), some (.int (ceilI k r v))] M
  have tried : F__law_tried_right [.str k, r.d, vec v, .int (floorI k r v), .int (ceilI k r v)] M Q (fun _ _ _ => False) := ⟨k, r, v, _, _, p, rfl, hp, ok, hv, fun u hu h => held_between ok hv.1 hu.1 h, q⟩
  have boxed : ∀ l h, r = .box l h → F__law_box_reached [.str k, r.d, vec v, .int (floorI k r v), .int (ceilI k r v)] M (fun d M1 => match d with
      | .bl x => if ¬ x = true then Q (.bl false) M1 else F__law_tried_right [.str k, r.d, vec v, .int (floorI k r v), .int (ceilI k r v)] M1 Q (fun _ _ _ => False)
      | _ => False) (fun _ _ _ => False) := fun l h e => by
    subst e
    refine ⟨k, l, h, v, p, rfl, hp, ok, hv, ?_⟩
    dsimp only
    rw [if_neg (fun z => z rfl)]
    exact tried
  obtain ⟨fl, efl⟩ : ∃ fl, fl = floorI k r v := ⟨_, rfl⟩
  obtain ⟨ce, ece⟩ : ∃ ce, ce = ceilI k r v := ⟨_, rfl⟩
  rw [← efl] at bf hz tried boxed ⊢
  rw [← ece] at bc tried boxed ⊢
  subst hK
  refine seq_gen fun K hK => ?_
  simp (disch := first | assumption | decide) only [wSeq, wNext, wAsg, wgName, wIfS, wB, wOp, wVar, wC, wCall, wCallK, wCons, wNil, wRet, wRetN, wDrop, wTup, wLst, wIf, wAnd, wOr, wNot, wAndV, wOrV, wNotV, wNeg, wChain, fI, fI0, addD, fLt, fLe, fGt, fGe, fIsB, wCB, fAbs, f2I, fInt, fIsq, wPar, wPar3, permD, startE, List.map_cons, List.map_nil, List.cons_append, List.nil_append, List.append_nil, List.length_cons, List.length_nil, List.replicate, List.getElem?_cons_zero, List.getElem?_cons_succ, List.set_cons_zero, List.set_cons_succ, List.getD_cons_zero, List.getD_cons_succ, Nat.reduceAdd, Nat.reduceSub, Nat.zero_add, true_and, and_true, Bool.not_true, Bool.not_false, if_true, if_false, Bool.false_eq_true, reduceIte, decide_eq_true_eq, Bool.not_eq_true', decide_eq_false_iff_not, eqV_int, eqV_str, eqV_bl, decide_true, reduceCtorEq, not_true_eq_false, not_false_eq_true, Bool.not_eq_true, List.not_mem_nil, false_implies, implies_true, Int.reduceNeg, Int.reduceToNat, Int.reducePow, Int.reduceMul, Int.reduceAdd, draw_i, ix_t0, ix_t1, ix_t2, ix_t3, ix_m3, ix_m4, sn_ball_box, sn_cell_box, sn_cell_ball, sn_ball_cell, sn_box_ball, sn_box_cell, decide_false, repr_i]
  refine lfloor_i hp ok v6 ?_
  rw [← efl]
  simp (disch := first | assumption | decide) only [wSeq, wNext, wAsg, wgName, wIfS, wB, wOp, wVar, wC, wCall, wCallK, wCons, wNil, wRet, wRetN, wDrop, wTup, wLst, wIf, wAnd, wOr, wNot, wAndV, wOrV, wNotV, wNeg, wChain, fI, fI0, addD, fLt, fLe, fGt, fGe, fIsB, wCB, fAbs, f2I, fInt, fIsq, wPar, wPar3, permD, startE, List.map_cons, List.map_nil, List.cons_append, List.nil_append, List.append_nil, List.length_cons, List.length_nil, List.replicate, List.getElem?_cons_zero, List.getElem?_cons_succ, List.set_cons_zero, List.set_cons_succ, List.getD_cons_zero, List.getD_cons_succ, Nat.reduceAdd, Nat.reduceSub, Nat.zero_add, true_and, and_true, Bool.not_true, Bool.not_false, if_true, if_false, Bool.false_eq_true, reduceIte, decide_eq_true_eq, Bool.not_eq_true', decide_eq_false_iff_not, eqV_int, eqV_str, eqV_bl, decide_true, reduceCtorEq, not_true_eq_false, not_false_eq_true, Bool.not_eq_true, List.not_mem_nil, false_implies, implies_true, Int.reduceNeg, Int.reduceToNat, Int.reducePow, Int.reduceMul, Int.reduceAdd, draw_i, ix_t0, ix_t1, ix_t2, ix_t3, ix_m3, ix_m4, sn_ball_box, sn_cell_box, sn_cell_ball, sn_ball_cell, sn_box_ball, sn_box_cell, decide_false, repr_i]
  refine lceil_i hp ok v6 ?_
  rw [← ece]
  simp (disch := first | assumption | decide) only [wSeq, wNext, wAsg, wgName, wIfS, wB, wOp, wVar, wC, wCall, wCallK, wCons, wNil, wRet, wRetN, wDrop, wTup, wLst, wIf, wAnd, wOr, wNot, wAndV, wOrV, wNotV, wNeg, wChain, fI, fI0, addD, fLt, fLe, fGt, fGe, fIsB, wCB, fAbs, f2I, fInt, fIsq, wPar, wPar3, permD, startE, List.map_cons, List.map_nil, List.cons_append, List.nil_append, List.append_nil, List.length_cons, List.length_nil, List.replicate, List.getElem?_cons_zero, List.getElem?_cons_succ, List.set_cons_zero, List.set_cons_succ, List.getD_cons_zero, List.getD_cons_succ, Nat.reduceAdd, Nat.reduceSub, Nat.zero_add, true_and, and_true, Bool.not_true, Bool.not_false, if_true, if_false, Bool.false_eq_true, reduceIte, decide_eq_true_eq, Bool.not_eq_true', decide_eq_false_iff_not, eqV_int, eqV_str, eqV_bl, decide_true, reduceCtorEq, not_true_eq_false, not_false_eq_true, Bool.not_eq_true, List.not_mem_nil, false_implies, implies_true, Int.reduceNeg, Int.reduceToNat, Int.reducePow, Int.reduceMul, Int.reduceAdd, draw_i, ix_t0, ix_t1, ix_t2, ix_t3, ix_m3, ix_m4, sn_ball_box, sn_cell_box, sn_cell_ball, sn_ball_cell, sn_box_ball, sn_box_cell, decide_false, repr_i]
  subst hK
  refine seq_gen fun K hK => ?_
  simp (disch := first | assumption | decide) only [wSeq, wNext, wAsg, wgName, wIfS, wB, wOp, wVar, wC, wCall, wCallK, wCons, wNil, wRet, wRetN, wDrop, wTup, wLst, wIf, wAnd, wOr, wNot, wAndV, wOrV, wNotV, wNeg, wChain, fI, fI0, addD, fLt, fLe, fGt, fGe, fIsB, wCB, fAbs, f2I, fInt, fIsq, wPar, wPar3, permD, startE, List.map_cons, List.map_nil, List.cons_append, List.nil_append, List.append_nil, List.length_cons, List.length_nil, List.replicate, List.getElem?_cons_zero, List.getElem?_cons_succ, List.set_cons_zero, List.set_cons_succ, List.getD_cons_zero, List.getD_cons_succ, Nat.reduceAdd, Nat.reduceSub, Nat.zero_add, true_and, and_true, Bool.not_true, Bool.not_false, if_true, if_false, Bool.false_eq_true, reduceIte, decide_eq_true_eq, Bool.not_eq_true', decide_eq_false_iff_not, eqV_int, eqV_str, eqV_bl, decide_true, reduceCtorEq, not_true_eq_false, not_false_eq_true, Bool.not_eq_true, List.not_mem_nil, false_implies, implies_true, Int.reduceNeg, Int.reduceToNat, Int.reducePow, Int.reduceMul, Int.reduceAdd, draw_i, ix_t0, ix_t1, ix_t2, ix_t3, ix_m3, ix_m4, sn_ball_box, sn_cell_box, sn_cell_ball, sn_ball_cell, sn_box_ball, sn_box_cell, decide_false]
  refine floor_i hp ok v6 ?_
  rw [← efl]
  simp (disch := first | assumption | decide) only [wSeq, wNext, wAsg, wgName, wIfS, wB, wOp, wVar, wC, wCall, wCallK, wCons, wNil, wRet, wRetN, wDrop, wTup, wLst, wIf, wAnd, wOr, wNot, wAndV, wOrV, wNotV, wNeg, wChain, fI, fI0, addD, fLt, fLe, fGt, fGe, fIsB, wCB, fAbs, f2I, fInt, fIsq, wPar, wPar3, permD, startE, List.map_cons, List.map_nil, List.cons_append, List.nil_append, List.append_nil, List.length_cons, List.length_nil, List.replicate, List.getElem?_cons_zero, List.getElem?_cons_succ, List.set_cons_zero, List.set_cons_succ, List.getD_cons_zero, List.getD_cons_succ, Nat.reduceAdd, Nat.reduceSub, Nat.zero_add, true_and, and_true, Bool.not_true, Bool.not_false, if_true, if_false, Bool.false_eq_true, reduceIte, decide_eq_true_eq, Bool.not_eq_true', decide_eq_false_iff_not, eqV_int, eqV_str, eqV_bl, decide_true, reduceCtorEq, not_true_eq_false, not_false_eq_true, Bool.not_eq_true, List.not_mem_nil, false_implies, implies_true, Int.reduceNeg, Int.reduceToNat, Int.reducePow, Int.reduceMul, Int.reduceAdd, draw_i, ix_t0, ix_t1, ix_t2, ix_t3, ix_m3, ix_m4, sn_ball_box, sn_cell_box, sn_cell_ball, sn_ball_cell, sn_box_ball, sn_box_cell, decide_false]
  refine ceil_i hp ok v6 ?_
  rw [← ece]
  simp (disch := first | assumption | decide) only [wSeq, wNext, wAsg, wgName, wIfS, wB, wOp, wVar, wC, wCall, wCallK, wCons, wNil, wRet, wRetN, wDrop, wTup, wLst, wIf, wAnd, wOr, wNot, wAndV, wOrV, wNotV, wNeg, wChain, fI, fI0, addD, fLt, fLe, fGt, fGe, fIsB, wCB, fAbs, f2I, fInt, fIsq, wPar, wPar3, permD, startE, List.map_cons, List.map_nil, List.cons_append, List.nil_append, List.append_nil, List.length_cons, List.length_nil, List.replicate, List.getElem?_cons_zero, List.getElem?_cons_succ, List.set_cons_zero, List.set_cons_succ, List.getD_cons_zero, List.getD_cons_succ, Nat.reduceAdd, Nat.reduceSub, Nat.zero_add, true_and, and_true, Bool.not_true, Bool.not_false, if_true, if_false, Bool.false_eq_true, reduceIte, decide_eq_true_eq, Bool.not_eq_true', decide_eq_false_iff_not, eqV_int, eqV_str, eqV_bl, decide_true, reduceCtorEq, not_true_eq_false, not_false_eq_true, Bool.not_eq_true, List.not_mem_nil, false_implies, implies_true, Int.reduceNeg, Int.reduceToNat, Int.reducePow, Int.reduceMul, Int.reduceAdd, draw_i, ix_t0, ix_t1, ix_t2, ix_t3, ix_m3, ix_m4, sn_ball_box, sn_cell_box, sn_cell_ball, sn_ball_cell, sn_box_ball, sn_box_cell, decide_false]
  subst hK
  refine seq_gen fun K hK => ?_
  simp (disch := first | assumption | decide) only [wSeq, wNext, wAsg, wgName, wIfS, wB, wOp, wVar, wC, wCall, wCallK, wCons, wNil, wRet, wRetN, wDrop, wTup, wLst, wIf, wAnd, wOr, wNot, wAndV, wOrV, wNotV, wNeg, wChain, fI, fI0, addD, fLt, fLe, fGt, fGe, fIsB, wCB, fAbs, f2I, fInt, fIsq, wPar, wPar3, permD, startE, List.map_cons, List.map_nil, List.cons_append, List.nil_append, List.append_nil, List.length_cons, List.length_nil, List.replicate, List.getElem?_cons_zero, List.getElem?_cons_succ, List.set_cons_zero, List.set_cons_succ, List.getD_cons_zero, List.getD_cons_succ, Nat.reduceAdd, Nat.reduceSub, Nat.zero_add, true_and, and_true, Bool.not_true, Bool.not_false, if_true, if_false, Bool.false_eq_true, reduceIte, decide_eq_true_eq, Bool.not_eq_true', decide_eq_false_iff_not, eqV_int, eqV_str, eqV_bl, decide_true, reduceCtorEq, not_true_eq_false, not_false_eq_true, Bool.not_eq_true, List.not_mem_nil, false_implies, implies_true, Int.reduceNeg, Int.reduceToNat, Int.reducePow, Int.reduceMul, Int.reduceAdd, draw_i, ix_t0, ix_t1, ix_t2, ix_t3, ix_m3, ix_m4, sn_ball_box, sn_cell_box, sn_cell_ball, sn_ball_cell, sn_box_ball, sn_box_cell, decide_false]
  refine hold_i hp ok v6 ?_
  have next : K [some (.str k), some r.d, some (vec v), some (.int fl), some (.int ce)] M := by
    subst hK
    refine seq_gen fun K hK => ?_
    cases r with
    | box l h =>
      have b := boxed l h rfl
      unfold Rg.d at b tried ⊢
      simp (disch := first | assumption | decide) only [wSeq, wNext, wAsg, wgName, wIfS, wB, wOp, wVar, wC, wCall, wCallK, wCons, wNil, wRet, wRetN, wDrop, wTup, wLst, wIf, wAnd, wOr, wNot, wAndV, wOrV, wNotV, wNeg, wChain, fI, fI0, addD, fLt, fLe, fGt, fGe, fIsB, wCB, fAbs, f2I, fInt, fIsq, wPar, wPar3, permD, startE, List.map_cons, List.map_nil, List.cons_append, List.nil_append, List.append_nil, List.length_cons, List.length_nil, List.replicate, List.getElem?_cons_zero, List.getElem?_cons_succ, List.set_cons_zero, List.set_cons_succ, List.getD_cons_zero, List.getD_cons_succ, Nat.reduceAdd, Nat.reduceSub, Nat.zero_add, true_and, and_true, Bool.not_true, Bool.not_false, if_true, if_false, Bool.false_eq_true, reduceIte, decide_eq_true_eq, Bool.not_eq_true', decide_eq_false_iff_not, eqV_int, eqV_str, eqV_bl, decide_true, reduceCtorEq, not_true_eq_false, not_false_eq_true, Bool.not_eq_true, List.not_mem_nil, false_implies, implies_true, Int.reduceNeg, Int.reduceToNat, Int.reducePow, Int.reduceMul, Int.reduceAdd, draw_i, ix_t0, ix_t1, ix_t2, ix_t3, ix_m3, ix_m4, sn_ball_box, sn_cell_box, sn_cell_ball, sn_ball_cell, sn_box_ball, sn_box_cell, decide_false]
      subst hK
      simp (disch := first | assumption | decide) only [wSeq, wNext, wAsg, wgName, wIfS, wB, wOp, wVar, wC, wCall, wCallK, wCons, wNil, wRet, wRetN, wDrop, wTup, wLst, wIf, wAnd, wOr, wNot, wAndV, wOrV, wNotV, wNeg, wChain, fI, fI0, addD, fLt, fLe, fGt, fGe, fIsB, wCB, fAbs, f2I, fInt, fIsq, wPar, wPar3, permD, startE, List.map_cons, List.map_nil, List.cons_append, List.nil_append, List.append_nil, List.length_cons, List.length_nil, List.replicate, List.getElem?_cons_zero, List.getElem?_cons_succ, List.set_cons_zero, List.set_cons_succ, List.getD_cons_zero, List.getD_cons_succ, Nat.reduceAdd, Nat.reduceSub, Nat.zero_add, true_and, and_true, Bool.not_true, Bool.not_false, if_true, if_false, Bool.false_eq_true, reduceIte, decide_eq_true_eq, Bool.not_eq_true', decide_eq_false_iff_not, eqV_int, eqV_str, eqV_bl, decide_true, reduceCtorEq, not_true_eq_false, not_false_eq_true, Bool.not_eq_true, List.not_mem_nil, false_implies, implies_true, Int.reduceNeg, Int.reduceToNat, Int.reducePow, Int.reduceMul, Int.reduceAdd, draw_i, ix_t0, ix_t1, ix_t2, ix_t3, ix_m3, ix_m4, sn_ball_box, sn_cell_box, sn_cell_ball, sn_ball_cell, sn_box_ball, sn_box_cell, decide_false]
      exact b
    | ball c r =>
      unfold Rg.d at tried ⊢
      simp (disch := first | assumption | decide) only [wSeq, wNext, wAsg, wgName, wIfS, wB, wOp, wVar, wC, wCall, wCallK, wCons, wNil, wRet, wRetN, wDrop, wTup, wLst, wIf, wAnd, wOr, wNot, wAndV, wOrV, wNotV, wNeg, wChain, fI, fI0, addD, fLt, fLe, fGt, fGe, fIsB, wCB, fAbs, f2I, fInt, fIsq, wPar, wPar3, permD, startE, List.map_cons, List.map_nil, List.cons_append, List.nil_append, List.append_nil, List.length_cons, List.length_nil, List.replicate, List.getElem?_cons_zero, List.getElem?_cons_succ, List.set_cons_zero, List.set_cons_succ, List.getD_cons_zero, List.getD_cons_succ, Nat.reduceAdd, Nat.reduceSub, Nat.zero_add, true_and, and_true, Bool.not_true, Bool.not_false, if_true, if_false, Bool.false_eq_true, reduceIte, decide_eq_true_eq, Bool.not_eq_true', decide_eq_false_iff_not, eqV_int, eqV_str, eqV_bl, decide_true, reduceCtorEq, not_true_eq_false, not_false_eq_true, Bool.not_eq_true, List.not_mem_nil, false_implies, implies_true, Int.reduceNeg, Int.reduceToNat, Int.reducePow, Int.reduceMul, Int.reduceAdd, draw_i, ix_t0, ix_t1, ix_t2, ix_t3, ix_m3, ix_m4, sn_ball_box, sn_cell_box, sn_cell_ball, sn_ball_cell, sn_box_ball, sn_box_cell, decide_false]
      subst hK
      simp (disch := first | assumption | decide) only [wSeq, wNext, wAsg, wgName, wIfS, wB, wOp, wVar, wC, wCall, wCallK, wCons, wNil, wRet, wRetN, wDrop, wTup, wLst, wIf, wAnd, wOr, wNot, wAndV, wOrV, wNotV, wNeg, wChain, fI, fI0, addD, fLt, fLe, fGt, fGe, fIsB, wCB, fAbs, f2I, fInt, fIsq, wPar, wPar3, permD, startE, List.map_cons, List.map_nil, List.cons_append, List.nil_append, List.append_nil, List.length_cons, List.length_nil, List.replicate, List.getElem?_cons_zero, List.getElem?_cons_succ, List.set_cons_zero, List.set_cons_succ, List.getD_cons_zero, List.getD_cons_succ, Nat.reduceAdd, Nat.reduceSub, Nat.zero_add, true_and, and_true, Bool.not_true, Bool.not_false, if_true, if_false, Bool.false_eq_true, reduceIte, decide_eq_true_eq, Bool.not_eq_true', decide_eq_false_iff_not, eqV_int, eqV_str, eqV_bl, decide_true, reduceCtorEq, not_true_eq_false, not_false_eq_true, Bool.not_eq_true, List.not_mem_nil, false_implies, implies_true, Int.reduceNeg, Int.reduceToNat, Int.reducePow, Int.reduceMul, Int.reduceAdd, draw_i, ix_t0, ix_t1, ix_t2, ix_t3, ix_m3, ix_m4, sn_ball_box, sn_cell_box, sn_cell_ball, sn_ball_cell, sn_box_ball, sn_box_cell, decide_false]
      exact tried
    | cell c a b =>
      unfold Rg.d at tried ⊢
      simp (disch := first | assumption | decide) only [wSeq, wNext, wAsg, wgName, wIfS, wB, wOp, wVar, wC, wCall, wCallK, wCons, wNil, wRet, wRetN, wDrop, wTup, wLst, wIf, wAnd, wOr, wNot, wAndV, wOrV, wNotV, wNeg, wChain, fI, fI0, addD, fLt, fLe, fGt, fGe, fIsB, wCB, fAbs, f2I, fInt, fIsq, wPar, wPar3, permD, startE, List.map_cons, List.map_nil, List.cons_append, List.nil_append, List.append_nil, List.length_cons, List.length_nil, List.replicate, List.getElem?_cons_zero, List.getElem?_cons_succ, List.set_cons_zero, List.set_cons_succ, List.getD_cons_zero, List.getD_cons_succ, Nat.reduceAdd, Nat.reduceSub, Nat.zero_add, true_and, and_true, Bool.not_true, Bool.not_false, if_true, if_false, Bool.false_eq_true, reduceIte, decide_eq_true_eq, Bool.not_eq_true', decide_eq_false_iff_not, eqV_int, eqV_str, eqV_bl, decide_true, reduceCtorEq, not_true_eq_false, not_false_eq_true, Bool.not_eq_true, List.not_mem_nil, false_implies, implies_true, Int.reduceNeg, Int.reduceToNat, Int.reducePow, Int.reduceMul, Int.reduceAdd, draw_i, ix_t0, ix_t1, ix_t2, ix_t3, ix_m3, ix_m4, sn_ball_box, sn_cell_box, sn_cell_ball, sn_ball_cell, sn_box_ball, sn_box_cell, decide_false]
      subst hK
      simp (disch := first | assumption | decide) only [wSeq, wNext, wAsg, wgName, wIfS, wB, wOp, wVar, wC, wCall, wCallK, wCons, wNil, wRet, wRetN, wDrop, wTup, wLst, wIf, wAnd, wOr, wNot, wAndV, wOrV, wNotV, wNeg, wChain, fI, fI0, addD, fLt, fLe, fGt, fGe, fIsB, wCB, fAbs, f2I, fInt, fIsq, wPar, wPar3, permD, startE, List.map_cons, List.map_nil, List.cons_append, List.nil_append, List.append_nil, List.length_cons, List.length_nil, List.replicate, List.getElem?_cons_zero, List.getElem?_cons_succ, List.set_cons_zero, List.set_cons_succ, List.getD_cons_zero, List.getD_cons_succ, Nat.reduceAdd, Nat.reduceSub, Nat.zero_add, true_and, and_true, Bool.not_true, Bool.not_false, if_true, if_false, Bool.false_eq_true, reduceIte, decide_eq_true_eq, Bool.not_eq_true', decide_eq_false_iff_not, eqV_int, eqV_str, eqV_bl, decide_true, reduceCtorEq, not_true_eq_false, not_false_eq_true, Bool.not_eq_true, List.not_mem_nil, false_implies, implies_true, Int.reduceNeg, Int.reduceToNat, Int.reducePow, Int.reduceMul, Int.reduceAdd, draw_i, ix_t0, ix_t1, ix_t2, ix_t3, ix_m3, ix_m4, sn_ball_box, sn_cell_box, sn_cell_ball, sn_ball_cell, sn_box_ball, sn_box_cell, decide_false]
      exact tried
  by_cases hh : holdB k r v = true
  · rw [hh]
    have z := hz hh
    simp (disch := first | assumption | decide) only [wSeq, wNext, wAsg, wgName, wIfS, wB, wOp, wVar, wC, wCall, wCallK, wCons, wNil, wRet, wRetN, wDrop, wTup, wLst, wIf, wAnd, wOr, wNot, wAndV, wOrV, wNotV, wNeg, wChain, fI, fI0, addD, fLt, fLe, fGt, fGe, fIsB, wCB, fAbs, f2I, fInt, fIsq, wPar, wPar3, permD, startE, List.map_cons, List.map_nil, List.cons_append, List.nil_append, List.append_nil, List.length_cons, List.length_nil, List.replicate, List.getElem?_cons_zero, List.getElem?_cons_succ, List.set_cons_zero, List.set_cons_succ, List.getD_cons_zero, List.getD_cons_succ, Nat.reduceAdd, Nat.reduceSub, Nat.zero_add, true_and, and_true, Bool.not_true, Bool.not_false, if_true, if_false, Bool.false_eq_true, reduceIte, decide_eq_true_eq, Bool.not_eq_true', decide_eq_false_iff_not, eqV_int, eqV_str, eqV_bl, decide_true, reduceCtorEq, not_true_eq_false, not_false_eq_true, Bool.not_eq_true, List.not_mem_nil, false_implies, implies_true, Int.reduceNeg, Int.reduceToNat, Int.reducePow, Int.reduceMul, Int.reduceAdd, draw_i, ix_t0, ix_t1, ix_t2, ix_t3, ix_m3, ix_m4, sn_ball_box, sn_cell_box, sn_cell_ball, sn_ball_cell, sn_box_ball, sn_box_cell, decide_false, z]
    rw [z] at next
    exact next
  · have hf : holdB k r v = false := by
      cases e : holdB k r v
      · rfl
      · exact absurd e hh
    rw [hf]
    simp (disch := first | assumption | decide) only [wSeq, wNext, wAsg, wgName, wIfS, wB, wOp, wVar, wC, wCall, wCallK, wCons, wNil, wRet, wRetN, wDrop, wTup, wLst, wIf, wAnd, wOr, wNot, wAndV, wOrV, wNotV, wNeg, wChain, fI, fI0, addD, fLt, fLe, fGt, fGe, fIsB, wCB, fAbs, f2I, fInt, fIsq, wPar, wPar3, permD, startE, List.map_cons, List.map_nil, List.cons_append, List.nil_append, List.append_nil, List.length_cons, List.length_nil, List.replicate, List.getElem?_cons_zero, List.getElem?_cons_succ, List.set_cons_zero, List.set_cons_succ, List.getD_cons_zero, List.getD_cons_succ, Nat.reduceAdd, Nat.reduceSub, Nat.zero_add, true_and, and_true, Bool.not_true, Bool.not_false, if_true, if_false, Bool.false_eq_true, reduceIte, decide_eq_true_eq, Bool.not_eq_true', decide_eq_false_iff_not, eqV_int, eqV_str, eqV_bl, decide_true, reduceCtorEq, not_true_eq_false, not_false_eq_true, Bool.not_eq_true, List.not_mem_nil, false_implies, implies_true, Int.reduceNeg, Int.reduceToNat, Int.reducePow, Int.reduceMul, Int.reduceAdd, draw_i, ix_t0, ix_t1, ix_t2, ix_t3, ix_m3, ix_m4, sn_ball_box, sn_cell_box, sn_cell_ball, sn_ball_cell, sn_box_ball, sn_box_cell, decide_false]
    exact next
end K21
namespace K21
open PySem L2 L3
theorem right_i {M : Mp} {k : Str} {r : Rg} {v : List Int} {p : Nat} {Q : KD} {R} (hp : p ≤ 8) (ok : rgOk p r) (hv : vk p 50000 v) (q : ∀ M', Up M M' → Q (.bl true) M') : F__law_right [.str k, r.d, vec v] M Q R := ⟨k, r, v, p, rfl, hp, ok, hv, q⟩
theorem ix_mid {r : Rg} {M : Mp} {Q : KD} : ixD r.d (.int 1) M Q ↔ Q (vec r.mid) M := by
  cases r with
  | ball c r => exact ix_t1
  | box l h => exact ix_t1
  | cell c a b => exact ix_t1
theorem res_rg {M : Mp} {r : Rg} : res M r.d = r.d := by cases r <;> rfl
theorem cost_vec : ∀ ns : List Int, cost (vec ns) ≤ 212 * ns.length + 4 := fun ns => by
  unfold vec
  induction ns with
  | nil => simp [cost, costL]
  | cons n ns ih =>
    simp [cost, costL] at ih ⊢
    omega
theorem shw_vec {n : Nat} {p : Nat} {B : Int} {v : List Int} (hB : B ≤ 2 ^ 60) (h : vk p B v) : shw (n + 1) (vec v) := by
  unfold vec
  simp [shw]
  intro b hb
  have := h.2 b hb
  omega
theorem rg_repr {M : Mp} {r : Rg} {p : Nat} {Q : KD} (hp : p ≤ 8) (ok : rgOk p r) (q : Q (.str (shown r.d)) M) : fRepr [r.d] M Q := by
  have one : ∀ (x : Str) (ys : List D), PySem.PyData.strOk x = true → x.length ≤ 10 → (∀ y ∈ ys, shw 3 y) → costL ys ≤ 10000 → r.d = .tup (.str x :: ys) → fRepr [r.d] M Q := fun x ys sx lx h1 h2 e => by
    refine ⟨⟨4, by decide, ?_⟩, ?_, ?_⟩
    · rw [res_rg, e]
      show ∀ d ∈ D.str x :: ys, shw 3 d
      intro d hd
      rcases List.mem_cons.mp hd with rfl | hd
      · exact sx
      · exact h1 d hd
    · rw [res_rg, e]
      simp [cost, costL]
      omega
    · rw [res_rg]
      exact q
  cases r with
  | ball c r =>
    refine one "ball" [vec c, .int r] (by decide +kernel) (by decide +kernel) (fun y hy => ?_) ?_ rfl
    · simp only [List.mem_cons, List.not_mem_nil, or_false] at hy
      rcases hy with rfl | rfl
      · exact shw_vec (by decide) ok.1
      · have := ok.2
        show r.natAbs < 2 ^ 200
        omega
    · have := cost_vec c
      have := ok.1.1
      simp [cost, costL]
      omega
  | box l h =>
    refine one "box" [vec l, vec h] (by decide +kernel) (by decide +kernel) (fun y hy => ?_) ?_ rfl
    · simp only [List.mem_cons, List.not_mem_nil, or_false] at hy
      rcases hy with rfl | rfl
      · exact shw_vec (by decide) ok.1
      · exact shw_vec (by decide) ok.2.1
    · have := cost_vec l
      have := cost_vec h
      have := ok.1.1
      have := ok.2.1.1
      simp [costL]
      omega
  | cell c a b =>
    refine one "cell" [vec c, .int a, .int b] (by decide +kernel) (by decide +kernel) (fun y hy => ?_) ?_ rfl
    · simp only [List.mem_cons, List.not_mem_nil, or_false] at hy
      rcases hy with rfl | rfl | rfl
      · exact shw_vec (by decide) ok.1
      · have := ok.2
        show a.natAbs < 2 ^ 200
        omega
      · have := ok.2
        show b.natAbs < 2 ^ 200
        omega
    · have := cost_vec c
      have := ok.1.1
      simp [cost, costL]
      omega
theorem wp_law : ∀ ds M Q R, F_law ds M Q R → W_law { nx := fun _ M' => Q .non M', rt := Q, xr := R } (startE 14 ds) M := by
  rintro ds M Q R ⟨ns, rfl, hn, q⟩
  unfold W_law
  refine seq_gen fun K hK => ?_
  simp (disch := first | assumption | decide) only [wSeq, wNext, wAsg, wgName, wIfS, wB, wOp, wVar, wC, wCall, wCallK, wCons, wNil, wRet, wRetN, wDrop, wTup, wLst, wIf, wAnd, wOr, wNot, wAndV, wOrV, wNotV, wNeg, wChain, fI, fI0, addD, fLt, fLe, fGt, fGe, fIsB, wCB, fAbs, f2I, fInt, fIsq, wPar, wPar3, permD, startE, List.map_cons, List.map_nil, List.cons_append, List.nil_append, List.append_nil, List.length_cons, List.length_nil, List.replicate, List.getElem?_cons_zero, List.getElem?_cons_succ, List.set_cons_zero, List.set_cons_succ, List.getD_cons_zero, List.getD_cons_succ, Nat.reduceAdd, Nat.reduceSub, Nat.zero_add, true_and, and_true, Bool.not_true, Bool.not_false, if_true, if_false, Bool.false_eq_true, reduceIte, decide_eq_true_eq, Bool.not_eq_true', decide_eq_false_iff_not, eqV_int, eqV_str, eqV_bl, decide_true, reduceCtorEq, not_true_eq_false, not_false_eq_true, Bool.not_eq_true, List.not_mem_nil, false_implies, implies_true, Int.reduceNeg, Int.reduceToNat, Int.reducePow, Int.reduceMul, Int.reduceAdd, draw_i, ix_t0, ix_t1, ix_t2, ix_t3, ix_m3, ix_m4, sn_ball_box, sn_cell_box, sn_cell_ball, sn_ball_cell, sn_box_ball, sn_box_cell, decide_false]
  refine ⟨ns, rfl, hn, fun M a a0 hm => ?_⟩
  subst hK
  refine seq_gen fun K hK => ?_
  refine for_gen fun B hB => ?_
  simp (disch := first | assumption | decide) only [wSeq, wNext, wAsg, wgName, wIfS, wB, wOp, wVar, wC, wCall, wCallK, wCons, wNil, wRet, wRetN, wDrop, wTup, wLst, wIf, wAnd, wOr, wNot, wAndV, wOrV, wNotV, wNeg, wChain, fI, fI0, addD, fLt, fLe, fGt, fGe, fIsB, wCB, fAbs, f2I, fInt, fIsq, wPar, wPar3, permD, startE, List.map_cons, List.map_nil, List.cons_append, List.nil_append, List.append_nil, List.length_cons, List.length_nil, List.replicate, List.getElem?_cons_zero, List.getElem?_cons_succ, List.set_cons_zero, List.set_cons_succ, List.getD_cons_zero, List.getD_cons_succ, Nat.reduceAdd, Nat.reduceSub, Nat.zero_add, true_and, and_true, Bool.not_true, Bool.not_false, if_true, if_false, Bool.false_eq_true, reduceIte, decide_eq_true_eq, Bool.not_eq_true', decide_eq_false_iff_not, eqV_int, eqV_str, eqV_bl, decide_true, reduceCtorEq, not_true_eq_false, not_false_eq_true, Bool.not_eq_true, List.not_mem_nil, false_implies, implies_true, Int.reduceNeg, Int.reduceToNat, Int.reducePow, Int.reduceMul, Int.reduceAdd, draw_i, ix_t0, ix_t1, ix_t2, ix_t3, ix_m3, ix_m4, sn_ball_box, sn_cell_box, sn_cell_ball, sn_ball_cell, sn_box_ball, sn_box_cell, decide_false, wFor, wiRange1]
  refine ⟨_, rfl, ?_⟩
  simp (disch := first | assumption | decide) only [wSeq, wNext, wAsg, wgName, wIfS, wB, wOp, wVar, wC, wCall, wCallK, wCons, wNil, wRet, wRetN, wDrop, wTup, wLst, wIf, wAnd, wOr, wNot, wAndV, wOrV, wNotV, wNeg, wChain, fI, fI0, addD, fLt, fLe, fGt, fGe, fIsB, wCB, fAbs, f2I, fInt, fIsq, wPar, wPar3, permD, startE, List.map_cons, List.map_nil, List.cons_append, List.nil_append, List.append_nil, List.length_cons, List.length_nil, List.replicate, List.getElem?_cons_zero, List.getElem?_cons_succ, List.set_cons_zero, List.set_cons_succ, List.getD_cons_zero, List.getD_cons_succ, Nat.reduceAdd, Nat.reduceSub, Nat.zero_add, true_and, and_true, Bool.not_true, Bool.not_false, if_true, if_false, Bool.false_eq_true, reduceIte, decide_eq_true_eq, Bool.not_eq_true', decide_eq_false_iff_not, eqV_int, eqV_str, eqV_bl, decide_true, reduceCtorEq, not_true_eq_false, not_false_eq_true, Bool.not_eq_true, List.not_mem_nil, false_implies, implies_true, Int.reduceNeg, Int.reduceToNat, Int.reducePow, Int.reduceMul, Int.reduceAdd, draw_i, ix_t0, ix_t1, ix_t2, ix_t3, ix_m3, ix_m4, sn_ball_box, sn_cell_box, sn_cell_ball, sn_ball_cell, sn_box_ball, sn_box_cell, decide_false]
  obtain ⟨c, ec, c0, c1⟩ : ∃ c : Int, c = 1 + (if ((ns.map D.int).length : Int) > 2 then 1 else 0) ∧ 0 ≤ c ∧ c ≤ 3 := ⟨_, rfl, by split <;> omega, by split <;> omega⟩
  rw [← ec]
  refine ⟨by omega, by omega, ?_⟩
  refine loop_ix (fun i ρ' M' => M' a = some (.drw a0) ∧ ∃ v2 v3 v7 v8 v9 v10 v11 v12 : Option D, ρ' = [some (.lst (ns.map .int)), some (.tok a), v2, v3, none, none, none, v7, v8, v9, v10, v11, v12, none]) ?_ ?_ ⟨hm, _, _, _, _, _, _, _, _, rfl⟩
  · rintro i d ρ' M' hi ⟨hm, v2, v3, v7, v8, v9, v10, v11, v12, rfl⟩
    refine ⟨True.intro, fun K' hK' => ?_⟩
    simp only [wgName, List.set_cons_succ, List.set_cons_zero]
    subst hB
    refine seq_gen fun K2 hK2 => ?_
    simp (disch := first | assumption | decide) only [wSeq, wNext, wAsg, wgName, wIfS, wB, wOp, wVar, wC, wCall, wCallK, wCons, wNil, wRet, wRetN, wDrop, wTup, wLst, wIf, wAnd, wOr, wNot, wAndV, wOrV, wNotV, wNeg, wChain, fI, fI0, addD, fLt, fLe, fGt, fGe, fIsB, wCB, fAbs, f2I, fInt, fIsq, wPar, wPar3, permD, startE, List.map_cons, List.map_nil, List.cons_append, List.nil_append, List.append_nil, List.length_cons, List.length_nil, List.replicate, List.getElem?_cons_zero, List.getElem?_cons_succ, List.set_cons_zero, List.set_cons_succ, List.getD_cons_zero, List.getD_cons_succ, Nat.reduceAdd, Nat.reduceSub, Nat.zero_add, true_and, and_true, Bool.not_true, Bool.not_false, if_true, if_false, Bool.false_eq_true, reduceIte, decide_eq_true_eq, Bool.not_eq_true', decide_eq_false_iff_not, eqV_int, eqV_str, eqV_bl, decide_true, reduceCtorEq, not_true_eq_false, not_false_eq_true, Bool.not_eq_true, List.not_mem_nil, false_implies, implies_true, Int.reduceNeg, Int.reduceToNat, Int.reducePow, Int.reduceMul, Int.reduceAdd, draw_i, ix_t0, ix_t1, ix_t2, ix_t3, ix_m3, ix_m4, sn_ball_box, sn_cell_box, sn_cell_ball, sn_ball_cell, sn_box_ball, sn_box_cell, decide_false, wgTup, wgCons, wgNil]
    refine ⟨by decide, pick_q hm rfl (by decide) (by decide) fun x hx => ⟨by decide, pick_q hm rfl (by decide) (by decide) fun y hy => ?_⟩⟩
    obtain ⟨p, rfl, p1⟩ : ∃ p : Nat, x = .int (p : Int) ∧ p ≤ 8 := by
      simp only [List.mem_cons, List.not_mem_nil, or_false] at hx
      rcases hx with rfl | rfl | rfl | rfl | rfl | rfl
      · exact ⟨2, rfl, by decide⟩
      · exact ⟨1, rfl, by decide⟩
      · exact ⟨2, rfl, by decide⟩
      · exact ⟨3, rfl, by decide⟩
      · exact ⟨5, rfl, by decide⟩
      · exact ⟨8, rfl, by decide⟩
    obtain ⟨far, rfl, f0, f1⟩ : ∃ far : Int, y = .int far ∧ 3 ≤ far ∧ far ≤ 4900 := by
      simp only [List.mem_cons, List.not_mem_nil, or_false] at hy
      rcases hy with rfl | rfl | rfl | rfl
      · exact ⟨_, rfl, by decide, by decide⟩
      · exact ⟨_, rfl, by decide, by decide⟩
      · exact ⟨_, rfl, by decide, by decide⟩
      · exact ⟨_, rfl, by decide, by decide⟩
    refine ⟨by decide, ?_⟩
    subst hK2
    refine for_gen fun B hB => ?_
    simp (disch := first | assumption | decide) only [wSeq, wNext, wAsg, wgName, wIfS, wB, wOp, wVar, wC, wCall, wCallK, wCons, wNil, wRet, wRetN, wDrop, wTup, wLst, wIf, wAnd, wOr, wNot, wAndV, wOrV, wNotV, wNeg, wChain, fI, fI0, addD, fLt, fLe, fGt, fGe, fIsB, wCB, fAbs, f2I, fInt, fIsq, wPar, wPar3, permD, startE, List.map_cons, List.map_nil, List.cons_append, List.nil_append, List.append_nil, List.length_cons, List.length_nil, List.replicate, List.getElem?_cons_zero, List.getElem?_cons_succ, List.set_cons_zero, List.set_cons_succ, List.getD_cons_zero, List.getD_cons_succ, Nat.reduceAdd, Nat.reduceSub, Nat.zero_add, true_and, and_true, Bool.not_true, Bool.not_false, if_true, if_false, Bool.false_eq_true, reduceIte, decide_eq_true_eq, Bool.not_eq_true', decide_eq_false_iff_not, eqV_int, eqV_str, eqV_bl, decide_true, reduceCtorEq, not_true_eq_false, not_false_eq_true, Bool.not_eq_true, List.not_mem_nil, false_implies, implies_true, Int.reduceNeg, Int.reduceToNat, Int.reducePow, Int.reduceMul, Int.reduceAdd, draw_i, ix_t0, ix_t1, ix_t2, ix_t3, ix_m3, ix_m4, sn_ball_box, sn_cell_box, sn_cell_ball, sn_ball_cell, sn_box_ball, sn_box_cell, decide_false, wFor, wiSeq, c_KINDS]
    refine loop_ix (fun i ρ' M2 => M2 a = some (.drw a0) ∧ ∃ v3 v9 v10 v11 v12 : Option D, ρ' = [some (.lst (ns.map .int)), some (.tok a), some d, v3, none, none, none, some (.int (p : Int)), some (.int far), v9, v10, v11, v12, none]) ?_ ?_ ⟨hm, _, _, _, _, _, rfl⟩
    · rintro i d2 ρ' M2 hi2 ⟨hm, v3, v9, v10, v11, v12, rfl⟩
      refine ⟨True.intro, fun K3 hK3 => ?_⟩
      obtain ⟨k, rfl⟩ : ∃ k : Str, d2 = .str k := by
        have hm' := List.mem_of_getElem? hi2
        simp only [List.mem_cons, List.not_mem_nil, or_false] at hm'
        rcases hm' with rfl | rfl | rfl | rfl <;> exact ⟨_, rfl⟩
      simp only [wgName, List.set_cons_succ, List.set_cons_zero]
      subst hB
      refine seq_gen fun K4 hK4 => ?_
      simp (disch := first | assumption | decide) only [wSeq, wNext, wAsg, wgName, wIfS, wB, wOp, wVar, wC, wCall, wCallK, wCons, wNil, wRet, wRetN, wDrop, wTup, wLst, wIf, wAnd, wOr, wNot, wAndV, wOrV, wNotV, wNeg, wChain, fI, fI0, addD, fLt, fLe, fGt, fGe, fIsB, wCB, fAbs, f2I, fInt, fIsq, wPar, wPar3, permD, startE, List.map_cons, List.map_nil, List.cons_append, List.nil_append, List.append_nil, List.length_cons, List.length_nil, List.replicate, List.getElem?_cons_zero, List.getElem?_cons_succ, List.set_cons_zero, List.set_cons_succ, List.getD_cons_zero, List.getD_cons_succ, Nat.reduceAdd, Nat.reduceSub, Nat.zero_add, true_and, and_true, Bool.not_true, Bool.not_false, if_true, if_false, Bool.false_eq_true, reduceIte, decide_eq_true_eq, Bool.not_eq_true', decide_eq_false_iff_not, eqV_int, eqV_str, eqV_bl, decide_true, reduceCtorEq, not_true_eq_false, not_false_eq_true, Bool.not_eq_true, List.not_mem_nil, false_implies, implies_true, Int.reduceNeg, Int.reduceToNat, Int.reducePow, Int.reduceMul, Int.reduceAdd, draw_i, ix_t0, ix_t1, ix_t2, ix_t3, ix_m3, ix_m4, sn_ball_box, sn_cell_box, sn_cell_ball, sn_ball_cell, sn_box_ball, sn_box_cell, decide_false]
      refine ⟨a, a0, k, p, far, rfl, hm, p1, f0, f1, fun r ok mid => ?_⟩
      subst hK4
      refine seq_gen fun K4 hK4 => ?_
      simp (disch := first | assumption | decide) only [wSeq, wNext, wAsg, wgName, wIfS, wB, wOp, wVar, wC, wCall, wCallK, wCons, wNil, wRet, wRetN, wDrop, wTup, wLst, wIf, wAnd, wOr, wNot, wAndV, wOrV, wNotV, wNeg, wChain, fI, fI0, addD, fLt, fLe, fGt, fGe, fIsB, wCB, fAbs, f2I, fInt, fIsq, wPar, wPar3, permD, startE, List.map_cons, List.map_nil, List.cons_append, List.nil_append, List.append_nil, List.length_cons, List.length_nil, List.replicate, List.getElem?_cons_zero, List.getElem?_cons_succ, List.set_cons_zero, List.set_cons_succ, List.getD_cons_zero, List.getD_cons_succ, Nat.reduceAdd, Nat.reduceSub, Nat.zero_add, true_and, and_true, Bool.not_true, Bool.not_false, if_true, if_false, Bool.false_eq_true, reduceIte, decide_eq_true_eq, Bool.not_eq_true', decide_eq_false_iff_not, eqV_int, eqV_str, eqV_bl, decide_true, reduceCtorEq, not_true_eq_false, not_false_eq_true, Bool.not_eq_true, List.not_mem_nil, false_implies, implies_true, Int.reduceNeg, Int.reduceToNat, Int.reducePow, Int.reduceMul, Int.reduceAdd, draw_i, ix_t0, ix_t1, ix_t2, ix_t3, ix_m3, ix_m4, sn_ball_box, sn_cell_box, sn_cell_ball, sn_ball_cell, sn_box_ball, sn_box_cell, decide_false, wLc, wiSeq, wipeE, fTuple, ix_mid]
      unfold vec
      refine lc_any (fun _ y => ∃ b : Int, y = .int b ∧ -10004 ≤ b ∧ b ≤ 10004) True.intro _ [] ?_ (fun d hd K5 hK5 => ?_) fun ys hy1 hy2 => ?_
      · rw [List.length_map, mid.1]
        simp only [List.length_nil]
        omega
      · obtain ⟨x, hx, rfl⟩ := List.mem_map.mp hd
        have bx := mid.2 x hx
        simp (disch := first | assumption | decide) only [wSeq, wNext, wAsg, wgName, wIfS, wB, wOp, wVar, wC, wCall, wCallK, wCons, wNil, wRet, wRetN, wDrop, wTup, wLst, wIf, wAnd, wOr, wNot, wAndV, wOrV, wNotV, wNeg, wChain, fI, fI0, addD, fLt, fLe, fGt, fGe, fIsB, wCB, fAbs, f2I, fInt, fIsq, wPar, wPar3, permD, startE, List.map_cons, List.map_nil, List.cons_append, List.nil_append, List.append_nil, List.length_cons, List.length_nil, List.replicate, List.getElem?_cons_zero, List.getElem?_cons_succ, List.set_cons_zero, List.set_cons_succ, List.getD_cons_zero, List.getD_cons_succ, Nat.reduceAdd, Nat.reduceSub, Nat.zero_add, true_and, and_true, Bool.not_true, Bool.not_false, if_true, if_false, Bool.false_eq_true, reduceIte, decide_eq_true_eq, Bool.not_eq_true', decide_eq_false_iff_not, eqV_int, eqV_str, eqV_bl, decide_true, reduceCtorEq, not_true_eq_false, not_false_eq_true, Bool.not_eq_true, List.not_mem_nil, false_implies, implies_true, Int.reduceNeg, Int.reduceToNat, Int.reducePow, Int.reduceMul, Int.reduceAdd, draw_i, ix_t0, ix_t1, ix_t2, ix_t3, ix_m3, ix_m4, sn_ball_box, sn_cell_box, sn_cell_ball, sn_ball_cell, sn_box_ball, sn_box_cell, decide_false]
        refine fun j j0 j1 => hK5 _ ⟨_, rfl, by omega, by omega⟩
      obtain ⟨near, rfl, hnear⟩ := ints_of (R := fun b => -10004 ≤ b ∧ b ≤ 10004) (fun y hy => by
        obtain ⟨i, hi⟩ := List.mem_iff_getElem?.mp hy
        obtain ⟨_, _, h⟩ := hy2 i y hi
        exact h)
      rw [List.length_map, List.length_map, mid.1] at hy1
      clear hy2
      rw [List.nil_append]
      have nk : vk p 50000 near := ⟨hy1, fun x hx => by have := hnear x hx; omega⟩
      refine ⟨_, rfl, ?_⟩
      show K4 [some (.lst (ns.map .int)), some (.tok a), some d, some (.str k), none, none, none, some (.int (p : Int)), some (.int far), some r.d, some (vec near), v11, v12, none] M2
      subst hK4
      refine seq_gen fun K4 hK4 => ?_
      simp (disch := first | assumption | decide) only [wSeq, wNext, wAsg, wgName, wIfS, wB, wOp, wVar, wC, wCall, wCallK, wCons, wNil, wRet, wRetN, wDrop, wTup, wLst, wIf, wAnd, wOr, wNot, wAndV, wOrV, wNotV, wNeg, wChain, fI, fI0, addD, fLt, fLe, fGt, fGe, fIsB, wCB, fAbs, f2I, fInt, fIsq, wPar, wPar3, permD, startE, List.map_cons, List.map_nil, List.cons_append, List.nil_append, List.append_nil, List.length_cons, List.length_nil, List.replicate, List.getElem?_cons_zero, List.getElem?_cons_succ, List.set_cons_zero, List.set_cons_succ, List.getD_cons_zero, List.getD_cons_succ, Nat.reduceAdd, Nat.reduceSub, Nat.zero_add, true_and, and_true, Bool.not_true, Bool.not_false, if_true, if_false, Bool.false_eq_true, reduceIte, decide_eq_true_eq, Bool.not_eq_true', decide_eq_false_iff_not, eqV_int, eqV_str, eqV_bl, decide_true, reduceCtorEq, not_true_eq_false, not_false_eq_true, Bool.not_eq_true, List.not_mem_nil, false_implies, implies_true, Int.reduceNeg, Int.reduceToNat, Int.reducePow, Int.reduceMul, Int.reduceAdd, draw_i, ix_t0, ix_t1, ix_t2, ix_t3, ix_m3, ix_m4, sn_ball_box, sn_cell_box, sn_cell_ball, sn_ball_cell, sn_box_ball, sn_box_cell, decide_false, wLc, wiSeq, wipeE, fTuple, ix_mid]
      unfold vec
      refine lc_any (fun _ y => ∃ b : Int, y = .int b ∧ -10004 ≤ b ∧ b ≤ 10004) True.intro _ [] ?_ (fun d hd K5 hK5 => ?_) fun ys hy1' hy2 => ?_
      · rw [List.length_map, hy1]
        simp only [List.length_nil]
        omega
      · obtain ⟨x, hx, rfl⟩ := List.mem_map.mp hd
        simp (disch := first | assumption | decide) only [wSeq, wNext, wAsg, wgName, wIfS, wB, wOp, wVar, wC, wCall, wCallK, wCons, wNil, wRet, wRetN, wDrop, wTup, wLst, wIf, wAnd, wOr, wNot, wAndV, wOrV, wNotV, wNeg, wChain, fI, fI0, addD, fLt, fLe, fGt, fGe, fIsB, wCB, fAbs, f2I, fInt, fIsq, wPar, wPar3, permD, startE, List.map_cons, List.map_nil, List.cons_append, List.nil_append, List.append_nil, List.length_cons, List.length_nil, List.replicate, List.getElem?_cons_zero, List.getElem?_cons_succ, List.set_cons_zero, List.set_cons_succ, List.getD_cons_zero, List.getD_cons_succ, Nat.reduceAdd, Nat.reduceSub, Nat.zero_add, true_and, and_true, Bool.not_true, Bool.not_false, if_true, if_false, Bool.false_eq_true, reduceIte, decide_eq_true_eq, Bool.not_eq_true', decide_eq_false_iff_not, eqV_int, eqV_str, eqV_bl, decide_true, reduceCtorEq, not_true_eq_false, not_false_eq_true, Bool.not_eq_true, List.not_mem_nil, false_implies, implies_true, Int.reduceNeg, Int.reduceToNat, Int.reducePow, Int.reduceMul, Int.reduceAdd, draw_i, ix_t0, ix_t1, ix_t2, ix_t3, ix_m3, ix_m4, sn_ball_box, sn_cell_box, sn_cell_ball, sn_ball_cell, sn_box_ball, sn_box_cell, decide_false]
        refine ⟨cm_of (by decide) (by decide), (draw_i hm (by omega) (log_of (by omega) (by omega))).mpr fun j j0 j1 => hK5 _ ⟨_, rfl, by omega, by omega⟩⟩
      obtain ⟨other, rfl, hother⟩ := ints_of (R := fun b => -10004 ≤ b ∧ b ≤ 10004) (fun y hy => by
        obtain ⟨i, hi⟩ := List.mem_iff_getElem?.mp hy
        obtain ⟨_, _, h⟩ := hy2 i y hi
        exact h)
      rw [List.length_map, List.length_map, hy1] at hy1'
      clear hy2
      rw [List.nil_append]
      have tk : vk p 50000 other := ⟨hy1', fun x hx => by have := hother x hx; omega⟩
      have mk : vk p 50000 r.mid := vk_up mid (by decide)
      refine ⟨_, rfl, by decide, ?_⟩
      refine pick_q hm rfl (by show 0 < 4; decide) (by show 4 ≤ 1000000; decide) fun x hx => ?_
      obtain ⟨v, rfl, vv⟩ : ∃ v, x = vec v ∧ vk p 50000 v := by
        simp only [List.mem_cons, List.not_mem_nil, or_false] at hx
        rcases hx with rfl | rfl | rfl | rfl
        · exact ⟨_, rfl, mk⟩
        · exact ⟨_, rfl, nk⟩
        · exact ⟨_, rfl, nk⟩
        · exact ⟨_, rfl, tk⟩
      show K4 [some (.lst (ns.map .int)), some (.tok a), some d, some (.str k), none, none, none, some (.int (p : Int)), some (.int far), some r.d, some (vec near), some (vec v), v12, none] M2
      subst hK4
      refine seq_gen fun K4 hK4 => ?_
      simp (disch := first | assumption | decide) only [wSeq, wNext, wAsg, wgName, wIfS, wB, wOp, wVar, wC, wCall, wCallK, wCons, wNil, wRet, wRetN, wDrop, wTup, wLst, wIf, wAnd, wOr, wNot, wAndV, wOrV, wNotV, wNeg, wChain, fI, fI0, addD, fLt, fLe, fGt, fGe, fIsB, wCB, fAbs, f2I, fInt, fIsq, wPar, wPar3, permD, startE, List.map_cons, List.map_nil, List.cons_append, List.nil_append, List.append_nil, List.length_cons, List.length_nil, List.replicate, List.getElem?_cons_zero, List.getElem?_cons_succ, List.set_cons_zero, List.set_cons_succ, List.getD_cons_zero, List.getD_cons_succ, Nat.reduceAdd, Nat.reduceSub, Nat.zero_add, true_and, and_true, Bool.not_true, Bool.not_false, if_true, if_false, Bool.false_eq_true, reduceIte, decide_eq_true_eq, Bool.not_eq_true', decide_eq_false_iff_not, eqV_int, eqV_str, eqV_bl, decide_true, reduceCtorEq, not_true_eq_false, not_false_eq_true, Bool.not_eq_true, List.not_mem_nil, false_implies, implies_true, Int.reduceNeg, Int.reduceToNat, Int.reducePow, Int.reduceMul, Int.reduceAdd, draw_i, ix_t0, ix_t1, ix_t2, ix_t3, ix_m3, ix_m4, sn_ball_box, sn_cell_box, sn_cell_ball, sn_ball_cell, sn_box_ball, sn_box_cell, decide_false]
      refine rg_repr p1 ok ?_
      subst hK4
      simp (disch := first | assumption | decide) only [wSeq, wNext, wAsg, wgName, wIfS, wB, wOp, wVar, wC, wCall, wCallK, wCons, wNil, wRet, wRetN, wDrop, wTup, wLst, wIf, wAnd, wOr, wNot, wAndV, wOrV, wNotV, wNeg, wChain, fI, fI0, addD, fLt, fLe, fGt, fGe, fIsB, wCB, fAbs, f2I, fInt, fIsq, wPar, wPar3, permD, startE, List.map_cons, List.map_nil, List.cons_append, List.nil_append, List.append_nil, List.length_cons, List.length_nil, List.replicate, List.getElem?_cons_zero, List.getElem?_cons_succ, List.set_cons_zero, List.set_cons_succ, List.getD_cons_zero, List.getD_cons_succ, Nat.reduceAdd, Nat.reduceSub, Nat.zero_add, true_and, and_true, Bool.not_true, Bool.not_false, if_true, if_false, Bool.false_eq_true, reduceIte, decide_eq_true_eq, Bool.not_eq_true', decide_eq_false_iff_not, eqV_int, eqV_str, eqV_bl, decide_true, reduceCtorEq, not_true_eq_false, not_false_eq_true, Bool.not_eq_true, List.not_mem_nil, false_implies, implies_true, Int.reduceNeg, Int.reduceToNat, Int.reducePow, Int.reduceMul, Int.reduceAdd, draw_i, ix_t0, ix_t1, ix_t2, ix_t3, ix_m3, ix_m4, sn_ball_box, sn_cell_box, sn_cell_ball, sn_ball_cell, sn_box_ball, sn_box_cell, decide_false]
      refine right_i p1 ok vv fun M3 up3 => ?_
      simp (disch := first | assumption | decide) only [wSeq, wNext, wAsg, wgName, wIfS, wB, wOp, wVar, wC, wCall, wCallK, wCons, wNil, wRet, wRetN, wDrop, wTup, wLst, wIf, wAnd, wOr, wNot, wAndV, wOrV, wNotV, wNeg, wChain, fI, fI0, addD, fLt, fLe, fGt, fGe, fIsB, wCB, fAbs, f2I, fInt, fIsq, wPar, wPar3, permD, startE, List.map_cons, List.map_nil, List.cons_append, List.nil_append, List.append_nil, List.length_cons, List.length_nil, List.replicate, List.getElem?_cons_zero, List.getElem?_cons_succ, List.set_cons_zero, List.set_cons_succ, List.getD_cons_zero, List.getD_cons_succ, Nat.reduceAdd, Nat.reduceSub, Nat.zero_add, true_and, and_true, Bool.not_true, Bool.not_false, if_true, if_false, Bool.false_eq_true, reduceIte, decide_eq_true_eq, Bool.not_eq_true', decide_eq_false_iff_not, eqV_int, eqV_str, eqV_bl, decide_true, reduceCtorEq, not_true_eq_false, not_false_eq_true, Bool.not_eq_true, List.not_mem_nil, false_implies, implies_true, Int.reduceNeg, Int.reduceToNat, Int.reducePow, Int.reduceMul, Int.reduceAdd, draw_i, ix_t0, ix_t1, ix_t2, ix_t3, ix_m3, ix_m4, sn_ball_box, sn_cell_box, sn_cell_ball, sn_ball_cell, sn_box_ball, sn_box_cell, decide_false]
      refine right_i p1 ok nk fun M4 up4 => ?_
      simp (disch := first | assumption | decide) only [wSeq, wNext, wAsg, wgName, wIfS, wB, wOp, wVar, wC, wCall, wCallK, wCons, wNil, wRet, wRetN, wDrop, wTup, wLst, wIf, wAnd, wOr, wNot, wAndV, wOrV, wNotV, wNeg, wChain, fI, fI0, addD, fLt, fLe, fGt, fGe, fIsB, wCB, fAbs, f2I, fInt, fIsq, wPar, wPar3, permD, startE, List.map_cons, List.map_nil, List.cons_append, List.nil_append, List.append_nil, List.length_cons, List.length_nil, List.replicate, List.getElem?_cons_zero, List.getElem?_cons_succ, List.set_cons_zero, List.set_cons_succ, List.getD_cons_zero, List.getD_cons_succ, Nat.reduceAdd, Nat.reduceSub, Nat.zero_add, true_and, and_true, Bool.not_true, Bool.not_false, if_true, if_false, Bool.false_eq_true, reduceIte, decide_eq_true_eq, Bool.not_eq_true', decide_eq_false_iff_not, eqV_int, eqV_str, eqV_bl, decide_true, reduceCtorEq, not_true_eq_false, not_false_eq_true, Bool.not_eq_true, List.not_mem_nil, false_implies, implies_true, Int.reduceNeg, Int.reduceToNat, Int.reducePow, Int.reduceMul, Int.reduceAdd, draw_i, ix_t0, ix_t1, ix_t2, ix_t3, ix_m3, ix_m4, sn_ball_box, sn_cell_box, sn_cell_ball, sn_ball_cell, sn_box_ball, sn_box_cell, decide_false]
      refine rg_repr p1 ok ?_
      simp (disch := first | assumption | decide) only [wSeq, wNext, wAsg, wgName, wIfS, wB, wOp, wVar, wC, wCall, wCallK, wCons, wNil, wRet, wRetN, wDrop, wTup, wLst, wIf, wAnd, wOr, wNot, wAndV, wOrV, wNotV, wNeg, wChain, fI, fI0, addD, fLt, fLe, fGt, fGe, fIsB, wCB, fAbs, f2I, fInt, fIsq, wPar, wPar3, permD, startE, List.map_cons, List.map_nil, List.cons_append, List.nil_append, List.append_nil, List.length_cons, List.length_nil, List.replicate, List.getElem?_cons_zero, List.getElem?_cons_succ, List.set_cons_zero, List.set_cons_succ, List.getD_cons_zero, List.getD_cons_succ, Nat.reduceAdd, Nat.reduceSub, Nat.zero_add, true_and, and_true, Bool.not_true, Bool.not_false, if_true, if_false, Bool.false_eq_true, reduceIte, decide_eq_true_eq, Bool.not_eq_true', decide_eq_false_iff_not, eqV_int, eqV_str, eqV_bl, decide_true, reduceCtorEq, not_true_eq_false, not_false_eq_true, Bool.not_eq_true, List.not_mem_nil, false_implies, implies_true, Int.reduceNeg, Int.reduceToNat, Int.reducePow, Int.reduceMul, Int.reduceAdd, draw_i, ix_t0, ix_t1, ix_t2, ix_t3, ix_m3, ix_m4, sn_ball_box, sn_cell_box, sn_cell_ball, sn_ball_cell, sn_box_ball, sn_box_cell, decide_false]
      exact hK3 _ _ ⟨up4 _ _ (up3 _ _ hm), _, _, _, _, _, rfl⟩
    · rintro ρ' M2 ⟨hm, v3, v9, v10, v11, v12, rfl⟩
      exact ⟨True.intro, hK' _ _ ⟨hm, _, _, _, _, _, _, _, _, rfl⟩⟩
  · rintro ρ' M' ⟨hm, v2, v3, v7, v8, v9, v10, v11, v12, rfl⟩
    refine ⟨True.intro, ?_⟩
    show K _ _
    have ball25 : rgOk 2 (.ball [0, 0] 25) := ⟨⟨rfl, by decide⟩, by decide, by decide⟩
    have ball2 : rgOk 2 (.ball [0, 0] 2) := ⟨⟨rfl, by decide⟩, by decide, by decide⟩
    have box1 : rgOk 2 (.box [1, 1] [3, 6]) := ⟨⟨rfl, by decide⟩, ⟨rfl, by decide⟩, by decide⟩
    have box2 : rgOk 2 (.box [4, 1] [4, 3]) := ⟨⟨rfl, by decide⟩, ⟨rfl, by decide⟩, by decide⟩
    have cell1 : rgOk 2 (.cell [0, 0] 25 36) := ⟨⟨rfl, by decide⟩, by decide, by decide, by decide⟩
    have fl : ∀ (k : Str) (r : Rg) (x y : Int) (n : Int) (Q : KD), rgOk 2 r → -60000 ≤ x ∧ x ≤ 60000 → -60000 ≤ y ∧ y ≤ 60000 → floorI k r [x, y] = n → Q (.int n) M' → F_floor_of [.str k, r.d, .tup [.int x, .int y]] M' Q fun _ _ _ => False := fun k r x y n Q ok hx hy e q => by
      refine floor_i (v := [x, y]) (p := 2) (by decide) ok ⟨rfl, fun z hz => ?_⟩ (e ▸ q)
      simp only [List.mem_cons, List.not_mem_nil, or_false] at hz
      rcases hz with rfl | rfl
      · exact hx
      · exact hy
    have ce : ∀ (k : Str) (r : Rg) (x y : Int) (n : Int) (Q : KD), rgOk 2 r → -60000 ≤ x ∧ x ≤ 60000 → -60000 ≤ y ∧ y ≤ 60000 → ceilI k r [x, y] = n → Q (.int n) M' → F_ceiling_of [.str k, r.d, .tup [.int x, .int y]] M' Q fun _ _ _ => False := fun k r x y n Q ok hx hy e q => by
      refine ceil_i (v := [x, y]) (p := 2) (by decide) ok ⟨rfl, fun z hz => ?_⟩ (e ▸ q)
      simp only [List.mem_cons, List.not_mem_nil, or_false] at hz
      rcases hz with rfl | rfl
      · exact hx
      · exact hy
    subst hK
    refine seq_gen fun K hK => ?_
    simp (disch := first | assumption | decide) only [wSeq, wNext, wAsg, wgName, wIfS, wB, wOp, wVar, wC, wCall, wCallK, wCons, wNil, wRet, wRetN, wDrop, wTup, wLst, wIf, wAnd, wOr, wNot, wAndV, wOrV, wNotV, wNeg, wChain, fI, fI0, addD, fLt, fLe, fGt, fGe, fIsB, wCB, fAbs, f2I, fInt, fIsq, wPar, wPar3, permD, startE, List.map_cons, List.map_nil, List.cons_append, List.nil_append, List.append_nil, List.length_cons, List.length_nil, List.replicate, List.getElem?_cons_zero, List.getElem?_cons_succ, List.set_cons_zero, List.set_cons_succ, List.getD_cons_zero, List.getD_cons_succ, Nat.reduceAdd, Nat.reduceSub, Nat.zero_add, true_and, and_true, Bool.not_true, Bool.not_false, if_true, if_false, Bool.false_eq_true, reduceIte, decide_eq_true_eq, Bool.not_eq_true', decide_eq_false_iff_not, eqV_int, eqV_str, eqV_bl, decide_true, reduceCtorEq, not_true_eq_false, not_false_eq_true, Bool.not_eq_true, List.not_mem_nil, false_implies, implies_true, Int.reduceNeg, Int.reduceToNat, Int.reducePow, Int.reduceMul, Int.reduceAdd, draw_i, ix_t0, ix_t1, ix_t2, ix_t3, ix_m3, ix_m4, sn_ball_box, sn_cell_box, sn_cell_ball, sn_ball_cell, sn_box_ball, sn_box_cell, decide_false, wgTup, wgCons, wgNil]
    refine ⟨by decide, by decide, by decide, by decide, by decide, by decide, by decide, by decide, ?_⟩
    subst hK
    refine seq_gen fun K hK => ?_
    simp (disch := first | assumption | decide) only [wSeq, wNext, wAsg, wgName, wIfS, wB, wOp, wVar, wC, wCall, wCallK, wCons, wNil, wRet, wRetN, wDrop, wTup, wLst, wIf, wAnd, wOr, wNot, wAndV, wOrV, wNotV, wNeg, wChain, fI, fI0, addD, fLt, fLe, fGt, fGe, fIsB, wCB, fAbs, f2I, fInt, fIsq, wPar, wPar3, permD, startE, List.map_cons, List.map_nil, List.cons_append, List.nil_append, List.append_nil, List.length_cons, List.length_nil, List.replicate, List.getElem?_cons_zero, List.getElem?_cons_succ, List.set_cons_zero, List.set_cons_succ, List.getD_cons_zero, List.getD_cons_succ, Nat.reduceAdd, Nat.reduceSub, Nat.zero_add, true_and, and_true, Bool.not_true, Bool.not_false, if_true, if_false, Bool.false_eq_true, reduceIte, decide_eq_true_eq, Bool.not_eq_true', decide_eq_false_iff_not, eqV_int, eqV_str, eqV_bl, decide_true, reduceCtorEq, not_true_eq_false, not_false_eq_true, Bool.not_eq_true, List.not_mem_nil, false_implies, implies_true, Int.reduceNeg, Int.reduceToNat, Int.reducePow, Int.reduceMul, Int.reduceAdd, draw_i, ix_t0, ix_t1, ix_t2, ix_t3, ix_m3, ix_m4, sn_ball_box, sn_cell_box, sn_cell_ball, sn_ball_cell, sn_box_ball, sn_box_cell, decide_false]
    refine ⟨by decide, fl "square" (.ball [0, 0] 25) 6 8 25 _ ball25 (by decide) (by decide) (by decide +kernel) ?_⟩
    simp (disch := first | assumption | decide) only [wSeq, wNext, wAsg, wgName, wIfS, wB, wOp, wVar, wC, wCall, wCallK, wCons, wNil, wRet, wRetN, wDrop, wTup, wLst, wIf, wAnd, wOr, wNot, wAndV, wOrV, wNotV, wNeg, wChain, fI, fI0, addD, fLt, fLe, fGt, fGe, fIsB, wCB, fAbs, f2I, fInt, fIsq, wPar, wPar3, permD, startE, List.map_cons, List.map_nil, List.cons_append, List.nil_append, List.append_nil, List.length_cons, List.length_nil, List.replicate, List.getElem?_cons_zero, List.getElem?_cons_succ, List.set_cons_zero, List.set_cons_succ, List.getD_cons_zero, List.getD_cons_succ, Nat.reduceAdd, Nat.reduceSub, Nat.zero_add, true_and, and_true, Bool.not_true, Bool.not_false, if_true, if_false, Bool.false_eq_true, reduceIte, decide_eq_true_eq, Bool.not_eq_true', decide_eq_false_iff_not, eqV_int, eqV_str, eqV_bl, decide_true, reduceCtorEq, not_true_eq_false, not_false_eq_true, Bool.not_eq_true, List.not_mem_nil, false_implies, implies_true, Int.reduceNeg, Int.reduceToNat, Int.reducePow, Int.reduceMul, Int.reduceAdd, draw_i, ix_t0, ix_t1, ix_t2, ix_t3, ix_m3, ix_m4, sn_ball_box, sn_cell_box, sn_cell_ball, sn_ball_cell, sn_box_ball, sn_box_cell, decide_false]
    refine ⟨by decide, ce "square" (.ball [0, 0] 25) 6 8 225 _ ball25 (by decide) (by decide) (by decide +kernel) ?_⟩
    simp (disch := first | assumption | decide) only [wSeq, wNext, wAsg, wgName, wIfS, wB, wOp, wVar, wC, wCall, wCallK, wCons, wNil, wRet, wRetN, wDrop, wTup, wLst, wIf, wAnd, wOr, wNot, wAndV, wOrV, wNotV, wNeg, wChain, fI, fI0, addD, fLt, fLe, fGt, fGe, fIsB, wCB, fAbs, f2I, fInt, fIsq, wPar, wPar3, permD, startE, List.map_cons, List.map_nil, List.cons_append, List.nil_append, List.append_nil, List.length_cons, List.length_nil, List.replicate, List.getElem?_cons_zero, List.getElem?_cons_succ, List.set_cons_zero, List.set_cons_succ, List.getD_cons_zero, List.getD_cons_succ, Nat.reduceAdd, Nat.reduceSub, Nat.zero_add, true_and, and_true, Bool.not_true, Bool.not_false, if_true, if_false, Bool.false_eq_true, reduceIte, decide_eq_true_eq, Bool.not_eq_true', decide_eq_false_iff_not, eqV_int, eqV_str, eqV_bl, decide_true, reduceCtorEq, not_true_eq_false, not_false_eq_true, Bool.not_eq_true, List.not_mem_nil, false_implies, implies_true, Int.reduceNeg, Int.reduceToNat, Int.reducePow, Int.reduceMul, Int.reduceAdd, draw_i, ix_t0, ix_t1, ix_t2, ix_t3, ix_m3, ix_m4, sn_ball_box, sn_cell_box, sn_cell_ball, sn_ball_cell, sn_box_ball, sn_box_cell, decide_false]
    refine ⟨by decide, fl "square" (.cell [0, 0] 25 36) 0 2 9 _ cell1 (by decide) (by decide) (by decide +kernel) ?_⟩
    simp (disch := first | assumption | decide) only [wSeq, wNext, wAsg, wgName, wIfS, wB, wOp, wVar, wC, wCall, wCallK, wCons, wNil, wRet, wRetN, wDrop, wTup, wLst, wIf, wAnd, wOr, wNot, wAndV, wOrV, wNotV, wNeg, wChain, fI, fI0, addD, fLt, fLe, fGt, fGe, fIsB, wCB, fAbs, f2I, fInt, fIsq, wPar, wPar3, permD, startE, List.map_cons, List.map_nil, List.cons_append, List.nil_append, List.append_nil, List.length_cons, List.length_nil, List.replicate, List.getElem?_cons_zero, List.getElem?_cons_succ, List.set_cons_zero, List.set_cons_succ, List.getD_cons_zero, List.getD_cons_succ, Nat.reduceAdd, Nat.reduceSub, Nat.zero_add, true_and, and_true, Bool.not_true, Bool.not_false, if_true, if_false, Bool.false_eq_true, reduceIte, decide_eq_true_eq, Bool.not_eq_true', decide_eq_false_iff_not, eqV_int, eqV_str, eqV_bl, decide_true, reduceCtorEq, not_true_eq_false, not_false_eq_true, Bool.not_eq_true, List.not_mem_nil, false_implies, implies_true, Int.reduceNeg, Int.reduceToNat, Int.reducePow, Int.reduceMul, Int.reduceAdd, draw_i, ix_t0, ix_t1, ix_t2, ix_t3, ix_m3, ix_m4, sn_ball_box, sn_cell_box, sn_cell_ball, sn_ball_cell, sn_box_ball, sn_box_cell, decide_false]
    subst hK
    refine seq_gen fun K hK => ?_
    simp (disch := first | assumption | decide) only [wSeq, wNext, wAsg, wgName, wIfS, wB, wOp, wVar, wC, wCall, wCallK, wCons, wNil, wRet, wRetN, wDrop, wTup, wLst, wIf, wAnd, wOr, wNot, wAndV, wOrV, wNotV, wNeg, wChain, fI, fI0, addD, fLt, fLe, fGt, fGe, fIsB, wCB, fAbs, f2I, fInt, fIsq, wPar, wPar3, permD, startE, List.map_cons, List.map_nil, List.cons_append, List.nil_append, List.append_nil, List.length_cons, List.length_nil, List.replicate, List.getElem?_cons_zero, List.getElem?_cons_succ, List.set_cons_zero, List.set_cons_succ, List.getD_cons_zero, List.getD_cons_succ, Nat.reduceAdd, Nat.reduceSub, Nat.zero_add, true_and, and_true, Bool.not_true, Bool.not_false, if_true, if_false, Bool.false_eq_true, reduceIte, decide_eq_true_eq, Bool.not_eq_true', decide_eq_false_iff_not, eqV_int, eqV_str, eqV_bl, decide_true, reduceCtorEq, not_true_eq_false, not_false_eq_true, Bool.not_eq_true, List.not_mem_nil, false_implies, implies_true, Int.reduceNeg, Int.reduceToNat, Int.reducePow, Int.reduceMul, Int.reduceAdd, draw_i, ix_t0, ix_t1, ix_t2, ix_t3, ix_m3, ix_m4, sn_ball_box, sn_cell_box, sn_cell_ball, sn_ball_cell, sn_box_ball, sn_box_cell, decide_false]
    refine ⟨by decide, fl "sum" (.box [1, 1] [3, 6]) 0 9 4 _ box1 (by decide) (by decide) (by decide +kernel) ?_⟩
    simp (disch := first | assumption | decide) only [wSeq, wNext, wAsg, wgName, wIfS, wB, wOp, wVar, wC, wCall, wCallK, wCons, wNil, wRet, wRetN, wDrop, wTup, wLst, wIf, wAnd, wOr, wNot, wAndV, wOrV, wNotV, wNeg, wChain, fI, fI0, addD, fLt, fLe, fGt, fGe, fIsB, wCB, fAbs, f2I, fInt, fIsq, wPar, wPar3, permD, startE, List.map_cons, List.map_nil, List.cons_append, List.nil_append, List.append_nil, List.length_cons, List.length_nil, List.replicate, List.getElem?_cons_zero, List.getElem?_cons_succ, List.set_cons_zero, List.set_cons_succ, List.getD_cons_zero, List.getD_cons_succ, Nat.reduceAdd, Nat.reduceSub, Nat.zero_add, true_and, and_true, Bool.not_true, Bool.not_false, if_true, if_false, Bool.false_eq_true, reduceIte, decide_eq_true_eq, Bool.not_eq_true', decide_eq_false_iff_not, eqV_int, eqV_str, eqV_bl, decide_true, reduceCtorEq, not_true_eq_false, not_false_eq_true, Bool.not_eq_true, List.not_mem_nil, false_implies, implies_true, Int.reduceNeg, Int.reduceToNat, Int.reducePow, Int.reduceMul, Int.reduceAdd, draw_i, ix_t0, ix_t1, ix_t2, ix_t3, ix_m3, ix_m4, sn_ball_box, sn_cell_box, sn_cell_ball, sn_ball_cell, sn_box_ball, sn_box_cell, decide_false]
    refine ⟨by decide, ce "most" (.box [1, 1] [3, 6]) 0 9 8 _ box1 (by decide) (by decide) (by decide +kernel) ?_⟩
    simp (disch := first | assumption | decide) only [wSeq, wNext, wAsg, wgName, wIfS, wB, wOp, wVar, wC, wCall, wCallK, wCons, wNil, wRet, wRetN, wDrop, wTup, wLst, wIf, wAnd, wOr, wNot, wAndV, wOrV, wNotV, wNeg, wChain, fI, fI0, addD, fLt, fLe, fGt, fGe, fIsB, wCB, fAbs, f2I, fInt, fIsq, wPar, wPar3, permD, startE, List.map_cons, List.map_nil, List.cons_append, List.nil_append, List.append_nil, List.length_cons, List.length_nil, List.replicate, List.getElem?_cons_zero, List.getElem?_cons_succ, List.set_cons_zero, List.set_cons_succ, List.getD_cons_zero, List.getD_cons_succ, Nat.reduceAdd, Nat.reduceSub, Nat.zero_add, true_and, and_true, Bool.not_true, Bool.not_false, if_true, if_false, Bool.false_eq_true, reduceIte, decide_eq_true_eq, Bool.not_eq_true', decide_eq_false_iff_not, eqV_int, eqV_str, eqV_bl, decide_true, reduceCtorEq, not_true_eq_false, not_false_eq_true, Bool.not_eq_true, List.not_mem_nil, false_implies, implies_true, Int.reduceNeg, Int.reduceToNat, Int.reducePow, Int.reduceMul, Int.reduceAdd, draw_i, ix_t0, ix_t1, ix_t2, ix_t3, ix_m3, ix_m4, sn_ball_box, sn_cell_box, sn_cell_ball, sn_ball_cell, sn_box_ball, sn_box_cell, decide_false]
    refine ⟨by decide, fl "unlike" (.box [1, 1] [3, 6]) 0 5 1 _ box1 (by decide) (by decide) (by decide +kernel) ?_⟩
    simp (disch := first | assumption | decide) only [wSeq, wNext, wAsg, wgName, wIfS, wB, wOp, wVar, wC, wCall, wCallK, wCons, wNil, wRet, wRetN, wDrop, wTup, wLst, wIf, wAnd, wOr, wNot, wAndV, wOrV, wNotV, wNeg, wChain, fI, fI0, addD, fLt, fLe, fGt, fGe, fIsB, wCB, fAbs, f2I, fInt, fIsq, wPar, wPar3, permD, startE, List.map_cons, List.map_nil, List.cons_append, List.nil_append, List.append_nil, List.length_cons, List.length_nil, List.replicate, List.getElem?_cons_zero, List.getElem?_cons_succ, List.set_cons_zero, List.set_cons_succ, List.getD_cons_zero, List.getD_cons_succ, Nat.reduceAdd, Nat.reduceSub, Nat.zero_add, true_and, and_true, Bool.not_true, Bool.not_false, if_true, if_false, Bool.false_eq_true, reduceIte, decide_eq_true_eq, Bool.not_eq_true', decide_eq_false_iff_not, eqV_int, eqV_str, eqV_bl, decide_true, reduceCtorEq, not_true_eq_false, not_false_eq_true, Bool.not_eq_true, List.not_mem_nil, false_implies, implies_true, Int.reduceNeg, Int.reduceToNat, Int.reducePow, Int.reduceMul, Int.reduceAdd, draw_i, ix_t0, ix_t1, ix_t2, ix_t3, ix_m3, ix_m4, sn_ball_box, sn_cell_box, sn_cell_ball, sn_ball_cell, sn_box_ball, sn_box_cell, decide_false]
    subst hK
    refine seq_gen fun K hK => ?_
    simp (disch := first | assumption | decide) only [wSeq, wNext, wAsg, wgName, wIfS, wB, wOp, wVar, wC, wCall, wCallK, wCons, wNil, wRet, wRetN, wDrop, wTup, wLst, wIf, wAnd, wOr, wNot, wAndV, wOrV, wNotV, wNeg, wChain, fI, fI0, addD, fLt, fLe, fGt, fGe, fIsB, wCB, fAbs, f2I, fInt, fIsq, wPar, wPar3, permD, startE, List.map_cons, List.map_nil, List.cons_append, List.nil_append, List.append_nil, List.length_cons, List.length_nil, List.replicate, List.getElem?_cons_zero, List.getElem?_cons_succ, List.set_cons_zero, List.set_cons_succ, List.getD_cons_zero, List.getD_cons_succ, Nat.reduceAdd, Nat.reduceSub, Nat.zero_add, true_and, and_true, Bool.not_true, Bool.not_false, if_true, if_false, Bool.false_eq_true, reduceIte, decide_eq_true_eq, Bool.not_eq_true', decide_eq_false_iff_not, eqV_int, eqV_str, eqV_bl, decide_true, reduceCtorEq, not_true_eq_false, not_false_eq_true, Bool.not_eq_true, List.not_mem_nil, false_implies, implies_true, Int.reduceNeg, Int.reduceToNat, Int.reducePow, Int.reduceMul, Int.reduceAdd, draw_i, ix_t0, ix_t1, ix_t2, ix_t3, ix_m3, ix_m4, sn_ball_box, sn_cell_box, sn_cell_ball, sn_ball_cell, sn_box_ball, sn_box_cell, decide_false]
    refine ⟨by decide, ce "unlike" (.box [1, 1] [3, 6]) 1 5 2 _ box1 (by decide) (by decide) (by decide +kernel) ?_⟩
    simp (disch := first | assumption | decide) only [wSeq, wNext, wAsg, wgName, wIfS, wB, wOp, wVar, wC, wCall, wCallK, wCons, wNil, wRet, wRetN, wDrop, wTup, wLst, wIf, wAnd, wOr, wNot, wAndV, wOrV, wNotV, wNeg, wChain, fI, fI0, addD, fLt, fLe, fGt, fGe, fIsB, wCB, fAbs, f2I, fInt, fIsq, wPar, wPar3, permD, startE, List.map_cons, List.map_nil, List.cons_append, List.nil_append, List.append_nil, List.length_cons, List.length_nil, List.replicate, List.getElem?_cons_zero, List.getElem?_cons_succ, List.set_cons_zero, List.set_cons_succ, List.getD_cons_zero, List.getD_cons_succ, Nat.reduceAdd, Nat.reduceSub, Nat.zero_add, true_and, and_true, Bool.not_true, Bool.not_false, if_true, if_false, Bool.false_eq_true, reduceIte, decide_eq_true_eq, Bool.not_eq_true', decide_eq_false_iff_not, eqV_int, eqV_str, eqV_bl, decide_true, reduceCtorEq, not_true_eq_false, not_false_eq_true, Bool.not_eq_true, List.not_mem_nil, false_implies, implies_true, Int.reduceNeg, Int.reduceToNat, Int.reducePow, Int.reduceMul, Int.reduceAdd, draw_i, ix_t0, ix_t1, ix_t2, ix_t3, ix_m3, ix_m4, sn_ball_box, sn_cell_box, sn_cell_ball, sn_ball_cell, sn_box_ball, sn_box_cell, decide_false]
    refine ⟨by decide, by decide, by decide, by decide, ce "unlike" (.box [4, 1] [4, 3]) 4 1 1 _ box2 (by decide) (by decide) (by decide +kernel) ?_⟩
    simp (disch := first | assumption | decide) only [wSeq, wNext, wAsg, wgName, wIfS, wB, wOp, wVar, wC, wCall, wCallK, wCons, wNil, wRet, wRetN, wDrop, wTup, wLst, wIf, wAnd, wOr, wNot, wAndV, wOrV, wNotV, wNeg, wChain, fI, fI0, addD, fLt, fLe, fGt, fGe, fIsB, wCB, fAbs, f2I, fInt, fIsq, wPar, wPar3, permD, startE, List.map_cons, List.map_nil, List.cons_append, List.nil_append, List.append_nil, List.length_cons, List.length_nil, List.replicate, List.getElem?_cons_zero, List.getElem?_cons_succ, List.set_cons_zero, List.set_cons_succ, List.getD_cons_zero, List.getD_cons_succ, Nat.reduceAdd, Nat.reduceSub, Nat.zero_add, true_and, and_true, Bool.not_true, Bool.not_false, if_true, if_false, Bool.false_eq_true, reduceIte, decide_eq_true_eq, Bool.not_eq_true', decide_eq_false_iff_not, eqV_int, eqV_str, eqV_bl, decide_true, reduceCtorEq, not_true_eq_false, not_false_eq_true, Bool.not_eq_true, List.not_mem_nil, false_implies, implies_true, Int.reduceNeg, Int.reduceToNat, Int.reducePow, Int.reduceMul, Int.reduceAdd, draw_i, ix_t0, ix_t1, ix_t2, ix_t3, ix_m3, ix_m4, sn_ball_box, sn_cell_box, sn_cell_ball, sn_ball_cell, sn_box_ball, sn_box_cell, decide_false]
    refine ⟨by decide, ce "unlike" (.ball [0, 0] 25) 9 9 2 _ ball25 (by decide) (by decide) (by decide +kernel) ?_⟩
    simp (disch := first | assumption | decide) only [wSeq, wNext, wAsg, wgName, wIfS, wB, wOp, wVar, wC, wCall, wCallK, wCons, wNil, wRet, wRetN, wDrop, wTup, wLst, wIf, wAnd, wOr, wNot, wAndV, wOrV, wNotV, wNeg, wChain, fI, fI0, addD, fLt, fLe, fGt, fGe, fIsB, wCB, fAbs, f2I, fInt, fIsq, wPar, wPar3, permD, startE, List.map_cons, List.map_nil, List.cons_append, List.nil_append, List.append_nil, List.length_cons, List.length_nil, List.replicate, List.getElem?_cons_zero, List.getElem?_cons_succ, List.set_cons_zero, List.set_cons_succ, List.getD_cons_zero, List.getD_cons_succ, Nat.reduceAdd, Nat.reduceSub, Nat.zero_add, true_and, and_true, Bool.not_true, Bool.not_false, if_true, if_false, Bool.false_eq_true, reduceIte, decide_eq_true_eq, Bool.not_eq_true', decide_eq_false_iff_not, eqV_int, eqV_str, eqV_bl, decide_true, reduceCtorEq, not_true_eq_false, not_false_eq_true, Bool.not_eq_true, List.not_mem_nil, false_implies, implies_true, Int.reduceNeg, Int.reduceToNat, Int.reducePow, Int.reduceMul, Int.reduceAdd, draw_i, ix_t0, ix_t1, ix_t2, ix_t3, ix_m3, ix_m4, sn_ball_box, sn_cell_box, sn_cell_ball, sn_ball_cell, sn_box_ball, sn_box_cell, decide_false]
    subst hK
    simp (disch := first | assumption | decide) only [wSeq, wNext, wAsg, wgName, wIfS, wB, wOp, wVar, wC, wCall, wCallK, wCons, wNil, wRet, wRetN, wDrop, wTup, wLst, wIf, wAnd, wOr, wNot, wAndV, wOrV, wNotV, wNeg, wChain, fI, fI0, addD, fLt, fLe, fGt, fGe, fIsB, wCB, fAbs, f2I, fInt, fIsq, wPar, wPar3, permD, startE, List.map_cons, List.map_nil, List.cons_append, List.nil_append, List.append_nil, List.length_cons, List.length_nil, List.replicate, List.getElem?_cons_zero, List.getElem?_cons_succ, List.set_cons_zero, List.set_cons_succ, List.getD_cons_zero, List.getD_cons_succ, Nat.reduceAdd, Nat.reduceSub, Nat.zero_add, true_and, and_true, Bool.not_true, Bool.not_false, if_true, if_false, Bool.false_eq_true, reduceIte, decide_eq_true_eq, Bool.not_eq_true', decide_eq_false_iff_not, eqV_int, eqV_str, eqV_bl, decide_true, reduceCtorEq, not_true_eq_false, not_false_eq_true, Bool.not_eq_true, List.not_mem_nil, false_implies, implies_true, Int.reduceNeg, Int.reduceToNat, Int.reducePow, Int.reduceMul, Int.reduceAdd, draw_i, ix_t0, ix_t1, ix_t2, ix_t3, ix_m3, ix_m4, sn_ball_box, sn_cell_box, sn_cell_ball, sn_ball_cell, sn_box_ball, sn_box_cell, decide_false]
    refine ⟨by decide, fl "square" (.cell [0, 0] 25 36) 8 0 4 _ cell1 (by decide) (by decide) (by decide +kernel) ?_⟩
    simp (disch := first | assumption | decide) only [wSeq, wNext, wAsg, wgName, wIfS, wB, wOp, wVar, wC, wCall, wCallK, wCons, wNil, wRet, wRetN, wDrop, wTup, wLst, wIf, wAnd, wOr, wNot, wAndV, wOrV, wNotV, wNeg, wChain, fI, fI0, addD, fLt, fLe, fGt, fGe, fIsB, wCB, fAbs, f2I, fInt, fIsq, wPar, wPar3, permD, startE, List.map_cons, List.map_nil, List.cons_append, List.nil_append, List.append_nil, List.length_cons, List.length_nil, List.replicate, List.getElem?_cons_zero, List.getElem?_cons_succ, List.set_cons_zero, List.set_cons_succ, List.getD_cons_zero, List.getD_cons_succ, Nat.reduceAdd, Nat.reduceSub, Nat.zero_add, true_and, and_true, Bool.not_true, Bool.not_false, if_true, if_false, Bool.false_eq_true, reduceIte, decide_eq_true_eq, Bool.not_eq_true', decide_eq_false_iff_not, eqV_int, eqV_str, eqV_bl, decide_true, reduceCtorEq, not_true_eq_false, not_false_eq_true, Bool.not_eq_true, List.not_mem_nil, false_implies, implies_true, Int.reduceNeg, Int.reduceToNat, Int.reducePow, Int.reduceMul, Int.reduceAdd, draw_i, ix_t0, ix_t1, ix_t2, ix_t3, ix_m3, ix_m4, sn_ball_box, sn_cell_box, sn_cell_ball, sn_ball_cell, sn_box_ball, sn_box_cell, decide_false]
    refine ⟨by decide, by decide, by decide, fl "square" (.ball [0, 0] 2) 2 2 2 _ ball2 (by decide) (by decide) (by decide +kernel) ?_⟩
    simp (disch := first | assumption | decide) only [wSeq, wNext, wAsg, wgName, wIfS, wB, wOp, wVar, wC, wCall, wCallK, wCons, wNil, wRet, wRetN, wDrop, wTup, wLst, wIf, wAnd, wOr, wNot, wAndV, wOrV, wNotV, wNeg, wChain, fI, fI0, addD, fLt, fLe, fGt, fGe, fIsB, wCB, fAbs, f2I, fInt, fIsq, wPar, wPar3, permD, startE, List.map_cons, List.map_nil, List.cons_append, List.nil_append, List.append_nil, List.length_cons, List.length_nil, List.replicate, List.getElem?_cons_zero, List.getElem?_cons_succ, List.set_cons_zero, List.set_cons_succ, List.getD_cons_zero, List.getD_cons_succ, Nat.reduceAdd, Nat.reduceSub, Nat.zero_add, true_and, and_true, Bool.not_true, Bool.not_false, if_true, if_false, Bool.false_eq_true, reduceIte, decide_eq_true_eq, Bool.not_eq_true', decide_eq_false_iff_not, eqV_int, eqV_str, eqV_bl, decide_true, reduceCtorEq, not_true_eq_false, not_false_eq_true, Bool.not_eq_true, List.not_mem_nil, false_implies, implies_true, Int.reduceNeg, Int.reduceToNat, Int.reducePow, Int.reduceMul, Int.reduceAdd, draw_i, ix_t0, ix_t1, ix_t2, ix_t3, ix_m3, ix_m4, sn_ball_box, sn_cell_box, sn_cell_ball, sn_ball_cell, sn_box_ball, sn_box_cell, decide_false]
    refine ⟨by decide, fl "most" (.cell [0, 0] 25 36) 0 30 0 _ cell1 (by decide) (by decide) (by decide +kernel) ?_⟩
    simp (disch := first | assumption | decide) only [wSeq, wNext, wAsg, wgName, wIfS, wB, wOp, wVar, wC, wCall, wCallK, wCons, wNil, wRet, wRetN, wDrop, wTup, wLst, wIf, wAnd, wOr, wNot, wAndV, wOrV, wNotV, wNeg, wChain, fI, fI0, addD, fLt, fLe, fGt, fGe, fIsB, wCB, fAbs, f2I, fInt, fIsq, wPar, wPar3, permD, startE, List.map_cons, List.map_nil, List.cons_append, List.nil_append, List.append_nil, List.length_cons, List.length_nil, List.replicate, List.getElem?_cons_zero, List.getElem?_cons_succ, List.set_cons_zero, List.set_cons_succ, List.getD_cons_zero, List.getD_cons_succ, Nat.reduceAdd, Nat.reduceSub, Nat.zero_add, true_and, and_true, Bool.not_true, Bool.not_false, if_true, if_false, Bool.false_eq_true, reduceIte, decide_eq_true_eq, Bool.not_eq_true', decide_eq_false_iff_not, eqV_int, eqV_str, eqV_bl, decide_true, reduceCtorEq, not_true_eq_false, not_false_eq_true, Bool.not_eq_true, List.not_mem_nil, false_implies, implies_true, Int.reduceNeg, Int.reduceToNat, Int.reducePow, Int.reduceMul, Int.reduceAdd, draw_i, ix_t0, ix_t1, ix_t2, ix_t3, ix_m3, ix_m4, sn_ball_box, sn_cell_box, sn_cell_ball, sn_ball_cell, sn_box_ball, sn_box_cell, decide_false]
    exact q _
end K21
namespace K21
open PySem L2 L3
theorem len_differences : ∀ ds M Q E, F_differences ds M Q E → ds.length = 2 := by
  rintro ds M Q E ⟨_, _, rfl, _⟩
  rfl
theorem len_part_of : ∀ ds M Q E, F_part_of ds M Q E → ds.length = 2 := by
  rintro ds M Q E ⟨_, _, rfl, _⟩
  rfl
theorem len_joined_parts : ∀ ds M Q E, F_joined_parts ds M Q E → ds.length = 2 := by
  rintro ds M Q E ⟨_, _, _, rfl, _⟩
  rfl
theorem len_distance : ∀ ds M Q E, F_distance ds M Q E → ds.length = 3 := by
  rintro ds M Q E ⟨_, _, _, rfl, _⟩
  rfl
theorem len_root_of_both : ∀ ds M Q E, F_root_of_both ds M Q E → ds.length = 2 := by
  rintro ds M Q E ⟨_, _, rfl, _⟩
  rfl
theorem len_gap_of : ∀ ds M Q E, F_gap_of ds M Q E → ds.length = 3 := by
  rintro ds M Q E ⟨_, _, _, rfl, _⟩
  rfl
theorem len_least_beyond : ∀ ds M Q E, F_least_beyond ds M Q E → ds.length = 3 := by
  rintro ds M Q E ⟨_, _, _, rfl, _⟩
  rfl
theorem len_most_beyond : ∀ ds M Q E, F_most_beyond ds M Q E → ds.length = 3 := by
  rintro ds M Q E ⟨_, _, _, rfl, _⟩
  rfl
theorem len_holds_vector : ∀ ds M Q E, F_holds_vector ds M Q E → ds.length = 3 := by
  rintro ds M Q E ⟨_, _, _, _, rfl, _⟩
  rfl
theorem len_nearest_difference : ∀ ds M Q E, F_nearest_difference ds M Q E → ds.length = 3 := by
  rintro ds M Q E ⟨_, _, _, rfl, _⟩
  rfl
theorem len_farthest_difference : ∀ ds M Q E, F_farthest_difference ds M Q E → ds.length = 3 := by
  rintro ds M Q E ⟨_, _, _, rfl, _⟩
  rfl
theorem len_floor_of : ∀ ds M Q E, F_floor_of ds M Q E → ds.length = 3 := by
  rintro ds M Q E ⟨_, _, _, _, rfl, _⟩
  rfl
theorem len_ceiling_of : ∀ ds M Q E, F_ceiling_of ds M Q E → ds.length = 3 := by
  rintro ds M Q E ⟨_, _, _, _, rfl, _⟩
  rfl
theorem len__law_heap : ∀ ds M Q E, F__law_heap ds M Q E → ds.length = 1 := by
  rintro ds M Q E ⟨_, rfl, _⟩
  rfl
theorem len__law_pick : ∀ ds M Q E, pickF ds M Q E → ds.length = 2 := by
  rintro ds M Q E ⟨_, _, _, _, rfl, _⟩
  rfl
theorem len__law_part : ∀ ds M Q E, F__law_part ds M Q E → ds.length = 3 := by
  rintro ds M Q E ⟨_, _, _, rfl, _⟩
  rfl
theorem len__law_distance : ∀ ds M Q E, F__law_distance ds M Q E → ds.length = 3 := by
  rintro ds M Q E ⟨_, _, _, _, _, rfl, _⟩
  rfl
theorem len__law_root : ∀ ds M Q E, F__law_root ds M Q E → ds.length = 1 := by
  rintro ds M Q E ⟨_, rfl, _⟩
  rfl
theorem len__law_gap : ∀ ds M Q E, F__law_gap ds M Q E → ds.length = 3 := by
  rintro ds M Q E ⟨_, _, _, rfl, _⟩
  rfl
theorem len__law_most : ∀ ds M Q E, F__law_most ds M Q E → ds.length = 3 := by
  rintro ds M Q E ⟨_, _, _, rfl, _⟩
  rfl
theorem len__law_shell : ∀ ds M Q E, F__law_shell ds M Q E → ds.length = 1 := by
  rintro ds M Q E ⟨_, _, _, rfl, _⟩
  rfl
theorem len__law_holds : ∀ ds M Q E, F__law_holds ds M Q E → ds.length = 3 := by
  rintro ds M Q E ⟨_, _, _, _, rfl, _⟩
  rfl
theorem len__law_region : ∀ ds M Q E, F__law_region ds M Q E → ds.length = 4 := by
  rintro ds M Q E ⟨_, _, _, _, _, rfl, _⟩
  rfl
theorem len__law_floor : ∀ ds M Q E, F__law_floor ds M Q E → ds.length = 3 := by
  rintro ds M Q E ⟨_, _, _, _, rfl, _⟩
  rfl
theorem len__law_ceiling : ∀ ds M Q E, F__law_ceiling ds M Q E → ds.length = 3 := by
  rintro ds M Q E ⟨_, _, _, _, rfl, _⟩
  rfl
theorem len__law_window : ∀ ds M Q E, F__law_window ds M Q E → ds.length = 2 := by
  rintro ds M Q E ⟨_, _, _, rfl, _⟩
  rfl
theorem len__law_tried_right : ∀ ds M Q E, F__law_tried_right ds M Q E → ds.length = 5 := by
  rintro ds M Q E ⟨_, _, _, _, _, _, rfl, _⟩
  rfl
theorem len__law_pick_far : ∀ ds M Q E, F__law_pick_far ds M Q E → ds.length = 4 := by
  rintro ds M Q E ⟨_, _, _, _, rfl, _⟩
  rfl
theorem len__law_box_reached : ∀ ds M Q E, F__law_box_reached ds M Q E → ds.length = 5 := by
  rintro ds M Q E ⟨_, _, _, _, _, rfl, _⟩
  rfl
theorem len__law_right : ∀ ds M Q E, F__law_right ds M Q E → ds.length = 3 := by
  rintro ds M Q E ⟨_, _, _, _, rfl, _⟩
  rfl
theorem len_law : ∀ ds M Q E, F_law ds M Q E → ds.length = 1 := by
  rintro ds M Q E ⟨_, rfl, _⟩
  rfl
/-! ### all together -/
theorem all_mk {l : PySem.W.OpenLaw} (hl : l.prog = PySem.Challenge.pw_nonearer_k21_whole_floors_and_ceilings) {w : World} {K : PySem.W.Frag} {h : Heap} {mg : Str → Option Value} {fa : Addr} (X : K.In h) (G : h.Ns mainGlobals mg) (hfa : mg "law" = some (.ref fa))
    {f0 : Addr} {od0 an0 : Option Addr} {sl0 : Array (Option Value)} {oc0 kV0 dc0 pm0 cd0 ct0 : Value}
    {f1 : Addr} {od1 an1 : Option Addr} {sl1 : Array (Option Value)} {oc1 kV1 dc1 pm1 cd1 ct1 : Value}
    {f2 : Addr} {od2 an2 : Option Addr} {sl2 : Array (Option Value)} {oc2 kV2 dc2 pm2 cd2 ct2 : Value}
    {f3 : Addr} {od3 an3 : Option Addr} {sl3 : Array (Option Value)} {oc3 kV3 dc3 pm3 cd3 ct3 : Value}
    {f4 : Addr} {od4 an4 : Option Addr} {sl4 : Array (Option Value)} {oc4 kV4 dc4 pm4 cd4 ct4 : Value}
    {f5 : Addr} {od5 an5 : Option Addr} {sl5 : Array (Option Value)} {oc5 kV5 dc5 pm5 cd5 ct5 : Value}
    {f6 : Addr} {od6 an6 : Option Addr} {sl6 : Array (Option Value)} {oc6 kV6 dc6 pm6 cd6 ct6 : Value}
    {f7 : Addr} {od7 an7 : Option Addr} {sl7 : Array (Option Value)} {oc7 kV7 dc7 pm7 cd7 ct7 : Value}
    {f8 : Addr} {od8 an8 : Option Addr} {sl8 : Array (Option Value)} {oc8 kV8 dc8 pm8 cd8 ct8 : Value}
    {f9 : Addr} {od9 an9 : Option Addr} {sl9 : Array (Option Value)} {oc9 kV9 dc9 pm9 cd9 ct9 : Value}
    {f10 : Addr} {od10 an10 : Option Addr} {sl10 : Array (Option Value)} {oc10 kV10 dc10 pm10 cd10 ct10 : Value}
    {f11 : Addr} {od11 an11 : Option Addr} {sl11 : Array (Option Value)} {oc11 kV11 dc11 pm11 cd11 ct11 : Value}
    {f12 : Addr} {od12 an12 : Option Addr} {sl12 : Array (Option Value)} {oc12 kV12 dc12 pm12 cd12 ct12 : Value}
    {f13 : Addr} {od13 an13 : Option Addr} {sl13 : Array (Option Value)} {oc13 kV13 dc13 pm13 cd13 ct13 : Value}
    {f14 : Addr} {od14 an14 : Option Addr} {sl14 : Array (Option Value)} {oc14 kV14 dc14 pm14 cd14 ct14 : Value}
    {f15 : Addr} {od15 an15 : Option Addr} {sl15 : Array (Option Value)} {oc15 kV15 dc15 pm15 cd15 ct15 : Value}
    {f16 : Addr} {od16 an16 : Option Addr} {sl16 : Array (Option Value)} {oc16 kV16 dc16 pm16 cd16 ct16 : Value}
    {f17 : Addr} {od17 an17 : Option Addr} {sl17 : Array (Option Value)} {oc17 kV17 dc17 pm17 cd17 ct17 : Value}
    {f18 : Addr} {od18 an18 : Option Addr} {sl18 : Array (Option Value)} {oc18 kV18 dc18 pm18 cd18 ct18 : Value}
    {f19 : Addr} {od19 an19 : Option Addr} {sl19 : Array (Option Value)} {oc19 kV19 dc19 pm19 cd19 ct19 : Value}
    {f20 : Addr} {od20 an20 : Option Addr} {sl20 : Array (Option Value)} {oc20 kV20 dc20 pm20 cd20 ct20 : Value}
    {f21 : Addr} {od21 an21 : Option Addr} {sl21 : Array (Option Value)} {oc21 kV21 dc21 pm21 cd21 ct21 : Value}
    {f22 : Addr} {od22 an22 : Option Addr} {sl22 : Array (Option Value)} {oc22 kV22 dc22 pm22 cd22 ct22 : Value}
    {f23 : Addr} {od23 an23 : Option Addr} {sl23 : Array (Option Value)} {oc23 kV23 dc23 pm23 cd23 ct23 : Value}
    {f24 : Addr} {od24 an24 : Option Addr} {sl24 : Array (Option Value)} {oc24 kV24 dc24 pm24 cd24 ct24 : Value}
    {f25 : Addr} {od25 an25 : Option Addr} {sl25 : Array (Option Value)} {oc25 kV25 dc25 pm25 cd25 ct25 : Value}
    {f26 : Addr} {od26 an26 : Option Addr} {sl26 : Array (Option Value)} {oc26 kV26 dc26 pm26 cd26 ct26 : Value}
    {f27 : Addr} {od27 an27 : Option Addr} {sl27 : Array (Option Value)} {oc27 kV27 dc27 pm27 cd27 ct27 : Value}
    {f28 : Addr} {od28 an28 : Option Addr} {sl28 : Array (Option Value)} {oc28 kV28 dc28 pm28 cd28 ct28 : Value}
    {f29 : Addr} {od29 an29 : Option Addr} {sl29 : Array (Option Value)} {oc29 kV29 dc29 pm29 cd29 ct29 : Value}
    {f30 : Addr} {od30 an30 : Option Addr} {sl30 : Array (Option Value)} {oc30 kV30 dc30 pm30 cd30 ct30 : Value}
    {f31 : Addr} {od31 an31 : Option Addr} {sl31 : Array (Option Value)} {oc31 kV31 dc31 pm31 cd31 ct31 : Value}
    {aKINDS : Addr} {odKINDS : Option Addr} {nKINDS : Nat} {slKINDS : Array (Option Value)} {tKINDS0 tKINDS1 tKINDS2 tKINDS3 : Tok}
    (a0 : PySem.W.nsIn K mainGlobals "differences" = some (some (.ref f0))) (l0 : K.lookup f0 = some ⟨oc0, od0, .func (PySem.W.fnOf "differences" "differences" (defArgs s_differences) (defBody s_differences) (defScope s_differences) .none kV0 dc0 pm0 an0 cd0 ct0), sl0⟩) (c0 : PySem.W.codeIn K cd0 "differences" = true) (k0 : PySem.W.keepIn K (.ref f0) = true)
    (a1 : PySem.W.nsIn K mainGlobals "part_of" = some (some (.ref f1))) (l1 : K.lookup f1 = some ⟨oc1, od1, .func (PySem.W.fnOf "part_of" "part_of" (defArgs s_part_of) (defBody s_part_of) (defScope s_part_of) .none kV1 dc1 pm1 an1 cd1 ct1), sl1⟩) (c1 : PySem.W.codeIn K cd1 "part_of" = true) (k1 : PySem.W.keepIn K (.ref f1) = true)
    (a2 : PySem.W.nsIn K mainGlobals "joined_parts" = some (some (.ref f2))) (l2 : K.lookup f2 = some ⟨oc2, od2, .func (PySem.W.fnOf "joined_parts" "joined_parts" (defArgs s_joined_parts) (defBody s_joined_parts) (defScope s_joined_parts) .none kV2 dc2 pm2 an2 cd2 ct2), sl2⟩) (c2 : PySem.W.codeIn K cd2 "joined_parts" = true) (k2 : PySem.W.keepIn K (.ref f2) = true)
    (a3 : PySem.W.nsIn K mainGlobals "distance" = some (some (.ref f3))) (l3 : K.lookup f3 = some ⟨oc3, od3, .func (PySem.W.fnOf "distance" "distance" (defArgs s_distance) (defBody s_distance) (defScope s_distance) .none kV3 dc3 pm3 an3 cd3 ct3), sl3⟩) (c3 : PySem.W.codeIn K cd3 "distance" = true) (k3 : PySem.W.keepIn K (.ref f3) = true)
    (a4 : PySem.W.nsIn K mainGlobals "root_of_both" = some (some (.ref f4))) (l4 : K.lookup f4 = some ⟨oc4, od4, .func (PySem.W.fnOf "root_of_both" "root_of_both" (defArgs s_root_of_both) (defBody s_root_of_both) (defScope s_root_of_both) .none kV4 dc4 pm4 an4 cd4 ct4), sl4⟩) (c4 : PySem.W.codeIn K cd4 "root_of_both" = true) (k4 : PySem.W.keepIn K (.ref f4) = true)
    (a5 : PySem.W.nsIn K mainGlobals "gap_of" = some (some (.ref f5))) (l5 : K.lookup f5 = some ⟨oc5, od5, .func (PySem.W.fnOf "gap_of" "gap_of" (defArgs s_gap_of) (defBody s_gap_of) (defScope s_gap_of) .none kV5 dc5 pm5 an5 cd5 ct5), sl5⟩) (c5 : PySem.W.codeIn K cd5 "gap_of" = true) (k5 : PySem.W.keepIn K (.ref f5) = true)
    (a6 : PySem.W.nsIn K mainGlobals "least_beyond" = some (some (.ref f6))) (l6 : K.lookup f6 = some ⟨oc6, od6, .func (PySem.W.fnOf "least_beyond" "least_beyond" (defArgs s_least_beyond) (defBody s_least_beyond) (defScope s_least_beyond) .none kV6 dc6 pm6 an6 cd6 ct6), sl6⟩) (c6 : PySem.W.codeIn K cd6 "least_beyond" = true) (k6 : PySem.W.keepIn K (.ref f6) = true)
    (a7 : PySem.W.nsIn K mainGlobals "most_beyond" = some (some (.ref f7))) (l7 : K.lookup f7 = some ⟨oc7, od7, .func (PySem.W.fnOf "most_beyond" "most_beyond" (defArgs s_most_beyond) (defBody s_most_beyond) (defScope s_most_beyond) .none kV7 dc7 pm7 an7 cd7 ct7), sl7⟩) (c7 : PySem.W.codeIn K cd7 "most_beyond" = true) (k7 : PySem.W.keepIn K (.ref f7) = true)
    (a8 : PySem.W.nsIn K mainGlobals "holds_vector" = some (some (.ref f8))) (l8 : K.lookup f8 = some ⟨oc8, od8, .func (PySem.W.fnOf "holds_vector" "holds_vector" (defArgs s_holds_vector) (defBody s_holds_vector) (defScope s_holds_vector) .none kV8 dc8 pm8 an8 cd8 ct8), sl8⟩) (c8 : PySem.W.codeIn K cd8 "holds_vector" = true) (k8 : PySem.W.keepIn K (.ref f8) = true)
    (a9 : PySem.W.nsIn K mainGlobals "nearest_difference" = some (some (.ref f9))) (l9 : K.lookup f9 = some ⟨oc9, od9, .func (PySem.W.fnOf "nearest_difference" "nearest_difference" (defArgs s_nearest_difference) (defBody s_nearest_difference) (defScope s_nearest_difference) .none kV9 dc9 pm9 an9 cd9 ct9), sl9⟩) (c9 : PySem.W.codeIn K cd9 "nearest_difference" = true) (k9 : PySem.W.keepIn K (.ref f9) = true)
    (a10 : PySem.W.nsIn K mainGlobals "farthest_difference" = some (some (.ref f10))) (l10 : K.lookup f10 = some ⟨oc10, od10, .func (PySem.W.fnOf "farthest_difference" "farthest_difference" (defArgs s_farthest_difference) (defBody s_farthest_difference) (defScope s_farthest_difference) .none kV10 dc10 pm10 an10 cd10 ct10), sl10⟩) (c10 : PySem.W.codeIn K cd10 "farthest_difference" = true) (k10 : PySem.W.keepIn K (.ref f10) = true)
    (a11 : PySem.W.nsIn K mainGlobals "floor_of" = some (some (.ref f11))) (l11 : K.lookup f11 = some ⟨oc11, od11, .func (PySem.W.fnOf "floor_of" "floor_of" (defArgs s_floor_of) (defBody s_floor_of) (defScope s_floor_of) .none kV11 dc11 pm11 an11 cd11 ct11), sl11⟩) (c11 : PySem.W.codeIn K cd11 "floor_of" = true) (k11 : PySem.W.keepIn K (.ref f11) = true)
    (a12 : PySem.W.nsIn K mainGlobals "ceiling_of" = some (some (.ref f12))) (l12 : K.lookup f12 = some ⟨oc12, od12, .func (PySem.W.fnOf "ceiling_of" "ceiling_of" (defArgs s_ceiling_of) (defBody s_ceiling_of) (defScope s_ceiling_of) .none kV12 dc12 pm12 an12 cd12 ct12), sl12⟩) (c12 : PySem.W.codeIn K cd12 "ceiling_of" = true) (k12 : PySem.W.keepIn K (.ref f12) = true)
    (a13 : PySem.W.nsIn K mainGlobals "_law_heap" = some (some (.ref f13))) (l13 : K.lookup f13 = some ⟨oc13, od13, .func (PySem.W.fnOf "_law_heap" "_law_heap" (defArgs s__law_heap) (defBody s__law_heap) (defScope s__law_heap) .none kV13 dc13 pm13 an13 cd13 ct13), sl13⟩) (c13 : PySem.W.codeIn K cd13 "_law_heap" = true) (k13 : PySem.W.keepIn K (.ref f13) = true)
    (a14 : PySem.W.nsIn K mainGlobals "_law_draw" = some (some (.ref f14))) (l14 : K.lookup f14 = some ⟨oc14, od14, .func (PySem.W.fnOf "_law_draw" "_law_draw" (defArgs s__law_draw) (defBody s__law_draw) (defScope s__law_draw) .none kV14 dc14 pm14 an14 cd14 ct14), sl14⟩) (c14 : PySem.W.codeIn K cd14 "_law_draw" = true) (k14 : PySem.W.keepIn K (.ref f14) = true)
    (a15 : PySem.W.nsIn K mainGlobals "_law_pick" = some (some (.ref f15))) (l15 : K.lookup f15 = some ⟨oc15, od15, .func (PySem.W.fnOf "_law_pick" "_law_pick" (defArgs s__law_pick) (defBody s__law_pick) (defScope s__law_pick) .none kV15 dc15 pm15 an15 cd15 ct15), sl15⟩) (c15 : PySem.W.codeIn K cd15 "_law_pick" = true) (k15 : PySem.W.keepIn K (.ref f15) = true)
    (a16 : PySem.W.nsIn K mainGlobals "_law_part" = some (some (.ref f16))) (l16 : K.lookup f16 = some ⟨oc16, od16, .func (PySem.W.fnOf "_law_part" "_law_part" (defArgs s__law_part) (defBody s__law_part) (defScope s__law_part) .none kV16 dc16 pm16 an16 cd16 ct16), sl16⟩) (c16 : PySem.W.codeIn K cd16 "_law_part" = true) (k16 : PySem.W.keepIn K (.ref f16) = true)
    (a17 : PySem.W.nsIn K mainGlobals "_law_distance" = some (some (.ref f17))) (l17 : K.lookup f17 = some ⟨oc17, od17, .func (PySem.W.fnOf "_law_distance" "_law_distance" (defArgs s__law_distance) (defBody s__law_distance) (defScope s__law_distance) .none kV17 dc17 pm17 an17 cd17 ct17), sl17⟩) (c17 : PySem.W.codeIn K cd17 "_law_distance" = true) (k17 : PySem.W.keepIn K (.ref f17) = true)
    (a18 : PySem.W.nsIn K mainGlobals "_law_root" = some (some (.ref f18))) (l18 : K.lookup f18 = some ⟨oc18, od18, .func (PySem.W.fnOf "_law_root" "_law_root" (defArgs s__law_root) (defBody s__law_root) (defScope s__law_root) .none kV18 dc18 pm18 an18 cd18 ct18), sl18⟩) (c18 : PySem.W.codeIn K cd18 "_law_root" = true) (k18 : PySem.W.keepIn K (.ref f18) = true)
    (a19 : PySem.W.nsIn K mainGlobals "_law_gap" = some (some (.ref f19))) (l19 : K.lookup f19 = some ⟨oc19, od19, .func (PySem.W.fnOf "_law_gap" "_law_gap" (defArgs s__law_gap) (defBody s__law_gap) (defScope s__law_gap) .none kV19 dc19 pm19 an19 cd19 ct19), sl19⟩) (c19 : PySem.W.codeIn K cd19 "_law_gap" = true) (k19 : PySem.W.keepIn K (.ref f19) = true)
    (a20 : PySem.W.nsIn K mainGlobals "_law_most" = some (some (.ref f20))) (l20 : K.lookup f20 = some ⟨oc20, od20, .func (PySem.W.fnOf "_law_most" "_law_most" (defArgs s__law_most) (defBody s__law_most) (defScope s__law_most) .none kV20 dc20 pm20 an20 cd20 ct20), sl20⟩) (c20 : PySem.W.codeIn K cd20 "_law_most" = true) (k20 : PySem.W.keepIn K (.ref f20) = true)
    (a21 : PySem.W.nsIn K mainGlobals "_law_shell" = some (some (.ref f21))) (l21 : K.lookup f21 = some ⟨oc21, od21, .func (PySem.W.fnOf "_law_shell" "_law_shell" (defArgs s__law_shell) (defBody s__law_shell) (defScope s__law_shell) .none kV21 dc21 pm21 an21 cd21 ct21), sl21⟩) (c21 : PySem.W.codeIn K cd21 "_law_shell" = true) (k21 : PySem.W.keepIn K (.ref f21) = true)
    (a22 : PySem.W.nsIn K mainGlobals "_law_holds" = some (some (.ref f22))) (l22 : K.lookup f22 = some ⟨oc22, od22, .func (PySem.W.fnOf "_law_holds" "_law_holds" (defArgs s__law_holds) (defBody s__law_holds) (defScope s__law_holds) .none kV22 dc22 pm22 an22 cd22 ct22), sl22⟩) (c22 : PySem.W.codeIn K cd22 "_law_holds" = true) (k22 : PySem.W.keepIn K (.ref f22) = true)
    (a23 : PySem.W.nsIn K mainGlobals "_law_region" = some (some (.ref f23))) (l23 : K.lookup f23 = some ⟨oc23, od23, .func (PySem.W.fnOf "_law_region" "_law_region" (defArgs s__law_region) (defBody s__law_region) (defScope s__law_region) .none kV23 dc23 pm23 an23 cd23 ct23), sl23⟩) (c23 : PySem.W.codeIn K cd23 "_law_region" = true) (k23 : PySem.W.keepIn K (.ref f23) = true)
    (a24 : PySem.W.nsIn K mainGlobals "_law_floor" = some (some (.ref f24))) (l24 : K.lookup f24 = some ⟨oc24, od24, .func (PySem.W.fnOf "_law_floor" "_law_floor" (defArgs s__law_floor) (defBody s__law_floor) (defScope s__law_floor) .none kV24 dc24 pm24 an24 cd24 ct24), sl24⟩) (c24 : PySem.W.codeIn K cd24 "_law_floor" = true) (k24 : PySem.W.keepIn K (.ref f24) = true)
    (a25 : PySem.W.nsIn K mainGlobals "_law_ceiling" = some (some (.ref f25))) (l25 : K.lookup f25 = some ⟨oc25, od25, .func (PySem.W.fnOf "_law_ceiling" "_law_ceiling" (defArgs s__law_ceiling) (defBody s__law_ceiling) (defScope s__law_ceiling) .none kV25 dc25 pm25 an25 cd25 ct25), sl25⟩) (c25 : PySem.W.codeIn K cd25 "_law_ceiling" = true) (k25 : PySem.W.keepIn K (.ref f25) = true)
    (a26 : PySem.W.nsIn K mainGlobals "_law_window" = some (some (.ref f26))) (l26 : K.lookup f26 = some ⟨oc26, od26, .func (PySem.W.fnOf "_law_window" "_law_window" (defArgs s__law_window) (defBody s__law_window) (defScope s__law_window) .none kV26 dc26 pm26 an26 cd26 ct26), sl26⟩) (c26 : PySem.W.codeIn K cd26 "_law_window" = true) (k26 : PySem.W.keepIn K (.ref f26) = true)
    (a27 : PySem.W.nsIn K mainGlobals "_law_tried_right" = some (some (.ref f27))) (l27 : K.lookup f27 = some ⟨oc27, od27, .func (PySem.W.fnOf "_law_tried_right" "_law_tried_right" (defArgs s__law_tried_right) (defBody s__law_tried_right) (defScope s__law_tried_right) .none kV27 dc27 pm27 an27 cd27 ct27), sl27⟩) (c27 : PySem.W.codeIn K cd27 "_law_tried_right" = true) (k27 : PySem.W.keepIn K (.ref f27) = true)
    (a28 : PySem.W.nsIn K mainGlobals "_law_pick_far" = some (some (.ref f28))) (l28 : K.lookup f28 = some ⟨oc28, od28, .func (PySem.W.fnOf "_law_pick_far" "_law_pick_far" (defArgs s__law_pick_far) (defBody s__law_pick_far) (defScope s__law_pick_far) .none kV28 dc28 pm28 an28 cd28 ct28), sl28⟩) (c28 : PySem.W.codeIn K cd28 "_law_pick_far" = true) (k28 : PySem.W.keepIn K (.ref f28) = true)
    (a29 : PySem.W.nsIn K mainGlobals "_law_box_reached" = some (some (.ref f29))) (l29 : K.lookup f29 = some ⟨oc29, od29, .func (PySem.W.fnOf "_law_box_reached" "_law_box_reached" (defArgs s__law_box_reached) (defBody s__law_box_reached) (defScope s__law_box_reached) .none kV29 dc29 pm29 an29 cd29 ct29), sl29⟩) (c29 : PySem.W.codeIn K cd29 "_law_box_reached" = true) (k29 : PySem.W.keepIn K (.ref f29) = true)
    (a30 : PySem.W.nsIn K mainGlobals "_law_right" = some (some (.ref f30))) (l30 : K.lookup f30 = some ⟨oc30, od30, .func (PySem.W.fnOf "_law_right" "_law_right" (defArgs s__law_right) (defBody s__law_right) (defScope s__law_right) .none kV30 dc30 pm30 an30 cd30 ct30), sl30⟩) (c30 : PySem.W.codeIn K cd30 "_law_right" = true) (k30 : PySem.W.keepIn K (.ref f30) = true)
    (a31 : PySem.W.nsIn K mainGlobals "law" = some (some (.ref f31))) (l31 : K.lookup f31 = some ⟨oc31, od31, .func (PySem.W.fnOf "law" "law" (defArgs s_law) (defBody s_law) (defScope s_law) .none kV31 dc31 pm31 an31 cd31 ct31), sl31⟩) (c31 : PySem.W.codeIn K cd31 "law" = true) (k31 : PySem.W.keepIn K (.ref f31) = true)
    (z_abs : PySem.W.nsIn K mainGlobals "abs" = some none)
    (z_all : PySem.W.nsIn K mainGlobals "all" = some none)
    (z_int : PySem.W.nsIn K mainGlobals "int" = some none)
    (m_isqrt : PySem.W.nsIn K mainGlobals "isqrt" = some (some (.builtin "math.isqrt")))
    (z_len : PySem.W.nsIn K mainGlobals "len" = some none)
    (z_max : PySem.W.nsIn K mainGlobals "max" = some none)
    (z_min : PySem.W.nsIn K mainGlobals "min" = some none)
    (z_range : PySem.W.nsIn K mainGlobals "range" = some none)
    (z_repr : PySem.W.nsIn K mainGlobals "repr" = some none)
    (z_sum : PySem.W.nsIn K mainGlobals "sum" = some none)
    (z_tuple : PySem.W.nsIn K mainGlobals "tuple" = some none)
    (z_zip : PySem.W.nsIn K mainGlobals "zip" = some none)
    (g_KINDS : PySem.W.nsIn K mainGlobals "KINDS" = some (some (.ref aKINDS))) (lk_KINDS : K.lookup aKINDS = some ⟨.type "tuple", odKINDS, .seq #[.str "square" tKINDS0, .str "sum" tKINDS1, .str "most" tKINDS2, .str "unlike" tKINDS3] nKINDS, slKINDS⟩)
    :
    ∃ fd : FuncData, (∀ (s : Shared) (v : Value), BindsTo s fd ⟨[v], []⟩ [("script", v)]) ∧ ∀ base : Heap, K.In base → base.Ns mainGlobals mg → FnG l.prog w K mg base 6 fa fd ["script"] (lift K F_law) := by
  have e := hfa.symm.trans (PySem.W.mg_of X G a31)
  cases e
  have T : Txt K mg aKINDS := ⟨PySem.W.mg_none_of X G z_abs, PySem.W.mg_none_of X G z_all, PySem.W.mg_none_of X G z_int, PySem.W.mg_of X G m_isqrt, PySem.W.mg_none_of X G z_len, PySem.W.mg_none_of X G z_max, PySem.W.mg_none_of X G z_min, PySem.W.mg_none_of X G z_range, PySem.W.mg_none_of X G z_repr, PySem.W.mg_none_of X G z_sum, PySem.W.mg_none_of X G z_tuple, PySem.W.mg_none_of X G z_zip, PySem.W.mg_of X G g_KINDS, fun H => .tup (vs := [.str "square", .str "sum", .str "most", .str "unlike"]) (.inr ⟨_, _, _, lk_KINDS, rfl, rfl, (by show 4 ≤ sizeLine; decide), (.cons ⟨_, rfl⟩ (.cons ⟨_, rfl⟩ (.cons ⟨_, rfl⟩ (.cons ⟨_, rfl⟩ (.nil)))))⟩) (.cons (.str _) (.cons (.str _) (.cons (.str _) (.cons (.str _) (.nil)))))⟩
  refine ⟨PySem.W.fnOf "law" "law" (defArgs s_law) (defBody s_law) (defScope s_law) .none kV31 dc31 pm31 an31 cd31 ct31, fun s v => .of_eq rfl, fun base KB NB => ?_⟩
  have h_differences : Has l.prog w K mg base 1 "differences" s_differences ["one", "other"] F_differences := Has.mk' (fun_mk (st := s_differences) l0 c0 k0) (PySem.W.mg_of X G a0) (ok_differences (P := l.prog) (w := w) (base := base) (fun_mk (st := s_differences) l0 c0 k0) T len_differences wp_differences) fun _ _ _ _ _ _ us hl => match us, hl with | [_, _], _ => rfl
  have h_part_of : Has l.prog w K mg base 1 "part_of" s_part_of ["kind", "difference"] F_part_of := Has.mk' (fun_mk (st := s_part_of) l1 c1 k1) (PySem.W.mg_of X G a1) (ok_part_of (P := l.prog) (w := w) (base := base) (fun_mk (st := s_part_of) l1 c1 k1) T len_part_of wp_part_of) fun _ _ _ _ _ _ us hl => match us, hl with | [_, _], _ => rfl
  have h_joined_parts : Has l.prog w K mg base 1 "joined_parts" s_joined_parts ["kind", "parts"] F_joined_parts := Has.mk' (fun_mk (st := s_joined_parts) l2 c2 k2) (PySem.W.mg_of X G a2) (ok_joined_parts (P := l.prog) (w := w) (base := base) (fun_mk (st := s_joined_parts) l2 c2 k2) T len_joined_parts wp_joined_parts) fun _ _ _ _ _ _ us hl => match us, hl with | [_, _], _ => rfl
  have h_root_of_both : Has l.prog w K mg base 1 "root_of_both" s_root_of_both ["one", "other"] F_root_of_both := Has.mk' (fun_mk (st := s_root_of_both) l4 c4 k4) (PySem.W.mg_of X G a4) (ok_root_of_both (P := l.prog) (w := w) (base := base) (fun_mk (st := s_root_of_both) l4 c4 k4) T len_root_of_both wp_root_of_both) fun _ _ _ _ _ _ us hl => match us, hl with | [_, _], _ => rfl
  have h_nearest_difference : Has l.prog w K mg base 1 "nearest_difference" s_nearest_difference ["low", "high", "integer"] F_nearest_difference := Has.mk' (fun_mk (st := s_nearest_difference) l9 c9 k9) (PySem.W.mg_of X G a9) (ok_nearest_difference (P := l.prog) (w := w) (base := base) (fun_mk (st := s_nearest_difference) l9 c9 k9) T len_nearest_difference wp_nearest_difference) fun _ _ _ _ _ _ us hl => match us, hl with | [_, _, _], _ => rfl
  have h_farthest_difference : Has l.prog w K mg base 1 "farthest_difference" s_farthest_difference ["low", "high", "integer"] F_farthest_difference := Has.mk' (fun_mk (st := s_farthest_difference) l10 c10 k10) (PySem.W.mg_of X G a10) (ok_farthest_difference (P := l.prog) (w := w) (base := base) (fun_mk (st := s_farthest_difference) l10 c10 k10) T len_farthest_difference wp_farthest_difference) fun _ _ _ _ _ _ us hl => match us, hl with | [_, _, _], _ => rfl
  have h__law_heap : Has l.prog w K mg base 1 "_law_heap" s__law_heap ["script"] F__law_heap := Has.mk' (fun_mk (st := s__law_heap) l13 c13 k13) (PySem.W.mg_of X G a13) (ok__law_heap (P := l.prog) (w := w) (base := base) (fun_mk (st := s__law_heap) l13 c13 k13) T len__law_heap wp__law_heap) fun _ _ _ _ _ _ us hl => match us, hl with | [_], _ => rfl
  have h__law_draw : Has l.prog w K mg base 1 "_law_draw" s__law_draw ["heap", "many"] F__law_draw := Has.mk' (fun_mk (st := s__law_draw) l14 c14 k14) (PySem.W.mg_of X G a14) (ok__law_draw (P := l.prog) (w := w) (base := base) (fun_mk (st := s__law_draw) l14 c14 k14) T) fun _ _ _ _ _ _ us hl => match us, hl with | [_, _], _ => rfl
  have h__law_part : Has l.prog w K mg base 1 "_law_part" s__law_part ["kind", "one", "other"] F__law_part := Has.mk' (fun_mk (st := s__law_part) l16 c16 k16) (PySem.W.mg_of X G a16) (ok__law_part (P := l.prog) (w := w) (base := base) (fun_mk (st := s__law_part) l16 c16 k16) T len__law_part wp__law_part) fun _ _ _ _ _ _ us hl => match us, hl with | [_, _, _], _ => rfl
  have h__law_root : Has l.prog w K mg base 1 "_law_root" s__law_root ["number"] F__law_root := Has.mk' (fun_mk (st := s__law_root) l18 c18 k18) (PySem.W.mg_of X G a18) (ok__law_root (P := l.prog) (w := w) (base := base) (fun_mk (st := s__law_root) l18 c18 k18) T len__law_root wp__law_root) fun _ _ _ _ _ _ us hl => match us, hl with | [_], _ => rfl
  have h__law_shell : Has l.prog w K mg base 1 "_law_shell" s__law_shell ["region"] F__law_shell := Has.mk' (fun_mk (st := s__law_shell) l21 c21 k21) (PySem.W.mg_of X G a21) (ok__law_shell (P := l.prog) (w := w) (base := base) (fun_mk (st := s__law_shell) l21 c21 k21) T len__law_shell wp__law_shell) fun _ _ _ _ _ _ us hl => match us, hl with | [_], _ => rfl
  have h__law_window : Has l.prog w K mg base 1 "_law_window" s__law_window ["vector", "wide"] F__law_window := Has.mk' (fun_mk (st := s__law_window) l26 c26 k26) (PySem.W.mg_of X G a26) (ok__law_window (P := l.prog) (w := w) (base := base) (fun_mk (st := s__law_window) l26 c26 k26) T len__law_window wp__law_window) fun _ _ _ _ _ _ us hl => match us, hl with | [_, _], _ => rfl
  have h__law_pick_far : Has l.prog w K mg base 1 "_law_pick_far" s__law_pick_far ["kind", "part", "low", "high"] F__law_pick_far := Has.mk' (fun_mk (st := s__law_pick_far) l28 c28 k28) (PySem.W.mg_of X G a28) (ok__law_pick_far (P := l.prog) (w := w) (base := base) (fun_mk (st := s__law_pick_far) l28 c28 k28) T len__law_pick_far wp__law_pick_far) fun _ _ _ _ _ _ us hl => match us, hl with | [_, _, _, _], _ => rfl
  have h_distance : Has l.prog w K mg base 2 "distance" s_distance ["kind", "one", "other"] F_distance := Has.mk' (fun_mk (st := s_distance) l3 c3 k3) (PySem.W.mg_of X G a3) (ok_distance (P := l.prog) (w := w) (base := base) (fun_mk (st := s_distance) l3 c3 k3) T h_differences h_part_of h_joined_parts len_distance wp_distance) fun _ _ _ _ _ _ us hl => match us, hl with | [_, _, _], _ => rfl
  have h_gap_of : Has l.prog w K mg base 2 "gap_of" s_gap_of ["kind", "one", "other"] F_gap_of := Has.mk' (fun_mk (st := s_gap_of) l5 c5 k5) (PySem.W.mg_of X G a5) (ok_gap_of (P := l.prog) (w := w) (base := base) (fun_mk (st := s_gap_of) l5 c5 k5) T h_root_of_both len_gap_of wp_gap_of) fun _ _ _ _ _ _ us hl => match us, hl with | [_, _, _], _ => rfl
  have h_most_beyond : Has l.prog w K mg base 2 "most_beyond" s_most_beyond ["kind", "from_centre", "radius"] F_most_beyond := Has.mk' (fun_mk (st := s_most_beyond) l7 c7 k7) (PySem.W.mg_of X G a7) (ok_most_beyond (P := l.prog) (w := w) (base := base) (fun_mk (st := s_most_beyond) l7 c7 k7) T h_root_of_both len_most_beyond wp_most_beyond) fun _ _ _ _ _ _ us hl => match us, hl with | [_, _, _], _ => rfl
  have h__law_pick : Has l.prog w K mg base 2 "_law_pick" s__law_pick ["heap", "some"] F__law_pick := Has.mk' (fun_mk (st := s__law_pick) l15 c15 k15) (PySem.W.mg_of X G a15) (ok__law_pick (P := l.prog) (w := w) (base := base) (fun_mk (st := s__law_pick) l15 c15 k15) T h__law_draw len__law_pick wp__law_pick) fun _ _ _ _ _ _ us hl => match us, hl with | [_, _], _ => rfl
  have h__law_distance : Has l.prog w K mg base 2 "_law_distance" s__law_distance ["kind", "one", "other"] F__law_distance := Has.mk' (fun_mk (st := s__law_distance) l17 c17 k17) (PySem.W.mg_of X G a17) (ok__law_distance (P := l.prog) (w := w) (base := base) (fun_mk (st := s__law_distance) l17 c17 k17) T h__law_part len__law_distance wp__law_distance) fun _ _ _ _ _ _ us hl => match us, hl with | [_, _, _], _ => rfl
  have h__law_gap : Has l.prog w K mg base 2 "_law_gap" s__law_gap ["kind", "one", "other"] F__law_gap := Has.mk' (fun_mk (st := s__law_gap) l19 c19 k19) (PySem.W.mg_of X G a19) (ok__law_gap (P := l.prog) (w := w) (base := base) (fun_mk (st := s__law_gap) l19 c19 k19) T h__law_root len__law_gap wp__law_gap) fun _ _ _ _ _ _ us hl => match us, hl with | [_, _, _], _ => rfl
  have h__law_most : Has l.prog w K mg base 2 "_law_most" s__law_most ["kind", "one", "other"] F__law_most := Has.mk' (fun_mk (st := s__law_most) l20 c20 k20) (PySem.W.mg_of X G a20) (ok__law_most (P := l.prog) (w := w) (base := base) (fun_mk (st := s__law_most) l20 c20 k20) T h__law_root len__law_most wp__law_most) fun _ _ _ _ _ _ us hl => match us, hl with | [_, _, _], _ => rfl
  have h_least_beyond : Has l.prog w K mg base 3 "least_beyond" s_least_beyond ["kind", "from_centre", "radius"] F_least_beyond := Has.mk' (fun_mk (st := s_least_beyond) l6 c6 k6) (PySem.W.mg_of X G a6) (ok_least_beyond (P := l.prog) (w := w) (base := base) (fun_mk (st := s_least_beyond) l6 c6 k6) T h_gap_of len_least_beyond wp_least_beyond) fun _ _ _ _ _ _ us hl => match us, hl with | [_, _, _], _ => rfl
  have h_holds_vector : Has l.prog w K mg base 3 "holds_vector" s_holds_vector ["kind", "region", "vector"] F_holds_vector := Has.mk' (fun_mk (st := s_holds_vector) l8 c8 k8) (PySem.W.mg_of X G a8) (ok_holds_vector (P := l.prog) (w := w) (base := base) (fun_mk (st := s_holds_vector) l8 c8 k8) T h_distance len_holds_vector wp_holds_vector) fun _ _ _ _ _ _ us hl => match us, hl with | [_, _, _], _ => rfl
  have h_ceiling_of : Has l.prog w K mg base 3 "ceiling_of" s_ceiling_of ["kind", "region", "vector"] F_ceiling_of := Has.mk' (fun_mk (st := s_ceiling_of) l12 c12 k12) (PySem.W.mg_of X G a12) (ok_ceiling_of (P := l.prog) (w := w) (base := base) (fun_mk (st := s_ceiling_of) l12 c12 k12) T h_part_of h_joined_parts h_distance h_most_beyond h_farthest_difference len_ceiling_of wp_ceiling_of) fun _ _ _ _ _ _ us hl => match us, hl with | [_, _, _], _ => rfl
  have h__law_holds : Has l.prog w K mg base 3 "_law_holds" s__law_holds ["kind", "region", "vector"] F__law_holds := Has.mk' (fun_mk (st := s__law_holds) l22 c22 k22) (PySem.W.mg_of X G a22) (ok__law_holds (P := l.prog) (w := w) (base := base) (fun_mk (st := s__law_holds) l22 c22 k22) T h__law_distance h__law_shell len__law_holds wp__law_holds) fun _ _ _ _ _ _ us hl => match us, hl with | [_, _, _], _ => rfl
  have h__law_region : Has l.prog w K mg base 3 "_law_region" s__law_region ["heap", "kind", "places", "far"] F__law_region := Has.mk' (fun_mk (st := s__law_region) l23 c23 k23) (PySem.W.mg_of X G a23) (ok__law_region (P := l.prog) (w := w) (base := base) (fun_mk (st := s__law_region) l23 c23 k23) T h__law_draw h__law_pick len__law_region wp__law_region) fun _ _ _ _ _ _ us hl => match us, hl with | [_, _, _, _], _ => rfl
  have h__law_floor : Has l.prog w K mg base 3 "_law_floor" s__law_floor ["kind", "region", "vector"] F__law_floor := Has.mk' (fun_mk (st := s__law_floor) l24 c24 k24) (PySem.W.mg_of X G a24) (ok__law_floor (P := l.prog) (w := w) (base := base) (fun_mk (st := s__law_floor) l24 c24 k24) T h__law_distance h__law_gap h__law_shell len__law_floor wp__law_floor) fun _ _ _ _ _ _ us hl => match us, hl with | [_, _, _], _ => rfl
  have h__law_ceiling : Has l.prog w K mg base 3 "_law_ceiling" s__law_ceiling ["kind", "region", "vector"] F__law_ceiling := Has.mk' (fun_mk (st := s__law_ceiling) l25 c25 k25) (PySem.W.mg_of X G a25) (ok__law_ceiling (P := l.prog) (w := w) (base := base) (fun_mk (st := s__law_ceiling) l25 c25 k25) T h__law_distance h__law_most h__law_shell len__law_ceiling wp__law_ceiling) fun _ _ _ _ _ _ us hl => match us, hl with | [_, _, _], _ => rfl
  have h_floor_of : Has l.prog w K mg base 4 "floor_of" s_floor_of ["kind", "region", "vector"] F_floor_of := Has.mk' (fun_mk (st := s_floor_of) l11 c11 k11) (PySem.W.mg_of X G a11) (ok_floor_of (P := l.prog) (w := w) (base := base) (fun_mk (st := s_floor_of) l11 c11 k11) T h_part_of h_joined_parts h_distance h_gap_of h_least_beyond h_nearest_difference len_floor_of wp_floor_of) fun _ _ _ _ _ _ us hl => match us, hl with | [_, _, _], _ => rfl
  have h__law_tried_right : Has l.prog w K mg base 4 "_law_tried_right" s__law_tried_right ["kind", "region", "vector", "low", "high"] F__law_tried_right := Has.mk' (fun_mk (st := s__law_tried_right) l27 c27 k27) (PySem.W.mg_of X G a27) (ok__law_tried_right (P := l.prog) (w := w) (base := base) (fun_mk (st := s__law_tried_right) l27 c27 k27) T h_holds_vector h__law_distance h__law_holds h__law_window len__law_tried_right wp__law_tried_right) fun _ _ _ _ _ _ us hl => match us, hl with | [_, _, _, _, _], _ => rfl
  have h__law_box_reached : Has l.prog w K mg base 4 "_law_box_reached" s__law_box_reached ["kind", "box", "vector", "low", "high"] F__law_box_reached := Has.mk' (fun_mk (st := s__law_box_reached) l29 c29 k29) (PySem.W.mg_of X G a29) (ok__law_box_reached (P := l.prog) (w := w) (base := base) (fun_mk (st := s__law_box_reached) l29 c29 k29) T h_holds_vector h__law_distance h__law_pick_far len__law_box_reached wp__law_box_reached) fun _ _ _ _ _ _ us hl => match us, hl with | [_, _, _, _, _], _ => rfl
  have h__law_right : Has l.prog w K mg base 5 "_law_right" s__law_right ["kind", "region", "vector"] F__law_right := Has.mk' (fun_mk (st := s__law_right) l30 c30 k30) (PySem.W.mg_of X G a30) (ok__law_right (P := l.prog) (w := w) (base := base) (fun_mk (st := s__law_right) l30 c30 k30) T h_holds_vector h_floor_of h_ceiling_of h__law_floor h__law_ceiling h__law_tried_right h__law_box_reached len__law_right wp__law_right) fun _ _ _ _ _ _ us hl => match us, hl with | [_, _, _], _ => rfl
  exact ok_law (P := l.prog) (w := w) (base := base) (fun_mk (st := s_law) l31 c31 k31) T h_floor_of h_ceiling_of h__law_heap h__law_draw h__law_pick h__law_region h__law_right len_law wp_law
theorem at_end {K : PySem.W.Frag} {H : Hp} {a : Addr} {ns : List Int} (hl : ns.length ≤ 63) (hS : SqL K H a (ns.map V.int)) : lift K F_law [.ref a] H (fun v _ => v = .bl true) fun _ _ _ => False := by
  have fe : fz (fun _ => none) H (fun _ => none) = H := by
    funext b
    exact fz_none rfl rfl
  refine ⟨fun _ => none, [.lst (ns.map .int)], fun _ => none, fun d _ => d = .bl true, fun _ _ _ => False, ⟨(fun _ _ e => nomatch e), (fun _ _ e => nomatch e)⟩, ?_, ⟨ns, rfl, hl, fun _ => rfl⟩, fun v d H' M' _ r e => ?_, fun _ _ _ _ _ _ _ _ _ z => z⟩
  · rw [fe]
    exact .cons (.lst hS (.ofInts ns)) .nil
  · subst e
    cases r
    rfl
end K21
open PySem PySem.W PyProof.Rows in
set_option maxRecDepth 100000 in
set_option maxHeartbeats 0 in
theorem PySem.Challenge.cw_nonearer_k21_whole_floors_and_ceilings_holds : PySem.Challenge.rw_nonearer_k21_whole_floors_and_ceilings.Holds := by
  w_on; o_law; k_head; (case hw => w_witness2)
  k_fill
  refine L3.walk_g (l := PySem.Challenge.rw_nonearer_k21_whole_floors_and_ceilings) (n := 63) (k := 6) (x := "script") (sp := fun w => L3.lift _ K21.F_law) rfl (by decide) rfl ⟨rfl, by decide, by decide⟩ (fun w h Y => PySem.W.kIn_of Y) ?F (fun w H a ns hl hS => K21.at_end hl hS)
  case F =>
    intro w mg fa h KX G hmg
    refine' K21.all_mk rfl KX G hmg ?a0 ?l0 ?c0 ?k0 ?a1 ?l1 ?c1 ?k1 ?a2 ?l2 ?c2 ?k2 ?a3 ?l3 ?c3 ?k3 ?a4 ?l4 ?c4 ?k4 ?a5 ?l5 ?c5 ?k5 ?a6 ?l6 ?c6 ?k6 ?a7 ?l7 ?c7 ?k7 ?a8 ?l8 ?c8 ?k8 ?a9 ?l9 ?c9 ?k9 ?a10 ?l10 ?c10 ?k10 ?a11 ?l11 ?c11 ?k11 ?a12 ?l12 ?c12 ?k12 ?a13 ?l13 ?c13 ?k13 ?a14 ?l14 ?c14 ?k14 ?a15 ?l15 ?c15 ?k15 ?a16 ?l16 ?c16 ?k16 ?a17 ?l17 ?c17 ?k17 ?a18 ?l18 ?c18 ?k18 ?a19 ?l19 ?c19 ?k19 ?a20 ?l20 ?c20 ?k20 ?a21 ?l21 ?c21 ?k21 ?a22 ?l22 ?c22 ?k22 ?a23 ?l23 ?c23 ?k23 ?a24 ?l24 ?c24 ?k24 ?a25 ?l25 ?c25 ?k25 ?a26 ?l26 ?c26 ?k26 ?a27 ?l27 ?c27 ?k27 ?a28 ?l28 ?c28 ?k28 ?a29 ?l29 ?c29 ?k29 ?a30 ?l30 ?c30 ?k30 ?a31 ?l31 ?c31 ?k31 ?z_abs ?z_all ?z_int ?m_isqrt ?z_len ?z_max ?z_min ?z_range ?z_repr ?z_sum ?z_tuple ?z_zip ?g_KINDS ?lk_KINDS
    (case a0 => k_is)
    (case l0 => k_is)
    (case c0 => k_is)
    (case k0 => k_is)
    (case a1 => k_is)
    (case l1 => k_is)
    (case c1 => k_is)
    (case k1 => k_is)
    (case a2 => k_is)
    (case l2 => k_is)
    (case c2 => k_is)
    (case k2 => k_is)
    (case a3 => k_is)
    (case l3 => k_is)
    (case c3 => k_is)
    (case k3 => k_is)
    (case a4 => k_is)
    (case l4 => k_is)
    (case c4 => k_is)
    (case k4 => k_is)
    (case a5 => k_is)
    (case l5 => k_is)
    (case c5 => k_is)
    (case k5 => k_is)
    (case a6 => k_is)
    (case l6 => k_is)
    (case c6 => k_is)
    (case k6 => k_is)
    (case a7 => k_is)
    (case l7 => k_is)
    (case c7 => k_is)
    (case k7 => k_is)
    (case a8 => k_is)
    (case l8 => k_is)
    (case c8 => k_is)
    (case k8 => k_is)
    (case a9 => k_is)
    (case l9 => k_is)
    (case c9 => k_is)
    (case k9 => k_is)
    (case a10 => k_is)
    (case l10 => k_is)
    (case c10 => k_is)
    (case k10 => k_is)
    (case a11 => k_is)
    (case l11 => k_is)
    (case c11 => k_is)
    (case k11 => k_is)
    (case a12 => k_is)
    (case l12 => k_is)
    (case c12 => k_is)
    (case k12 => k_is)
    (case a13 => k_is)
    (case l13 => k_is)
    (case c13 => k_is)
    (case k13 => k_is)
    (case a14 => k_is)
    (case l14 => k_is)
    (case c14 => k_is)
    (case k14 => k_is)
    (case a15 => k_is)
    (case l15 => k_is)
    (case c15 => k_is)
    (case k15 => k_is)
    (case a16 => k_is)
    (case l16 => k_is)
    (case c16 => k_is)
    (case k16 => k_is)
    (case a17 => k_is)
    (case l17 => k_is)
    (case c17 => k_is)
    (case k17 => k_is)
    (case a18 => k_is)
    (case l18 => k_is)
    (case c18 => k_is)
    (case k18 => k_is)
    (case a19 => k_is)
    (case l19 => k_is)
    (case c19 => k_is)
    (case k19 => k_is)
    (case a20 => k_is)
    (case l20 => k_is)
    (case c20 => k_is)
    (case k20 => k_is)
    (case a21 => k_is)
    (case l21 => k_is)
    (case c21 => k_is)
    (case k21 => k_is)
    (case a22 => k_is)
    (case l22 => k_is)
    (case c22 => k_is)
    (case k22 => k_is)
    (case a23 => k_is)
    (case l23 => k_is)
    (case c23 => k_is)
    (case k23 => k_is)
    (case a24 => k_is)
    (case l24 => k_is)
    (case c24 => k_is)
    (case k24 => k_is)
    (case a25 => k_is)
    (case l25 => k_is)
    (case c25 => k_is)
    (case k25 => k_is)
    (case a26 => k_is)
    (case l26 => k_is)
    (case c26 => k_is)
    (case k26 => k_is)
    (case a27 => k_is)
    (case l27 => k_is)
    (case c27 => k_is)
    (case k27 => k_is)
    (case a28 => k_is)
    (case l28 => k_is)
    (case c28 => k_is)
    (case k28 => k_is)
    (case a29 => k_is)
    (case l29 => k_is)
    (case c29 => k_is)
    (case k29 => k_is)
    (case a30 => k_is)
    (case l30 => k_is)
    (case c30 => k_is)
    (case k30 => k_is)
    (case a31 => k_is)
    (case l31 => k_is)
    (case c31 => k_is)
    (case k31 => k_is)
    (case z_abs => k_is)
    (case z_all => k_is)
    (case z_int => k_is)
    (case m_isqrt => k_is)
    (case z_len => k_is)
    (case z_max => k_is)
    (case z_min => k_is)
    (case z_range => k_is)
    (case z_repr => k_is)
    (case z_sum => k_is)
    (case z_tuple => k_is)
    (case z_zip => k_is)
    (case g_KINDS => k_is)
    (case lk_KINDS => k_is)
#print axioms PySem.Challenge.cw_nonearer_k21_whole_floors_and_ceilings_holds
