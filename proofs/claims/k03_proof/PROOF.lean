import PyProof.Rows.All
import Wide.All
import OpenK.AllK
import Wide.FinOn
import HandS.ForMost
import HandS.ForExc
import HandS.Wide
import HandS.Zip
import HandS.Defaults
import HandS.TupAny
import HandS.Conv
import HandS.Style
import HandS.FStr
import PyProof.Rows.NestShow
import HandS.Gcd
import HandS.SortKw
import HandS.TupMul
import PySem.Challenge.RW_nonearer_k03_whole_distances
set_option Elab.async false
set_option linter.all false
set_option maxRecDepth 100000
set_option exponentiation.threshold 20000
/-! A second layer over HandS: data by value (D), mutable objects as tokens in a store (Mp), readings as predicate transformers over data. -/
namespace L3
open PySem L2

/-! ### data -/
inductive D where
  | non | bl (b : Bool) | int (i : Int) | str (x : Str) | ty (n : String) | tok (a : Addr)
  | tup (ds : List D) | lst (ds : List D)

mutual
inductive Rep (K : PySem.W.Frag) (H : Hp) : V → D → Prop
  | non : Rep K H .non .non
  | bl (b : Bool) : Rep K H (.bl b) (.bl b)
  | int (i : Int) : Rep K H (.int i) (.int i)
  | str (x : Str) : Rep K H (.str x) (.str x)
  | ty (n : String) : Rep K H (.ty n) (.ty n)
  | tok (a : Addr) : Rep K H (.ref a) (.tok a)
  | tup {a : Addr} {vs : List V} {ds : List D} : SqT K H a vs → RepL K H vs ds → Rep K H (.ref a) (.tup ds)
  | lst {a : Addr} {vs : List V} {ds : List D} : SqL K H a vs → RepL K H vs ds → Rep K H (.ref a) (.lst ds)
inductive RepL (K : PySem.W.Frag) (H : Hp) : List V → List D → Prop
  | nil : RepL K H [] []
  | cons {v : V} {vs : List V} {d : D} {ds : List D} : Rep K H v d → RepL K H vs ds → RepL K H (v :: vs) (d :: ds)
end

theorem sqt_mono {K : PySem.W.Frag} {H H' : Hp} {a : Addr} {xs : List V} (e : Same H H') (h : SqT K H a xs) : SqT K H' a xs := by
  rcases h with (h | ⟨o, h⟩) | h
  · exact .inl (.inl (e _ _ h))
  · exact .inl (.inr ⟨o, e _ _ h⟩)
  · exact .inr h

mutual
theorem Rep.mono {K : PySem.W.Frag} {H H' : Hp} (e : Same H H') : ∀ (d : D) (v : V), Rep K H v d → Rep K H' v d
  | .non, _, h => by cases h; exact .non
  | .bl b, _, h => by cases h; exact .bl b
  | .int i, _, h => by cases h; exact .int i
  | .str x, _, h => by cases h; exact .str x
  | .ty n, _, h => by cases h; exact .ty n
  | .tok a, _, h => by cases h; exact .tok a
  | .tup ds, _, h => by
    cases h with
    | tup hs ha => exact .tup (sqt_mono e hs) (RepL.mono e ds _ ha)
  | .lst ds, _, h => by
    cases h with
    | lst hs ha => exact .lst (e.seq hs) (RepL.mono e ds _ ha)
theorem RepL.mono {K : PySem.W.Frag} {H H' : Hp} (e : Same H H') : ∀ (ds : List D) (vs : List V), RepL K H vs ds → RepL K H' vs ds
  | [], _, h => by cases h; exact .nil
  | d :: ds, _, h => by
    cases h with
    | cons h1 h2 => exact .cons (Rep.mono e d _ h1) (RepL.mono e ds _ h2)
end
theorem Rep.up {K : PySem.W.Frag} {H H' : Hp} {v : V} {d : D} (h : Rep K H v d) (e : Same H H') : Rep K H' v d := Rep.mono e d v h
theorem RepL.up {K : PySem.W.Frag} {H H' : Hp} {v : List V} {d : List D} (h : RepL K H v d) (e : Same H H') : RepL K H' v d := RepL.mono e d v h
theorem RepL.len {K : PySem.W.Frag} {H : Hp} : ∀ {vs : List V} {ds : List D}, RepL K H vs ds → vs.length = ds.length
  | _, _, .nil => rfl
  | _, _, .cons _ r => by rw [List.length_cons, List.length_cons, r.len]
theorem RepL.app {K : PySem.W.Frag} {H : Hp} : ∀ {vs ws : List V} {ds es : List D}, RepL K H vs ds → RepL K H ws es → RepL K H (vs ++ ws) (ds ++ es)
  | _, _, _, _, .nil, s => s
  | _, _, _, _, .cons r t, s => .cons r (RepL.app t s)
theorem RepL.get {K : PySem.W.Frag} {H : Hp} : ∀ {vs : List V} {ds : List D} {i : Nat} {d : D}, RepL K H vs ds → ds[i]? = some d → ∃ v, vs[i]? = some v ∧ Rep K H v d
  | _, _, i, d, .nil, e => by simp at e
  | _, _, 0, d, .cons r t, e => by
    obtain rfl : _ = d := Option.some.inj e
    exact ⟨_, rfl, r⟩
  | _, _, i + 1, d, .cons r t, e => t.get (i := i) e
theorem RepL.getV {K : PySem.W.Frag} {H : Hp} : ∀ {vs : List V} {ds : List D} {i : Nat} {v : V}, RepL K H vs ds → vs[i]? = some v → ∃ d, ds[i]? = some d ∧ Rep K H v d
  | _, _, i, d, .nil, e => by simp at e
  | _, _, 0, d, .cons r t, e => by
    obtain rfl : _ = d := Option.some.inj e
    exact ⟨_, rfl, r⟩
  | _, _, i + 1, d, .cons r t, e => t.getV (i := i) e
theorem RepL.set {K : PySem.W.Frag} {H : Hp} {v : V} {d : D} (r : Rep K H v d) : ∀ {vs : List V} {ds : List D} (i : Nat), RepL K H vs ds → RepL K H (vs.set i v) (ds.set i d)
  | _, _, _, .nil => .nil
  | _, _, 0, .cons _ t => .cons r t
  | _, _, i + 1, .cons q t => .cons q (RepL.set r i t)
theorem RepL.take {K : PySem.W.Frag} {H : Hp} : ∀ {vs : List V} {ds : List D} (n : Nat), RepL K H vs ds → RepL K H (vs.take n) (ds.take n)
  | _, _, 0, _ => .nil
  | _, _, n + 1, .nil => .nil
  | _, _, n + 1, .cons r t => .cons r (RepL.take n t)
theorem RepL.drop {K : PySem.W.Frag} {H : Hp} : ∀ {vs : List V} {ds : List D} (n : Nat), RepL K H vs ds → RepL K H (vs.drop n) (ds.drop n)
  | _, _, 0, r => r
  | _, _, n + 1, .nil => .nil
  | _, _, n + 1, .cons _ t => RepL.drop n t
theorem RepL.ints {K : PySem.W.Frag} {H : Hp} : ∀ {vs : List V} {ns : List Int}, RepL K H vs (ns.map D.int) → vs = ns.map V.int
  | _, [], h => by cases h; rfl
  | _, n :: ns, h => by
    cases h with
    | cons r t =>
      cases r
      rw [List.map_cons, RepL.ints t]
theorem RepL.ofInts {K : PySem.W.Frag} {H : Hp} : ∀ (ns : List Int), RepL K H (ns.map V.int) (ns.map D.int)
  | [] => .nil
  | n :: ns => .cons (.int n) (RepL.ofInts ns)
theorem RepL.strs {K : PySem.W.Frag} {H : Hp} : ∀ {vs : List V} {ns : List Str}, RepL K H vs (ns.map D.str) → vs = ns.map V.str
  | _, [], h => by cases h; rfl
  | _, n :: ns, h => by
    cases h with
    | cons r t =>
      cases r
      rw [List.map_cons, RepL.strs t]
theorem RepL.ofStrs {K : PySem.W.Frag} {H : Hp} : ∀ (ns : List Str), RepL K H (ns.map V.str) (ns.map D.str)
  | [] => .nil
  | n :: ns => .cons (.str n) (RepL.ofStrs ns)
theorem RepL.bls {K : PySem.W.Frag} {H : Hp} : ∀ {vs : List V} {ns : List Bool}, RepL K H vs (ns.map D.bl) → vs = ns.map V.bl
  | _, [], h => by cases h; rfl
  | _, n :: ns, h => by
    cases h with
    | cons r t =>
      cases r
      rw [List.map_cons, RepL.bls t]

/-! ### the store of what may change -/
inductive Cell where
  | aux | drw (a0 : Addr) | lst (ds : List D) | ins (C : Addr) (fs : List (Str × D))
abbrev Mp := Addr → Option Cell
/-- what never changes: neither in the store nor hidden (Z) -/
def fz (Z H : Hp) (M : Mp) : Hp := fun a => match M a, Z a with
  | none, none => H a
  | _, _ => none
def setM (M : Mp) (a : Addr) (c : Cell) : Mp := fun b => if b = a then some c else M b
theorem setM_same {M : Mp} {a : Addr} {c : Cell} : setM M a c a = some c := if_pos rfl
theorem setM_ne {M : Mp} {a b : Addr} {c : Cell} (h : b ≠ a) : setM M a c b = M b := if_neg h
theorem fz_none {Z H : Hp} {M : Mp} {a : Addr} (h : M a = none) (z : Z a = none) : fz Z H M a = H a := by
  unfold fz
  rw [h, z]
theorem fz_some {Z H : Hp} {M : Mp} {a : Addr} {c : Cell} (h : M a = some c) : fz Z H M a = none := by
  unfold fz
  rw [h]
theorem fz_hid {Z H : Hp} {M : Mp} {a : Addr} {o : HO} (h : Z a = some o) : fz Z H M a = none := by
  unfold fz
  rw [h]
  split <;> first | rfl | contradiction
theorem fz_is {Z H : Hp} {M : Mp} {a : Addr} {o : HO} (h : fz Z H M a = some o) : M a = none ∧ Z a = none ∧ H a = some o := by
  cases q : M a with
  | some c =>
    rw [fz_some q] at h
    cases h
  | none =>
    cases q2 : Z a with
    | some u =>
      rw [fz_hid q2] at h
      cases h
    | none =>
      rw [fz_none q q2] at h
      exact ⟨rfl, rfl, h⟩
theorem fz_to {Z H : Hp} {M : Mp} {a : Addr} {o : HO} (h1 : M a = none) (h2 : Z a = none) (h : H a = some o) : fz Z H M a = some o := by
  rw [fz_none h1 h2]
  exact h
theorem fz_sub {Z H : Hp} {M : Mp} : Same (fz Z H M) H := fun _ _ e => (fz_is e).2.2
def RepF (K : PySem.W.Frag) (H : Hp) (fv : List (Str × V)) (fs : List (Str × D)) : Prop := fv.map (·.1) = fs.map (·.1) ∧ RepL K H (fv.map (·.2)) (fs.map (·.2))
/-- the numbers of the draws -/
def DrawOk (H : Hp) (a a0 : Addr) : Prop := ∃ (cs : List Int) (s : Int), H a = some (.lst [.ref a0, .int s]) ∧ H a0 = some (.lst (cs.map V.int)) ∧ 0 ≤ s ∧ s < 4294967296 ∧ cs.length ≤ 100 ∧ ∀ c ∈ cs, 0 ≤ c
def CellOk (K : PySem.W.Frag) (Z H : Hp) (M : Mp) (a : Addr) : Cell → Prop
  | .lst ds => ∃ vs, H a = some (.lst vs) ∧ RepL K (fz Z H M) vs ds
  | .drw a0 => M a0 = some .aux ∧ DrawOk H a a0
  | .aux => ∃ o, H a = some o
  | .ins C fs => ∃ dx fv, H a = some (.ins C dx fv) ∧ RepF K (fz Z H M) fv fs
structure Sat (K : PySem.W.Frag) (Z : Hp) (H : Hp) (M : Mp) : Prop where
  cell : ∀ a c, M a = some c → CellOk K Z H M a c
  zed : ∀ a o, Z a = some o → H a = some o ∧ M a = none
theorem Sat.there {K : PySem.W.Frag} {Z : Hp} {H : Hp} {M : Mp} {a : Addr} {c : Cell} (S : Sat K Z H M) (h : M a = some c) : ∃ o, H a = some o := by
  have q := S.cell a c h
  cases c with
  | aux => exact q
  | drw a0 => obtain ⟨_, cs, s, e, _⟩ := q; exact ⟨_, e⟩
  | lst ds => obtain ⟨vs, e, _⟩ := q; exact ⟨_, e⟩
  | ins C fs => obtain ⟨dx, fv, e, _⟩ := q; exact ⟨_, e⟩
theorem Sat.free {K : PySem.W.Frag} {Z : Hp} {H : Hp} {M : Mp} {a : Addr} (S : Sat K Z H M) (h : H a = none) : M a = none := by
  cases q : M a with
  | none => rfl
  | some c =>
    obtain ⟨o, e⟩ := S.there q
    rw [h] at e
    cases e
theorem Sat.freeZ {K : PySem.W.Frag} {Z : Hp} {H : Hp} {M : Mp} {a : Addr} (S : Sat K Z H M) (h : H a = none) : Z a = none := by
  cases q : Z a with
  | none => rfl
  | some c =>
    have e := (S.zed a c q).1
    rw [h] at e
    cases e
theorem RepF.up {K : PySem.W.Frag} {H H' : Hp} {v : List (Str × V)} {d : List (Str × D)} (h : RepF K H v d) (e : Same H H') : RepF K H' v d := ⟨h.1, h.2.up e⟩
/-- a step: the heap and the store behind it -/
structure Go (K : PySem.W.Frag) (Z : Hp) (H : Hp) (M : Mp) (H' : Hp) (M' : Mp) : Prop where
  sat : Sat K Z H' M'
  ex : Same (fz Z H M) (fz Z H' M')
theorem Go.refl {K : PySem.W.Frag} {Z : Hp} {H : Hp} {M : Mp} (S : Sat K Z H M) : Go K Z H M H M := ⟨S, Same.refl _⟩
theorem Go.trans {K : PySem.W.Frag} {Z : Hp} {H H1 H2 : Hp} {M M1 M2 : Mp} (a : Go K Z H M H1 M1) (b : Go K Z H1 M1 H2 M2) : Go K Z H M H2 M2 := ⟨b.sat, a.ex.trans b.ex⟩
/-- a cell whose object stands as it stood -/
theorem CellOk.same {K : PySem.W.Frag} {Z Z' : Hp} {H H' : Hp} {M M' : Mp} {a : Addr} {c : Cell} (q : CellOk K Z H M a c) (ex : Same (fz Z H M) (fz Z' H' M')) (ha : ∀ o, H a = some o → H' a = some o)
    (aux : ∀ b, M b = some .aux → M' b = some .aux ∧ ∀ o, H b = some o → H' b = some o) : CellOk K Z' H' M' a c := by
  cases c with
  | aux =>
    obtain ⟨o, e⟩ := q
    exact ⟨o, ha o e⟩
  | drw a0 =>
    obtain ⟨m0, cs, s, e, e0, r⟩ := q
    obtain ⟨m1, k⟩ := aux a0 m0
    exact ⟨m1, cs, s, ha _ e, k _ e0, r⟩
  | lst ds =>
    obtain ⟨vs, e, r⟩ := q
    exact ⟨vs, ha _ e, r.up ex⟩
  | ins C fs =>
    obtain ⟨dx, fv, e, r⟩ := q
    exact ⟨dx, fv, ha _ e, r.up ex⟩
/-- a new object that never changes -/
theorem Go.laid {K : PySem.W.Frag} {Z : Hp} {H : Hp} {M : Mp} {p : Addr} {o : HO} (S : Sat K Z H M) (hp : H p = none) : Go K Z H M (upd H p o) M ∧ fz Z (upd H p o) M p = some o := by
  have hm := S.free hp
  have hz := S.freeZ hp
  have up : ∀ b u, H b = some u → upd H p o b = some u := fun b u e => by
    rw [upd_ne (ne_of_none e hp)]
    exact e
  have ex : Same (fz Z H M) (fz Z (upd H p o) M) := fun b u e => fz_to (fz_is e).1 (fz_is e).2.1 (up b u (fz_is e).2.2)
  exact ⟨⟨⟨fun a c h => (S.cell a c h).same ex (up a) fun b e => ⟨e, up b⟩, fun a u h => ⟨up a u (S.zed a u h).1, (S.zed a u h).2⟩⟩, ex⟩, fz_to hm hz upd_same⟩
/-- a list of the store: new, or changed -/
theorem Go.putL {K : PySem.W.Frag} {Z : Hp} {H : Hp} {M : Mp} {p : Addr} {vs : List V} {ds : List D} (S : Sat K Z H M) (hp : (H p = none) ∨ ∃ es, M p = some (.lst es)) (r : RepL K (fz Z H M) vs ds) : Go K Z H M (upd H p (.lst vs)) (setM M p (.lst ds)) := by
  have hz : Z p = none := by
    rcases hp with h | ⟨es, h⟩
    · exact S.freeZ h
    · cases q : Z p with
      | none => rfl
      | some u =>
        have e := (S.zed p u q).2
        rw [h] at e
        cases e
  have hf : ∀ u, fz Z H M p ≠ some u := fun u e => by
    obtain ⟨e1, _, e2⟩ := fz_is e
    rcases hp with h | ⟨es, h⟩
    · rw [h] at e2
      cases e2
    · rw [h] at e1
      cases e1
  have hx : M p ≠ some .aux := fun e => by
    rcases hp with h | ⟨es, h⟩
    · obtain ⟨o, e'⟩ := S.there e
      rw [h] at e'
      cases e'
    · rw [h] at e
      cases e
  have ex : Same (fz Z H M) (fz Z (upd H p (.lst vs)) (setM M p (.lst ds))) := fun b u e => by
    have hb : b ≠ p := fun z => by
      subst z
      exact hf u e
    obtain ⟨e1, e2, e3⟩ := fz_is e
    exact fz_to (by rw [setM_ne hb]; exact e1) e2 (by rw [upd_ne hb]; exact e3)
  have aux : ∀ b, M b = some .aux → setM M p (.lst ds) b = some .aux ∧ ∀ o, H b = some o → upd H p (.lst vs) b = some o := fun b e => by
    have hb : b ≠ p := fun z => by
      subst z
      exact hx e
    exact ⟨by rw [setM_ne hb]; exact e, fun o q => by rw [upd_ne hb]; exact q⟩
  refine ⟨⟨fun a c h => ?_, fun a u h => ?_⟩, ex⟩
  · by_cases ha : a = p
    · subst ha
      rw [setM_same] at h
      cases h
      exact ⟨vs, upd_same, r.up ex⟩
    · rw [setM_ne ha] at h
      exact (S.cell a c h).same ex (fun o q => by rw [upd_ne ha]; exact q) aux
  · have ha : a ≠ p := fun z => by
      subst z
      rw [hz] at h
      cases h
    exact ⟨by rw [upd_ne ha]; exact (S.zed a u h).1, by rw [setM_ne ha]; exact (S.zed a u h).2⟩
/-- a draw: the two lists of the numbers change -/
theorem Go.drawn {K : PySem.W.Frag} {Z : Hp} {H H' : Hp} {M : Mp} {a a0 : Addr} (S : Sat K Z H M) (hp : M a = some (.drw a0)) (k : ∀ b o, b ≠ a → b ≠ a0 → H b = some o → H' b = some o) (q : DrawOk H' a a0) : Go K Z H M H' M := by
  obtain ⟨m0, _⟩ := S.cell a _ hp
  have ex : Same (fz Z H M) (fz Z H' M) := fun b u e => by
    obtain ⟨e1, e2, e3⟩ := fz_is e
    have h1 : b ≠ a := fun z => by
      subst z
      rw [hp] at e1
      cases e1
    have h2 : b ≠ a0 := fun z => by
      subst z
      rw [m0] at e1
      cases e1
    exact fz_to e1 e2 (k b _ h1 h2 e3)
  refine ⟨⟨fun b c h => ?_, fun b u h => ?_⟩, ex⟩
  · by_cases h1 : b = a
    · subst h1
      rw [hp] at h
      cases h
      exact ⟨m0, q⟩
    · by_cases h2 : b = a0
      · subst h2
        rw [m0] at h
        cases h
        obtain ⟨cs', s', _, e0', _⟩ := q
        exact ⟨_, e0'⟩
      · cases c with
        | drw b0 =>
          obtain ⟨n0, cs, s, e, e0, r⟩ := S.cell b _ h
          refine ⟨n0, ?_⟩
          by_cases h3 : b0 = a0
          · subst h3
            obtain ⟨cs', s', _, e0', _, _, l', g'⟩ := q
            exact ⟨cs', s, k b _ h1 h2 e, e0', r.1, r.2.1, l', g'⟩
          · have h4 : b0 ≠ a := fun z => by
              subst z
              rw [hp] at n0
              cases n0
            exact ⟨cs, s, k b _ h1 h2 e, k b0 _ h4 h3 e0, r⟩
        | lst ds =>
          obtain ⟨vs, e, r⟩ := S.cell b _ h
          exact ⟨vs, k b _ h1 h2 e, r.up ex⟩
        | aux =>
          obtain ⟨o, e⟩ := S.cell b _ h
          exact ⟨o, k b _ h1 h2 e⟩
        | ins C fs =>
          obtain ⟨dx, fv, e, r⟩ := S.cell b _ h
          exact ⟨dx, fv, k b _ h1 h2 e, r.up ex⟩
  · obtain ⟨e1, e2⟩ := S.zed b u h
    have h1 : b ≠ a := fun z => by
      subst z
      rw [hp] at e2
      cases e2
    have h2 : b ≠ a0 := fun z => by
      subst z
      rw [m0] at e2
      cases e2
    exact ⟨k b _ h1 h2 e1, e2⟩
def delM (M : Mp) (p : Addr) : Mp := fun b => if b = p then none else M b
/-- a list of the store is let go: it never changes again -/
theorem Go.frozen {K : PySem.W.Frag} {Z : Hp} {H : Hp} {M : Mp} {p : Addr} {es : List D} (S : Sat K Z H M) (hp : M p = some (.lst es)) :
    Go K Z H M H (delM M p) ∧ ∃ vs, fz Z H (delM M p) p = some (.lst vs) ∧ RepL K (fz Z H (delM M p)) vs es := by
  have nm : ∀ {b : Addr}, M b = none → delM M p b = none := fun {b} e => by
    unfold delM
    split <;> first | rfl | exact e
  have sm : ∀ {b : Addr} {c : Cell}, delM M p b = some c → M b = some c := fun {b c} e => by
    unfold delM at e
    split at e
    · cases e
    · exact e
  have ex : Same (fz Z H M) (fz Z H (delM M p)) := fun b u e => fz_to (nm (fz_is e).1) (fz_is e).2.1 (fz_is e).2.2
  have aux : ∀ b, M b = some .aux → delM M p b = some .aux ∧ ∀ o, H b = some o → H b = some o := fun b e => by
    have hb : b ≠ p := fun z => by
      subst z
      rw [hp] at e
      cases e
    exact ⟨by unfold delM; rw [if_neg hb]; exact e, fun _ q => q⟩
  have hz : Z p = none := by
    cases q : Z p with
    | none => rfl
    | some u =>
      have e := (S.zed p u q).2
      rw [hp] at e
      cases e
  refine ⟨⟨⟨fun a c h => (S.cell a c (sm h)).same ex (fun _ q => q) aux, fun a u h => ⟨(S.zed a u h).1, nm (S.zed a u h).2⟩⟩, ex⟩, ?_⟩
  obtain ⟨vs, e, r⟩ := S.cell p _ hp
  exact ⟨vs, fz_to (by unfold delM; rw [if_pos rfl]) hz e, r.up ex⟩
/-- an object is hidden while something else runs; it is another one then, or is shown again -/
theorem Sat.swap {K : PySem.W.Frag} {Z Z' : Hp} {H H' : Hp} {M : Mp} {p : Addr} (S : Sat K Z H M) (hm : M p = none) (hf : fz Z H M p = none) (hH : ∀ b, b ≠ p → H' b = H b) (hZ : ∀ b, b ≠ p → Z' b = Z b) (hq : ∀ o, Z' p = some o → H' p = some o) : Sat K Z' H' M ∧ Same (fz Z H M) (fz Z' H' M) := by
  have ex : Same (fz Z H M) (fz Z' H' M) := fun b v e => by
    have hb : b ≠ p := fun z => by
      subst z
      rw [hf] at e
      cases e
    obtain ⟨e1, e2, e3⟩ := fz_is e
    exact fz_to e1 (by rw [hZ b hb]; exact e2) (by rw [hH b hb]; exact e3)
  have ne : ∀ {b : Addr} {c : Cell}, M b = some c → b ≠ p := fun {b c} e z => by
    subst z
    rw [hm] at e
    cases e
  refine ⟨⟨fun a c h => (S.cell a c h).same ex (fun o q => by rw [hH a (ne h)]; exact q) fun b e => ⟨e, fun o q => by rw [hH b (ne e)]; exact q⟩, fun a v h => ?_⟩, ex⟩
  by_cases ha : a = p
  · subst ha
    exact ⟨hq v h, hm⟩
  · rw [hZ a ha] at h
    exact ⟨by rw [hH a ha]; exact (S.zed a v h).1, (S.zed a v h).2⟩

/-! ### readings over data -/
abbrev En := List (Option D)
abbrev KD := D → Mp → Prop
abbrev WE := En → Mp → KD → Prop
abbrev WT := En → Mp → (Bool → Mp → Prop) → Prop
abbrev WA := En → Mp → (List D → Mp → Prop) → Prop
structure Ends3 where
  nx : En → Mp → Prop
  rt : KD
  bk : En → Mp → Prop := fun _ _ => False
  ct : En → Mp → Prop := fun _ _ => False
  xr : Addr → List (Str × D) → Mp → Prop := fun _ _ _ => False
abbrev WS := Ends3 → En → Mp → Prop
/-- the slots hold what the environment says -/
def RelS (K : PySem.W.Frag) (Hf : Hp) (σ : L2.St) (ρ : En) : Prop := σ.length = ρ.length ∧ ∀ (i : Nat) (d : D), ρ[i]? = some (some d) → ∃ v, σ[i]? = some (some v) ∧ Rep K Hf v d
theorem RelS.up {K : PySem.W.Frag} {H H' : Hp} {σ : L2.St} {ρ : En} (h : RelS K H σ ρ) (e : Same H H') : RelS K H' σ ρ := ⟨h.1, fun i d q => by
  obtain ⟨v, a, b⟩ := h.2 i d q
  exact ⟨v, a, b.up e⟩⟩
theorem RelS.set {K : PySem.W.Frag} {H : Hp} {σ : L2.St} {ρ : En} {v : V} {d : D} (h : RelS K H σ ρ) (j : Nat) (r : Rep K H v d) : RelS K H (σ.set j (some v)) (ρ.set j (some d)) := by
  refine ⟨by rw [List.length_set, List.length_set]; exact h.1, fun i e q => ?_⟩
  by_cases hij : i = j
  · subst hij
    have hl : i < ρ.length := by
      rcases Nat.lt_or_ge i ρ.length with z | z
      · exact z
      · rw [List.getElem?_eq_none (by rw [List.length_set]; exact z)] at q
        cases q
    rw [List.getElem?_set_self hl] at q
    cases q
    exact ⟨v, List.getElem?_set_self (by rw [h.1]; exact hl), r⟩
  · rw [List.getElem?_set_ne (Ne.symm hij)] at q
    obtain ⟨u, a, b⟩ := h.2 i e q
    exact ⟨u, by rw [List.getElem?_set_ne (Ne.symm hij)]; exact a, b⟩
structure R3 (K : PySem.W.Frag) (Z : Hp) (ρ : En) (M : Mp) (σ : L2.St) (H : Hp) : Prop where
  sat : Sat K Z H M
  env : RelS K (fz Z H M) σ ρ
theorem R3.go {K : PySem.W.Frag} {Z : Hp} {ρ : En} {M M' : Mp} {σ : L2.St} {H H' : Hp} (r : R3 K Z ρ M σ H) (g : Go K Z H M H' M') : R3 K Z ρ M' σ H' := ⟨g.sat, r.env.up g.ex⟩
theorem R3.refl {K : PySem.W.Frag} {Z : Hp} {ρ : En} {M : Mp} {σ : L2.St} {H : Hp} (r : R3 K Z ρ M σ H) : Go K Z H M H M := Go.refl r.sat

def SimE (K : PySem.W.Frag) (t : TE) (w : WE) : Prop := ∀ (Z : Hp) (ρ : En) (M : Mp) (σ : L2.St) (H : Hp) (Q : KD) (Q' : VK), R3 K Z ρ M σ H → w ρ M Q → (∀ v d H' M', Go K Z H M H' M' → Rep K (fz Z H' M') v d → Q d M' → Q' v H') → t σ H Q'
def SimT (K : PySem.W.Frag) (t : TT) (w : WT) : Prop := ∀ (Z : Hp) (ρ : En) (M : Mp) (σ : L2.St) (H : Hp) (Q : Bool → Mp → Prop) (Q' : Bool → Hp → Prop), R3 K Z ρ M σ H → w ρ M Q → (∀ b H' M', Go K Z H M H' M' → Q b M' → Q' b H') → t σ H Q'
def SimA (K : PySem.W.Frag) (t : TA) (w : WA) : Prop := ∀ (Z : Hp) (ρ : En) (M : Mp) (σ : L2.St) (H : Hp) (Q : List D → Mp → Prop) (Q' : List V → Hp → Prop), R3 K Z ρ M σ H → w ρ M Q → (∀ v d H' M', Go K Z H M H' M' → RepL K (fz Z H' M') v d → Q d M' → Q' v H') → t σ H Q'
structure EndsRel (K : PySem.W.Frag) (Z : Hp) (E : XK) (H : Hp) (M : Mp) (D3 : Ends3) (D : Ends) : Prop where
  nx : ∀ ρ' M' σ' H', R3 K Z ρ' M' σ' H' → Go K Z H M H' M' → D3.nx ρ' M' → D.nx σ' H'
  rt : ∀ v d H' M', Go K Z H M H' M' → Rep K (fz Z H' M') v d → D3.rt d M' → D.rt v H'
  bk : ∀ ρ' M' σ' H', R3 K Z ρ' M' σ' H' → Go K Z H M H' M' → D3.bk ρ' M' → D.bk σ' H'
  ct : ∀ ρ' M' σ' H', R3 K Z ρ' M' σ' H' → Go K Z H M H' M' → D3.ct ρ' M' → D.ct σ' H'
  xr : ∀ C dx fv fs H' M', Go K Z H M H' M' → H' dx = some (.xd fv) → RepF K (fz Z H' M') fv fs → D3.xr C fs M' → E (.ref C) (some dx) H'
theorem EndsRel.go {K : PySem.W.Frag} {Z : Hp} {E : XK} {H H' : Hp} {M M' : Mp} {D3 : Ends3} {D : Ends} (r : EndsRel K Z E H M D3 D) (g : Go K Z H M H' M') : EndsRel K Z E H' M' D3 D :=
  ⟨fun ρ N σ J a b c => r.nx ρ N σ J a (g.trans b) c, fun v d J N a b c => r.rt v d J N (g.trans a) b c, fun ρ N σ J a b c => r.bk ρ N σ J a (g.trans b) c, fun ρ N σ J a b c => r.ct ρ N σ J a (g.trans b) c,
    fun C dx fv fs J N a b c => r.xr C dx fv fs J N (g.trans a) b c⟩
def SimS (K : PySem.W.Frag) (E : XK) (t : TS) (w : WS) : Prop := ∀ (Z : Hp) (D3 : Ends3) (ρ : En) (M : Mp) (σ : L2.St) (H : Hp) (D : Ends), R3 K Z ρ M σ H → w D3 ρ M → EndsRel K Z E H M D3 D → t D σ H

structure DE (X : Cx) (e : Expr) (t : TE) (w : WE) : Prop where
  pe : PE X e t
  sm : SimE X.K t w
structure DT (X : Cx) (e : Expr) (t : TT) (w : WT) : Prop where
  pe : PT X e t
  sm : SimT X.K t w
structure DW (X : Cx) (e : Expr) (t : TT) (w : WT) : Prop where
  pe : PW X e t
  sm : SimT X.K t w
structure DA (X : Cx) (e : List Expr) (t : TA) (w : WA) : Prop where
  pe : PA X e t
  sm : SimA X.K t w
structure DS (X : Cx) (E : XK) (st : Stmt) (t : TS) (w : WS) : Prop where
  pe : PS X st t
  sm : SimS X.K E t w
structure DSs (X : Cx) (E : XK) (st : List Stmt) (t : TS) (w : WS) : Prop where
  pe : PSs X st t
  sm : SimS X.K E t w
end L3
namespace L3
open PySem L2
open PyProof.Rows (envOfC)
/-! ### defs, called where nothing is being shown -/
structure FnG (P : Program) (w : World) (K : PySem.W.Frag) (mg : Str → Option Value) (base : Heap) (k : Nat) (f : Addr) (fd : FuncData) (ps : List Str) (sp : Sp) : Prop where
  len : ∀ vs H Q E, sp vs H Q E → vs.length = ps.length
  run : ∀ (A : Around) (outer : List Env) (s : Shared) (H : Hp) (args : Args) (us : List Value) (vs : List V) (Q : VK) (E : XK), A.guards = some [] → Room k A → Env0 P w K mg base A outer s H → BindsTo s fd args (ps.zip us) → Vals vs us → sp vs H Q E →
    codeAny (model P w) A (.call (.ref f) args) (CR (L2.CX P w) outer P w H s Q E) s
theorem FnG.mono {P : Program} {w : World} {K : PySem.W.Frag} {mg : Str → Option Value} {base : Heap} {j k : Nat} {f : Addr} {fd : FuncData} {ps : List Str} {sp : Sp} (F : FnG P w K mg base j f fd ps sp) (h : j ≤ k) : FnG P w K mg base k f fd ps sp :=
  ⟨F.len, fun A o s H ar us vs Q E g hr => F.run A o s H ar us vs Q E g (hr.mono h)⟩
section
variable {P : Program} {w : World} {K : PySem.W.Frag} {mg : Str → Option Value} {base : Heap}
theorem fn_g {x qual : Str} {st : Stmt} {f : Addr} {fd : FuncData} {N ps : List Str} {k : Nat} {sp : Sp} (F : Fun K x qual st f fd) (S : FnScope N ps (defScope st)) (len : ∀ vs H Q E, sp vs H Q E → vs.length = ps.length)
    (body : ∀ (cdv : Value) (A : Around) (outer : List Env) (s : Shared) (H : Hp) (vs : List V) (Q : VK) (E : XK), A.guards = some [] → Room k (A.deeper (envOfC qual (defScope st) s.heap.objs.size f cdv)) → sp vs H Q E →
      ∃ t, PSs (cxOf (L2.CX P w) P w K mg base N qual (defScope st) f cdv A outer s H E) (defBody st) t ∧ t { nx := fun _ J => Q .non J, rt := Q } (L2.start N vs) H) : FnG P w K mg base (k + 1) f fd ps sp := by
  obtain ⟨oc, od, kV, doc, pm, an, cdv, ct, osl, rfl, lk, hcd⟩ := F.ex
  refine ⟨len, fun A outer s H args us vs Q E gd hr e0 hb r hs => ?_⟩
  have hlen := len _ _ _ _ hs
  have kin : K.In s.heap := e0.mod.kin.keeps fun b o e => (e0.bs b o e).1
  have nol : s.heap.NoLimit := e0.mod.nolimit.keeps fun b o e => (e0.bs b o e).1
  have kinds : ∀ y ∈ ps.zip us, (defScope st).names.lookup y.1 = some .local ∨ ((defScope st).names.lookup y.1 = some .cell ∧ ((cellsFrom (s.heap.objs.size + 1) (defScope st).names []).lookup y.1).isSome = true) := fun ⟨n, v⟩ hy => by
    rcases S.par n (List.of_mem_zip hy).1 with z | z
    · exact .inl z
    · exact .inr ⟨z, PySem.W.cellsFrom_some _ _ _ (.inl z)⟩
  refine codeAny_call_function hr.depth (kin _ _ lk) rfl S.co S.gen rfl (PySem.W.codeRec_of kin hcd) (hb _ _ _ _ ?_)
  refine wpAny_newFunctionEnv_cells S.kind kinds fun env he s1 c => ?_
  subst he
  refine ⟨nol.keeps c.toInCall.keep, codeAny_func ?_⟩
  obtain ⟨t, ht, hq⟩ := body cdv A outer s H vs Q E gd (hr.deeper _) hs
  have I : Inv (cxOf (L2.CX P w) P w K mg base N qual (defScope st) f cdv A outer s H E) [] (L2.start N vs) H s1 := inv_start S hr.hd e0 hlen r c
  refine wpAny_mono (ht.run [] s1 (L2.start N vs) H _ I hq) (fun fl s' hz => ?_) fun e s' hz => hz
  have fin : ∀ {σ' : L2.St} {H' : Hp} {v : V} {u : Value}, Inv (cxOf (L2.CX P w) P w K mg base N qual (defScope st) f cdv A outer s H E) [] σ' H' s' → RelV v u → Q v H' → CE outer P w H s Q u s' :=
    fun {σ' H' v u} J rv z => ⟨v, H', J.os, J.bare, J.base, J.hok, rv, z⟩
  cases fl with
  | ret u =>
    obtain ⟨v, σ', H', J, rv, z⟩ := hz
    exact fin J rv z
  | next =>
    obtain ⟨σ', H', J, z⟩ := hz
    exact fin (v := V.non) (u := Value.none) J rfl z
  | brk => exact (hz.elim fun _ h => h.elim fun _ h => h.2).elim
  | cont => exact (hz.elim fun _ h => h.elim fun _ h => h.2).elim
end
section
variable {X : Cx} {k : Nat} {f C : Addr} {fd : FuncData} {ps : List Str} {sp : Sp} {dvs : List V} {ds : List Value} {E : XK} {x m : Str} {p pos apos : Pos} {e o : Expr} {es : List Expr} {ta : TE} {t : TA}
theorem run_g {pins : List (Addr × Obj)} {σ : L2.St} {H : Hp} {s : Shared} {Q : VK} {us ws : List Value} {vs : List V} {kw : List (Str × Value)} (F : FnG X.prog X.w X.K X.mg X.base k f fd ps sp) (hr : Room k X.A) (gd : X.A.guards = some []) (hx : Passes (L2.CX X.prog X.w) X E)
    (I : Inv X pins σ H s) (hb : BindsTo s fd ⟨us, kw⟩ (ps.zip ws)) (r : Vals vs ws) (h : sp vs H Q E) : wpAny (model X.prog X.w) X.A (call (.ref f) us kw) (EP X pins σ Q) X.xe s := by
  refine wpAny_call (codeAny_mono (F.run X.A X.stack s H ⟨us, kw⟩ ws vs Q E gd hr I.env0 hb r h) fun rr s' hq => ?_)
  cases rr with
  | error er => exact hx pins σ H s er s' I hq
  | ok fl =>
    cases fl with
    | ret u => exact I.after hq
    | next => exact hq.elim
    | brk => exact hq.elim
    | cont => exact hq.elim
def tCallG (sp : Sp) (dvs : List V) (E : XK) (t : TA) : TE := fun σ H Q => t σ H fun vs J => sp (vs ++ dvs) J Q E
theorem pe_callG (F : FnG X.prog X.w X.K X.mg X.base k f fd ps sp) (hr : Room k X.A) (gd : X.A.guards = some []) (hg : Gl X x) (hm : X.mg x = some (.ref f)) (hk : PySem.W.keepIn X.K (.ref f) = true) (hb : Binds X.K fd ps ds) (hd : Vals dvs ds) (hx : Passes (L2.CX X.prog X.w) X E)
    (ha : PA X (e :: es) t) (hdb : (x == ("__debug__" : Str)) = false := by decide) (he : starEach (e :: es) X.env = (false, eval e X.env) :: starEach es X.env := by rfl) (hpl : (backTo pos (starEach es X.env)).any (·.1) = false := by rfl) :
    PE X (.Call (.Name x p) (e :: es) [] pos) (tCallG sp dvs E t) := by
  constructor
  intro pins s σ H Q I h
  refine wpAny_Call_Name_kw (ld_glob I hg hm ?_ hdb)
  refine PySem.W.callWith_K (h₀ := X.base) I.ok.mod.kin hk (thn (ha.run pos pins s σ H _ I h) fun us s1 ⟨vs, J, I1, r, q⟩ => ⟨I1.kIn, ?_⟩) he hpl
  have r2 : Vals (vs ++ dvs) (us ++ ds) := r.append hd
  have hl : (us ++ ds).length = ps.length := by rw [← r2.length]; exact F.len _ _ _ _ q
  exact run_g (us := us) (kw := []) F hr gd hx I1 (hb s1 us I1.kIn hl) r2 q
theorem pe_callG0 (F : FnG X.prog X.w X.K X.mg X.base k f fd ps sp) (hr : Room k X.A) (gd : X.A.guards = some []) (hg : Gl X x) (hm : X.mg x = some (.ref f)) (hk : PySem.W.keepIn X.K (.ref f) = true) (hb : Binds X.K fd ps ds) (hd : Vals dvs ds) (hx : Passes (L2.CX X.prog X.w) X E)
    (hdb : (x == ("__debug__" : Str)) = false := by decide) : PE X (.Call (.Name x p) [] [] pos) (tCallG sp dvs E tNil) := by
  constructor
  intro pins s σ H Q I h
  refine wpAny_Call_Name_kw (ld_glob I hg hm ?_ hdb)
  have r2 : Vals ([] ++ dvs) ([] ++ ds) := Vals.append .nil hd
  have hl : (([] : List Value) ++ ds).length = ps.length := by rw [← r2.length]; exact F.len _ _ _ _ h
  exact PySem.W.callWith_K0 I.kIn hk (run_g (us := []) (kw := []) F hr gd hx I (hb s [] I.kIn hl) r2 h)
/-- the parameters' values, each by its place among what is written: first the positional ones, then the keywords' -/
def perm (idx : List Nat) (vs zs : List V) : List V := idx.map fun i => (vs ++ zs).getD i .non
def permU (idx : List Nat) (vs zs : List Value) : List Value := idx.map fun i => (vs ++ zs).getD i .none
theorem perm_rel (idx : List Nat) {vs zs : List V} {us ws : List Value} (r : Vals vs us) (q : Vals zs ws) : Vals (perm idx vs zs) (permU idx us ws) := by
  have ra := r.append q
  unfold perm permU
  induction idx with
  | nil => exact .nil
  | cons i is ih =>
    refine .cons ?_ ih
    show RelV ((vs ++ zs).getD i .non) ((us ++ ws).getD i .none)
    rw [List.getD_eq_getElem?_getD, List.getD_eq_getElem?_getD]
    cases e : (vs ++ zs)[i]? with
    | none =>
      rw [ra.none_of e]
      rfl
    | some v =>
      obtain ⟨u, h1, h2⟩ := ra.get e
      rw [h1]
      exact h2
/-- how a call with keywords binds -/
def KB (K : PySem.W.Frag) (fd : FuncData) (ps : List Str) (n : Nat) (ks : List Str) (idx : List Nat) : Prop := ∀ (s : Shared) (us ws : List Value), K.In s.heap → us.length = n → ws.length = ks.length → BindsTo s fd ⟨us, ks.zip ws⟩ (ps.zip (permU idx us ws))
def tCallGK (n m : Nat) (idx : List Nat) (sp : Sp) (E : XK) (t tk : TA) : TE := fun σ H Q => t σ H fun vs J => tk σ J fun zs J2 => vs.length = n ∧ zs.length = m ∧ sp (perm idx vs zs) J2 Q E
theorem pe_callGK {n : Nat} {ks : List Str} {kws : List Keyword} {tk : TA} {idx : List Nat} (F : FnG X.prog X.w X.K X.mg X.base k f fd ps sp) (hr : Room k X.A) (gd : X.A.guards = some []) (hg : Gl X x) (hm : X.mg x = some (.ref f))
    (hk : PySem.W.keepIn X.K (.ref f) = true) (hb : KB X.K fd ps n ks idx) (hx : Passes (L2.CX X.prog X.w) X E)
    (ha : PA X (e :: es) t) (hkw : PK X kws tk) (hall : (backToKw pos (keywordEach kws X.env)).all (·.1.isSome) = true := by rfl) (hks : (backToKw pos (keywordEach kws X.env)).filterMap (·.1) = ks := by rfl)
    (hdb : (x == ("__debug__" : Str)) = false := by decide) (he : starEach (e :: es) X.env = (false, eval e X.env) :: starEach es X.env := by rfl)
    (hpl : ((backTo pos (starEach (e :: es) X.env)).any (·.1) || (backToKw pos (keywordEach kws X.env)).any (·.1.isNone)) = false := by rfl) :
    PE X (.Call (.Name x p) (e :: es) kws pos) (tCallGK n ks.length idx sp E t tk) := by
  constructor
  intro pins s σ H Q I h
  refine wpAny_Call_Name_kw (ld_glob I hg hm ?_ hdb)
  refine PySem.W.callWith_KW (h₀ := X.base) I.ok.mod.kin hk hall (thn (ha.run pos pins s σ H _ I h) fun us s1 ⟨vs, H1, I1, r, q⟩ => ?_) hpl he
  refine thn (hkw.run pos pins s1 σ H1 _ I1 q) fun ws s2 ⟨zs, H2, I2, rz, l1, l2, q2⟩ => ⟨I2.kIn, ?_⟩
  rw [hks]
  have a1 : us.length = n := by rw [← r.length]; exact l1
  have a2 : ws.length = ks.length := by rw [← rz.length]; exact l2
  exact run_g F hr gd hx I2 (hb s2 us ws I2.kIn a1 a2) (perm_rel idx r rz) q2
theorem pe_callGK0 {ks : List Str} {kws : List Keyword} {tk : TA} {idx : List Nat} (F : FnG X.prog X.w X.K X.mg X.base k f fd ps sp) (hr : Room k X.A) (gd : X.A.guards = some []) (hg : Gl X x) (hm : X.mg x = some (.ref f))
    (hk : PySem.W.keepIn X.K (.ref f) = true) (hb : KB X.K fd ps 0 ks idx) (hx : Passes (L2.CX X.prog X.w) X E)
    (hkw : PK X kws tk) (hall : (backToKw pos (keywordEach kws X.env)).all (·.1.isSome) = true := by rfl) (hks : (backToKw pos (keywordEach kws X.env)).filterMap (·.1) = ks := by rfl)
    (hdb : (x == ("__debug__" : Str)) = false := by decide)
    (hpl : ((backTo pos (starEach [] X.env)).any (·.1) || (backToKw pos (keywordEach kws X.env)).any (·.1.isNone)) = false := by rfl) :
    PE X (.Call (.Name x p) [] kws pos) (tCallGK 0 ks.length idx sp E tNil tk) := by
  constructor
  intro pins s σ H Q I h
  refine wpAny_Call_Name_kw (ld_glob I hg hm ?_ hdb)
  refine PySem.W.callWith_KW0 (h₀ := X.base) I.ok.mod.kin hk hall ?_ hpl
  refine thn (hkw.run pos pins s σ H _ I h) fun ws s2 ⟨zs, H2, I2, rz, l1, l2, q2⟩ => ⟨I2.kIn, ?_⟩
  rw [hks]
  have a2 : ws.length = ks.length := by rw [← rz.length]; exact l2
  exact run_g (us := []) F hr gd hx I2 (hb s2 [] ws I2.kIn rfl a2) (perm_rel idx .nil rz) q2
end

/-! ### contracts over data -/
abbrev Fs := List D → Mp → KD → (Addr → List (Str × D) → Mp → Prop) → Prop
def lift (K : PySem.W.Frag) (F : Fs) : Sp := fun vs H Q E => ∃ (Z : Hp) (ds : List D) (M : Mp) (Qd : KD) (Rd : Addr → List (Str × D) → Mp → Prop), Sat K Z H M ∧ RepL K (fz Z H M) vs ds ∧ F ds M Qd Rd ∧
  (∀ v d H' M', Go K Z H M H' M' → Rep K (fz Z H' M') v d → Qd d M' → Q v H') ∧ (∀ C dx fv fs H' M', Go K Z H M H' M' → H' dx = some (.xd fv) → RepF K (fz Z H' M') fv fs → Rd C fs M' → E (.ref C) (some dx) H')
/-- the environment at a def's entry -/
def startE (n : Nat) (ds : List D) : En := ds.map some ++ List.replicate (n - ds.length) none
theorem start_rel {K : PySem.W.Frag} {H : Hp} {N : List Str} {vs : List V} {ds : List D} (r : RepL K H vs ds) : RelS K H (L2.start N vs) (startE N.length ds) := by
  unfold L2.start startE
  refine ⟨?_, fun i d e => ?_⟩
  · rw [List.length_append, List.length_append, List.length_map, List.length_map, List.length_replicate, List.length_replicate, r.len]
  · have hl := r.len
    by_cases hi : i < ds.length
    · rw [List.getElem?_append_left (by rw [List.length_map]; exact hi), List.getElem?_map] at e
      cases q : ds[i]? with
      | none =>
        rw [q] at e
        cases e
      | some d' =>
        rw [q] at e
        obtain rfl : d' = d := Option.some.inj (Option.some.inj e)
        obtain ⟨v, h1, h2⟩ := r.get q
        refine ⟨v, ?_, h2⟩
        rw [List.getElem?_append_left (by rw [List.length_map, hl]; exact hi), List.getElem?_map, h1]
        rfl
    · rw [List.getElem?_append_right (by rw [List.length_map]; omega), List.getElem?_replicate] at e
      split at e <;> cases e
/-- what a body's context is -/
structure Good (X : Cx) (P : Program) (w : World) (K : PySem.W.Frag) (mg : Str → Option Value) (base : Heap) (k : Nat) : Prop where
  prog : X.prog = P
  w : X.w = w
  K : X.K = K
  mg : X.mg = mg
  base : X.base = base
  room : Room k X.A
  gd : X.A.guards = some []
section
variable {P : Program} {w : World} {K : PySem.W.Frag} {mg : Str → Option Value} {base : Heap}
theorem ok_fn {x qual : Str} {st : Stmt} {f : Addr} {fd : FuncData} {N ps : List Str} {k : Nat} {F : Fs} (Fn : Fun K x qual st f fd) (S : FnScope N ps (defScope st)) (len : ∀ ds M Q E, F ds M Q E → ds.length = ps.length)
    (body : ∀ (cdv : Value) (A : Around) (outer : List Env) (s : Shared) (H : Hp) (E : XK), A.guards = some [] → Room k (A.deeper (envOfC qual (defScope st) s.heap.objs.size f cdv)) →
      ∃ t wr, DSs (cxOf (L2.CX P w) P w K mg base N qual (defScope st) f cdv A outer s H E) E (defBody st) t wr ∧ ∀ ds M Q R, F ds M Q R → wr { nx := fun _ M' => Q .non M', rt := Q, xr := R } (startE N.length ds) M) : FnG P w K mg base (k + 1) f fd ps (lift K F) := by
  refine fn_g Fn S (fun vs H Q E h => ?_) (fun cdv A outer s H vs Q E gd hr h => ?_)
  · obtain ⟨Z, ds, M, Qd, Rd, _, r, q, _⟩ := h
    rw [r.len]
    exact len _ _ _ _ q
  · obtain ⟨Z, ds, M, Qd, Rd, sat, r, q, kq, kr⟩ := h
    obtain ⟨t, wr, hd, hw⟩ := body cdv A outer s H E gd hr
    refine ⟨t, hd.pe, hd.sm _ _ _ _ _ _ _ ⟨sat, start_rel r⟩ (hw ds M _ _ q) ⟨fun ρ' M' σ' H' _ g z => kq _ _ _ _ g .non z, fun v d H' M' g rp z => kq v d H' M' g rp z, fun _ _ _ _ _ _ z => z.elim, fun _ _ _ _ _ _ z => z.elim, fun C dx fv fs H' M' g e1 rf z => kr C dx fv fs H' M' g e1 rf z⟩⟩
end
end L3
namespace L3
open PySem L2

/-! ### data read in full -/
/-- a list of the store, read as a value -/
def res (M : Mp) : D → D
  | .tok a => match M a with
    | some (.lst ds) => .lst ds
    | _ => .tok a
  | d => d
theorem res_rep {K : PySem.W.Frag} {Z : Hp} {H : Hp} {M : Mp} {v : V} : ∀ {d : D}, Sat K Z H M → Rep K (fz Z H M) v d → Rep K H v (res M d)
  | .non, _, r => r.up fz_sub
  | .bl _, _, r => r.up fz_sub
  | .int _, _, r => r.up fz_sub
  | .str _, _, r => r.up fz_sub
  | .ty _, _, r => r.up fz_sub
  | .tup _, _, r => r.up fz_sub
  | .lst _, _, r => r.up fz_sub
  | .tok a, S, r => by
    cases r
    show Rep K H (.ref a) (match M a with | some (.lst ds) => .lst ds | _ => .tok a)
    cases q : M a with
    | none => exact .tok a
    | some c =>
      cases c with
      | lst ds =>
        obtain ⟨vs, e, rl⟩ := S.cell a _ q
        exact .lst (.inl (.inl e)) (rl.up fz_sub)
      | aux => exact .tok a
      | drw _ => exact .tok a
      | ins _ _ => exact .tok a
/-- the items of a list, a tuple -/
def seqD (M : Mp) : D → Option (List D)
  | .tup ds => some ds
  | .lst ds => some ds
  | .tok a => match M a with
    | some (.lst ds) => some ds
    | _ => none
  | _ => none
theorem seq_of {K : PySem.W.Frag} {Z : Hp} {H : Hp} {M : Mp} {v : V} : ∀ {d : D} {ds : List D}, Sat K Z H M → Rep K (fz Z H M) v d → seqD M d = some ds → ∃ a vs, v = .ref a ∧ (SqL K H a vs ∨ SqT K H a vs) ∧ RepL K (fz Z H M) vs ds
  | .non, _, _, _, e => by cases e
  | .bl _, _, _, _, e => by cases e
  | .int _, _, _, _, e => by cases e
  | .str _, _, _, _, e => by cases e
  | .ty _, _, _, _, e => by cases e
  | .tup es, ds, S, r, e => by
    obtain rfl : es = ds := Option.some.inj e
    cases r with
    | tup hs ha => exact ⟨_, _, rfl, .inr (sqt_mono fz_sub hs), ha⟩
  | .lst es, ds, S, r, e => by
    obtain rfl : es = ds := Option.some.inj e
    cases r with
    | lst hs ha => exact ⟨_, _, rfl, .inl (fz_sub.seq hs), ha⟩
  | .tok a, ds, S, r, e => by
    cases r
    have e' : (match M a with | some (.lst ds) => some ds | _ => none) = some ds := e
    cases q : M a with
    | none =>
      rw [q] at e'
      cases e'
    | some c =>
      rw [q] at e'
      cases c with
      | lst es =>
        obtain rfl : es = ds := Option.some.inj e'
        obtain ⟨vs, e1, rl⟩ := S.cell a _ q
        exact ⟨_, _, rfl, .inl (.inl (.inl e1)), rl⟩
      | aux => cases e'
      | drw _ => cases e'
      | ins _ _ => cases e'

/-! ### plain data: equality, texts -/
mutual
def D.py : D → PyData
  | .non => .none
  | .bl b => .bool b
  | .int i => .int i
  | .str x => .str x
  | .ty _ => .none
  | .tok _ => .none
  | .tup ds => .tuple (pyL ds)
  | .lst ds => .list (pyL ds)
def pyL : List D → List PyData
  | [] => []
  | d :: ds => d.py :: pyL ds
end
/-- data without objects, so deep at most -/
def fit : Nat → D → Prop
  | _, .non => True
  | _, .bl _ => True
  | _, .int _ => True
  | _, .str x => PySem.PyData.strOk x = true
  | _, .ty _ => False
  | _, .tok _ => False
  | 0, .tup _ => False
  | 0, .lst _ => False
  | n + 1, .tup ds => ∀ d ∈ ds, fit n d
  | n + 1, .lst ds => ∀ d ∈ ds, fit n d
mutual
theorem Rep.dp {K : PySem.W.Frag} {H : Hp} : ∀ (n : Nat) (d : D) (v : V), fit n d → Rep K H v d → Dp K H v d.py
  | _, .non, _, _, r => by cases r; exact .non
  | _, .bl b, _, _, r => by cases r; exact .bl b
  | _, .int i, _, _, r => by cases r; exact .int i
  | _, .str x, _, _, r => by cases r; exact .str x
  | _, .ty _, _, f, _ => by simp [fit] at f
  | _, .tok _, _, f, _ => by simp [fit] at f
  | 0, .tup _, _, f, _ => by cases f
  | 0, .lst _, _, f, _ => by cases f
  | n + 1, .tup ds, _, f, r => by
    cases r with
    | tup hs ha => exact .tup hs (RepL.dp n ds _ f ha)
  | n + 1, .lst ds, _, f, r => by
    cases r with
    | lst hs ha => exact .lst hs (RepL.dp n ds _ f ha)
theorem RepL.dp {K : PySem.W.Frag} {H : Hp} : ∀ (n : Nat) (ds : List D) (vs : List V), (∀ d ∈ ds, fit n d) → RepL K H vs ds → DpAll K H vs (pyL ds)
  | _, [], _, _, r => by cases r; exact .nil
  | n, d :: ds, _, f, r => by
    cases r with
    | cons r1 r2 => exact .cons (Rep.dp n d _ (f d List.mem_cons_self) r1) (RepL.dp n ds _ (fun x hx => f x (List.mem_cons_of_mem _ hx)) r2)
end
mutual
theorem fit_lay : ∀ (n : Nat) (d : D), fit n d → d.py.canLay0 = true ∧ d.py.depth ≤ n
  | _, .non, _ => ⟨by simp [D.py, PyData.canLay0], by simp [D.py, PyData.depth]⟩
  | _, .bl b, _ => ⟨by simp [D.py, PyData.canLay0], by simp [D.py, PyData.depth]⟩
  | _, .int i, _ => ⟨by simp [D.py, PyData.canLay0], by simp [D.py, PyData.depth]⟩
  | _, .str x, f => by
    have f' : PySem.PyData.strOk x = true := by simpa [fit] using f
    exact ⟨by simp [D.py, PyData.canLay0, f'], by simp [D.py, PyData.depth]⟩
  | _, .ty _, f => by simp [fit] at f
  | _, .tok _, f => by simp [fit] at f
  | 0, .tup _, f => by cases f
  | 0, .lst _, f => by cases f
  | n + 1, .tup ds, f => by
    have q := fit_layL n ds f
    exact ⟨by simp [D.py, PyData.canLay0, q.1], by simp only [D.py, PyData.depth]; omega⟩
  | n + 1, .lst ds, f => by
    have q := fit_layL n ds f
    exact ⟨by simp [D.py, PyData.canLay0, q.1], by simp only [D.py, PyData.depth]; omega⟩
theorem fit_layL : ∀ (n : Nat) (ds : List D), (∀ d ∈ ds, fit n d) → PyData.canLayAll0 (pyL ds) = true ∧ PyData.depthAll (pyL ds) ≤ n
  | _, [], _ => ⟨by simp [pyL, PyData.canLayAll0], by simp [pyL, PyData.depthAll]⟩
  | n, d :: ds, f => by
    have q1 := fit_lay n d (f d List.mem_cons_self)
    have q2 := fit_layL n ds fun x hx => f x (List.mem_cons_of_mem _ hx)
    exact ⟨by simp [pyL, PyData.canLayAll0, q1.1, q2.1], by simp only [pyL, PyData.depthAll]; omega⟩
end
theorem fit_shaped {n : Nat} {d : D} (f : fit n d) (h : n ≤ 64) : SeqAt.shaped d.py = true := by
  have q := fit_lay n d f
  unfold SeqAt.shaped
  rw [q.1, Bool.true_and]
  exact decide_eq_true (by omega)
def eqD (d e : D) : Bool := PyData.eqv d.py e.py
def shown (d : D) : Str := d.py.shown
/-! how long its text is at most -/
mutual
def cost : D → Nat
  | .non => 5
  | .bl _ => 5
  | .int _ => 210
  | .str x => 10 * x.length + 4
  | .ty _ => 5
  | .tok _ => 5
  | .tup ds => costL ds + 4
  | .lst ds => costL ds + 4
def costL : List D → Nat
  | [] => 0
  | d :: ds => cost d + 2 + costL ds
end
/-- data that can be shown -/
def shw : Nat → D → Prop
  | _, .non => True
  | _, .bl _ => True
  | _, .int i => i.natAbs < 2 ^ 200
  | _, .str x => PySem.PyData.strOk x = true
  | _, .ty _ => False
  | _, .tok _ => False
  | 0, .tup _ => False
  | 0, .lst _ => False
  | n + 1, .tup ds => ∀ d ∈ ds, shw n d
  | n + 1, .lst ds => ∀ d ∈ ds, shw n d
theorem shw_fit : ∀ (n : Nat) (d : D), shw n d → fit n d
  | _, .non, _ => by simp [fit]
  | _, .bl _, _ => by simp [fit]
  | _, .int _, _ => by simp [fit]
  | _, .str x, f => by simpa [fit, shw] using f
  | _, .ty _, f => by simp [shw] at f
  | _, .tok _, f => by simp [shw] at f
  | 0, .tup _, f => by cases f
  | 0, .lst _, f => by cases f
  | n + 1, .tup ds, f => fun d hd => shw_fit n d (f d hd)
  | n + 1, .lst ds, f => fun d hd => shw_fit n d (f d hd)
theorem log200 {n : Nat} (h : n < 2 ^ 200) : n.log2 < 200 := by
  by_cases h0 : n = 0
  · subst h0
    decide
  · exact (Nat.log2_lt h0).mpr h
mutual
theorem shw_show : ∀ (n : Nat) (d : D), shw n d → d.py.showable = true ∧ d.py.hasDict = false
  | _, .non, _ => ⟨by simp [D.py, PyData.showable], by simp [D.py, PyData.hasDict]⟩
  | _, .bl b, _ => ⟨by simp [D.py, PyData.showable], by simp [D.py, PyData.hasDict]⟩
  | _, .int i, f => by
    have f' : i.natAbs < 2 ^ 200 := by simpa only [shw] using f
    have q := log200 f'
    exact ⟨by simp only [D.py, PyData.showable]; exact decide_eq_true (by omega), by simp [D.py, PyData.hasDict]⟩
  | _, .str x, f => ⟨by simp [D.py, PyData.showable], by simp [D.py, PyData.hasDict]⟩
  | _, .ty _, f => by simp [shw] at f
  | _, .tok _, f => by simp [shw] at f
  | 0, .tup _, f => by cases f
  | 0, .lst _, f => by cases f
  | n + 1, .tup ds, f => by
    have q := shw_showL n ds f
    exact ⟨by simp [D.py, PyData.showable, q.1], by simp [D.py, PyData.hasDict, q.2]⟩
  | n + 1, .lst ds, f => by
    have q := shw_showL n ds f
    exact ⟨by simp [D.py, PyData.showable, q.1], by simp [D.py, PyData.hasDict, q.2]⟩
theorem shw_showL : ∀ (n : Nat) (ds : List D), (∀ d ∈ ds, shw n d) → PyData.showableAll (pyL ds) = true ∧ PyData.hasDictAll (pyL ds) = false
  | _, [], _ => ⟨by simp [pyL, PyData.showableAll], by simp [pyL, PyData.hasDictAll]⟩
  | n, d :: ds, f => by
    have q1 := shw_show n d (f d List.mem_cons_self)
    have q2 := shw_showL n ds fun x hx => f x (List.mem_cons_of_mem _ hx)
    exact ⟨by simp [pyL, PyData.showableAll, q1.1, q2.1], by simp [pyL, PyData.hasDictAll, q1.2, q2.2]⟩
end
theorem pyL_len : ∀ ds : List D, (pyL ds).length = ds.length
  | [] => rfl
  | d :: ds => by rw [pyL, List.length_cons, List.length_cons, pyL_len ds]
theorem shownAll_len : ∀ ds : List PyData, (PyData.shownAll ds).length = ds.length
  | [] => rfl
  | d :: ds => by rw [PyData.shownAll, List.length_cons, List.length_cons, shownAll_len ds]
mutual
theorem shw_cost : ∀ (n : Nat) (d : D), shw n d → d.py.shown.length ≤ cost d
  | _, .non, _ => by decide
  | _, .bl b, _ => by cases b <;> decide
  | _, .int i, f => by
    have f' : i.natAbs < 2 ^ 200 := by simpa only [shw] using f
    have q := PySem.int_text_length_le (a := i) (k := 200) (by decide) (log200 f')
    have e : (D.int i).py.shown.length = (toString i).length := by
      show (Str.ofString (toString i)).length = _
      rw [PySem.ofString_length]
    rw [e]
    show _ ≤ 210
    omega
  | _, .str x, f => by
    have f' : PySem.PyData.strOk x = true := by simpa only [shw] using f
    have h : ∀ c ∈ x.cps.toList, c < 16 ^ 8 := fun c hc => by
      have z := (Array.all_eq_true'.mp f') c (by simpa using hc)
      have z' : c < 0x110000 := by simpa using z
      exact Nat.lt_trans z' (by decide)
    have q := PySem.StrLaws.reprText_len x h
    show (reprText x).length ≤ 10 * x.length + 4
    omega
  | _, .ty _, f => by simp [shw] at f
  | _, .tok _, f => by simp [shw] at f
  | 0, .tup _, f => by cases f
  | 0, .lst _, f => by cases f
  | n + 1, .tup ds, f => by
    have q := shw_costL n ds f
    have z := PySem.tupleText_len_le (PyData.shownAll (pyL ds))
    rw [shownAll_len, pyL_len] at z
    show (tupleText (PyData.shownAll (pyL ds))).length ≤ costL ds + 4
    omega
  | n + 1, .lst ds, f => by
    have q := shw_costL n ds f
    have z := PySem.listText_len_le (PyData.shownAll (pyL ds))
    rw [shownAll_len, pyL_len] at z
    show (listText (PyData.shownAll (pyL ds))).length ≤ costL ds + 4
    omega
theorem shw_costL : ∀ (n : Nat) (ds : List D), (∀ d ∈ ds, shw n d) → ((PyData.shownAll (pyL ds)).map (·.length)).sum + 2 * ds.length ≤ costL ds
  | _, [], _ => Nat.le_refl _
  | n, d :: ds, f => by
    have q1 := shw_cost n d (f d List.mem_cons_self)
    have q2 := shw_costL n ds fun x hx => f x (List.mem_cons_of_mem _ hx)
    simp only [pyL, PyData.shownAll, List.map_cons, List.sum_cons, List.length_cons, costL]
    omega
end
/-- repr(x), by data -/
theorem call_repr_any {X : Cx} {k : Nat} (hr : Room k X.A) (gd : X.A.guards = some []) : CallR X (.builtin "repr") (fun xs H Q => ∃ (x : V) (d : D) (n : Nat), xs = [x] ∧ Rep X.K H x d ∧ shw n d ∧ n ≤ 60 ∧ cost d ≤ 16000000 ∧ Q (.str (shown d)) H) := by
  intro pins s σ H vs us Q I r h
  obtain ⟨x, d, n, rfl, rp, sh, hn, hc, q⟩ := h
  obtain ⟨u, rfl, ru⟩ := vals1 r
  have hs := shw_show n d sh
  have hl := shw_cost n d sh
  have hz : d.py.shown.length ≤ sizeLine := by
    rw [sizeLine_eq]
    omega
  have hd := (fit_lay n d (shw_fit n d sh)).2
  have hu := hr.units
  obtain ⟨as, rd⟩ := Dp.reads I d.py x u (Rep.dp n d x (shw_fit n d sh) rp) ru
  cases d with
  | non =>
    cases rp
    cases ru
    exact P.repr_of_none ⟨.str _, H, I.tok _, ⟨_, rfl⟩, q⟩
  | bl b =>
    cases rp
    cases ru
    refine P.repr_of_bool ⟨.str _, H, I.tok _, ⟨_, rfl⟩, ?_⟩
    have e : (if b = true then Str.ofString "True" else Str.ofString "False") = shown (.bl b) := by cases b <;> rfl
    rw [e]
    exact q
  | int i =>
    cases rp
    obtain ⟨t, rfl⟩ := ru
    have sh' : i.natAbs < 2 ^ 200 := by simpa only [shw] using sh
    have q3 := log200 sh'
    exact P.repr_of_int (by omega) ⟨.str _, H, I.tok _, ⟨_, rfl⟩, q⟩
  | str y =>
    cases rp
    obtain ⟨t, rfl⟩ := ru
    exact P.repr_of_str ⟨.str _, H, I.tok _, ⟨_, rfl⟩, q⟩ hz
  | ty _ => simp [shw] at sh
  | tok _ => simp [shw] at sh
  | tup ds =>
    cases rp
    cases ru
    refine repr_of_reads' (h₀ := s.heap) rd hs.1 (fun z => by rw [hs.2] at z; cases z) gd (by omega) (fun _ _ e => e) (fun h' u' tk hk => ?_) hz
    exact ⟨.str _, H, I.kept hk, ⟨_, rfl⟩, q⟩
  | lst ds =>
    cases rp
    cases ru
    refine repr_of_reads' (h₀ := s.heap) rd hs.1 (fun z => by rw [hs.2] at z; cases z) gd (by omega) (fun _ _ e => e) (fun h' u' tk hk => ?_) hz
    exact ⟨.str _, H, I.kept hk, ⟨_, rfl⟩, q⟩
end L3
namespace L3
open PySem L2
section
variable {X : Cx} {E : XK} {e a b c : Expr} {es : List Expr} {t ta tb tc te : TE} {w wa wb wc we : WE} {pos : Pos} {k : Nat}

/-! ### names, constants -/
def wVar (i : Nat) : WE := fun ρ M Q => match ρ[i]? with
  | some (some d) => Q d M
  | _ => False
theorem sim_var {K : PySem.W.Frag} (i : Nat) : SimE K (tVar i) (wVar i) := by
  intro Z ρ M σ H Q Q' r h q
  unfold wVar at h
  split at h
  · rename_i d e
    obtain ⟨v, e1, rp⟩ := r.env.2 i d e
    exact ⟨v, e1, q v d H M r.refl rp h⟩
  · exact h.elim
theorem de_var (i : Nat) {x : Str} (hN : X.N[i]? = some x := by rfl) (hv : Vis X.env.scope x := by first | exact Or.inl rfl | exact Or.inr (Or.inl rfl) | exact Or.inr (Or.inr rfl)) (hd : (x == ("__debug__" : Str)) = false := by decide)
    (hcd : (x == ("__classdict__" : Str)) = false := by decide) : DE X (.Name x pos) (tVar i) (wVar i) := ⟨pe_var hN hv hd hcd, sim_var i⟩
def wC (d : D) : WE := fun _ M Q => Q d M
theorem sim_c {K : PySem.W.Frag} {v : V} {d : D} (h : ∀ H, Rep K H v d) : SimE K (tC v) (wC d) := fun _ _ M _ H _ _ r q z => z v d H M r.refl (h _) q
theorem de_int {i j} : DE X (.Constant (.int i) j pos) (tC (.int i)) (wC (.int i)) := ⟨pe_int, sim_c fun _ => .int i⟩
theorem de_bl {i j} : DE X (.Constant (.bool i) j pos) (tC (.bl i)) (wC (.bl i)) := ⟨pe_bl, sim_c fun _ => .bl i⟩
theorem de_non {j} : DE X (.Constant .none j pos) (tC .non) (wC .non) := ⟨pe_non, sim_c fun _ => .non⟩
theorem de_str {x j} : DE X (.Constant (.str x) j pos) (tC (.str x)) (wC (.str x)) := ⟨pe_str, sim_c fun _ => .str x⟩
/-- a name of the module that holds a value (a constant) -/
theorem de_glob {x : Str} {v : V} {d : D} {u : Value} (hg : Gl X x) (hm : X.mg x = some u) (r : RelV v u) (h : ∀ H, Rep X.K H v d) (hd : (x == ("__debug__" : Str)) = false := by decide) : DE X (.Name x pos) (tC v) (wC d) := ⟨pe_glob hg hm r hd, sim_c h⟩

/-! ### two values -/
abbrev F2 := D → D → Mp → KD → Prop
def SimR (K : PySem.W.Frag) (r : R2) (f : F2) : Prop := ∀ (Z : Hp) (x y : V) (d e : D) (H : Hp) (M : Mp) (Q : KD) (Q' : VK), Sat K Z H M → Rep K (fz Z H M) x d → Rep K (fz Z H M) y e → f d e M Q → (∀ v d' H' M', Go K Z H M H' M' → Rep K (fz Z H' M') v d' → Q d' M' → Q' v H') → r x y H Q'
def wOp (f : F2) (wa wb : WE) : WE := fun ρ M Q => wa ρ M fun d M1 => wb ρ M1 fun e M2 => f d e M2 Q
theorem sim_op {K : PySem.W.Frag} {r : R2} {f : F2} (ha : SimE K ta wa) (hb : SimE K tb wb) (hr : SimR K r f) : SimE K (tOp r ta tb) (wOp f wa wb) := by
  intro Z ρ M σ H Q Q' s h q
  refine ha Z ρ M σ H _ _ s h fun x d H1 M1 g1 r1 q1 => ?_
  refine hb Z ρ M1 σ H1 _ _ (s.go g1) q1 fun y e H2 M2 g2 r2 q2 => ?_
  exact hr Z x y d e H2 M2 Q Q' g2.sat (r1.up g2.ex) r2 q2 fun v d' H3 M3 g3 r3 q3 => q v d' H3 M3 ((g1.trans g2).trans g3) r3 q3
theorem de_op {op : Operator} {r : R2} {f : F2} (ho : OpR X (binaryOp op) r) (hs : SimR X.K r f) (ha : DE X a ta wa) (hb : DE X b tb wb) : DE X (.BinOp a op b pos) (tOp r ta tb) (wOp f wa wb) := ⟨pe_op ho ha.pe hb.pe, sim_op ha.sm hb.sm hs⟩
theorem de_cmp {op : CmpOp} {r : R2} {f : F2} (ho : OpR X (compareOp op) r) (hs : SimR X.K r f) (ha : DE X a ta wa) (hb : DE X b tb wb) (hm : behindInMarks op b = false := by first | exact nomark _ (by decide) (by decide) | rfl) : DE X (.Compare a [op] [b] pos) (tOp r ta tb) (wOp f wa wb) :=
  ⟨pe_cmpR ho ha.pe hb.pe hm, sim_op ha.sm hb.sm hs⟩
/-- a value's answer as a test -/
def wB (w : WE) : WT := fun ρ M Q => w ρ M fun d M1 => match d with
  | .bl x => Q x M1
  | _ => False
theorem sim_test {K : PySem.W.Frag} (ha : SimE K t w) : SimT K (tTest t) (wB w) := by
  intro Z ρ M σ H Q Q' s h q
  refine ha Z ρ M σ H _ _ s h fun x d H1 M1 g1 r1 q1 => ?_
  cases d with
  | bl y =>
    cases r1
    exact ⟨y, rfl, q y H1 M1 g1 q1⟩
  | _ => exact q1.elim
theorem dt_cmp {op : CmpOp} {r : R2} {f : F2} (ho : OpR X (compareOp op) r) (hs : SimR X.K r f) (ha : DE X a ta wa) (hb : DE X b tb wb) (hm : behindInMarks op b = false := by first | exact nomark _ (by decide) (by decide) | rfl) : DT X (.Compare a [op] [b] pos) (tTest (tOp r ta tb)) (wB (wOp f wa wb)) :=
  ⟨pt_cmpR ho ha.pe hb.pe hm, sim_test (sim_op ha.sm hb.sm hs)⟩
/-- a op b op' c -/
def wChain (f f' : F2) (wa wb wc : WE) : WE := fun ρ M Q => wa ρ M fun d M1 => wb ρ M1 fun e M2 => f d e M2 fun z M3 => match z with
  | .bl true => wc ρ M3 fun g M4 => f' e g M4 Q
  | .bl false => Q (.bl false) M3
  | _ => False
theorem sim_chain {K : PySem.W.Frag} {r r' : R2} {f f' : F2} (ha : SimE K ta wa) (hb : SimE K tb wb) (hc : SimE K tc wc) (hr : SimR K r f) (hr' : SimR K r' f') : SimE K (tChain r r' ta tb tc) (wChain f f' wa wb wc) := by
  intro Z ρ M σ H Q Q' s h q
  refine ha Z ρ M σ H _ _ s h fun x d H1 M1 g1 r1 q1 => ?_
  refine hb Z ρ M1 σ H1 _ _ (s.go g1) q1 fun y e H2 M2 g2 r2 q2 => ?_
  refine hr Z x y d e H2 M2 _ _ g2.sat (r1.up g2.ex) r2 q2 fun z g H3 M3 g3 r3 q3 => ?_
  have g13 := (g1.trans g2).trans g3
  cases g with
  | bl k =>
    cases r3
    refine ⟨k, rfl, ?_⟩
    cases k with
    | true =>
      rw [if_pos rfl]
      refine hc Z ρ M3 σ H3 _ _ (s.go g13) q3 fun v d4 H4 M4 g4 r4 q4 => ?_
      exact hr' Z y v e d4 H4 M4 Q Q' g4.sat ((r2.up g3.ex).up g4.ex) r4 q4 fun v5 d5 H5 M5 g5 r5 q5 => q v5 d5 H5 M5 ((g13.trans g4).trans g5) r5 q5
    | false =>
      rw [if_neg Bool.false_ne_true]
      exact q _ _ H3 M3 g13 (.bl false) q3
  | _ => exact q3.elim
theorem de_chain {op op' : CmpOp} {r r' : R2} {f f' : F2} (ho : OpR X (compareOp op) r) (hs : SimR X.K r f) (ho' : OpR X (compareOp op') r') (hs' : SimR X.K r' f') (ha : DE X a ta wa) (hb : DE X b tb wb) (hc : DE X c tc wc) (hm : lastMarks [op, op'] [b, c] = false := by with_unfolding_all rfl) :
    DE X (.Compare a [op, op'] [b, c] pos) (tChain r r' ta tb tc) (wChain f f' wa wb wc) := ⟨pe_chain ho ho' ha.pe hb.pe hc.pe hm, sim_chain ha.sm hb.sm hc.sm hs hs'⟩
theorem dt_chain {op op' : CmpOp} {r r' : R2} {f f' : F2} (ho : OpR X (compareOp op) r) (hs : SimR X.K r f) (ho' : OpR X (compareOp op') r') (hs' : SimR X.K r' f') (ha : DE X a ta wa) (hb : DE X b tb wb) (hc : DE X c tc wc) (hm : lastMarks [op, op'] [b, c] = false := by with_unfolding_all rfl) :
    DT X (.Compare a [op, op'] [b, c] pos) (tTest (tChain r r' ta tb tc)) (wB (wChain f f' wa wb wc)) := ⟨pt_chain ho ho' ha.pe hb.pe hc.pe hm, sim_test (sim_chain ha.sm hb.sm hc.sm hs hs')⟩

/-! ### arithmetic -/
def fI (C : Int → Int → Prop) (g : Int → Int → D) : F2 := fun d e M Q => match d, e with
  | .int i, .int j => C i j ∧ Q (g i j) M
  | _, _ => False
def fI0 (g : Int → Int → D) : F2 := fun d e M Q => match d, e with
  | .int i, .int j => Q (g i j) M
  | _, _ => False
theorem sim_I {K : PySem.W.Frag} {C : Int → Int → Prop} {g : Int → Int → V} {g' : Int → Int → D} (h : ∀ i j H, Rep K H (g i j) (g' i j)) : SimR K (rI C g) (fI C g') := by
  intro Z x y d e H M Q Q' S r1 r2 f q
  cases d <;> cases e <;> first | exact f.elim | skip
  cases r1
  cases r2
  exact ⟨_, _, rfl, rfl, f.1, q _ _ H M (Go.refl S) (h _ _ _) f.2⟩
theorem sim_I0 {K : PySem.W.Frag} {g : Int → Int → V} {g' : Int → Int → D} (h : ∀ i j H, Rep K H (g i j) (g' i j)) : SimR K (rI0 g) (fI0 g') := by
  intro Z x y d e H M Q Q' S r1 r2 f q
  cases d <;> cases e <;> first | exact f.elim | skip
  cases r1
  cases r2
  exact ⟨_, _, rfl, rfl, q _ _ H M (Go.refl S) (h _ _ _) f⟩
def addD : F2 := fun d e M Q => match d, e with
  | .int i, .int j => Q (.int (i + j)) M
  | .str i, .str j => i.length + j.length ≤ sizeLine ∧ Q (.str (i ++ j)) M
  | .tup i, .tup j => i.length + j.length ≤ sizeLine ∧ Q (.tup (i ++ j)) M
  | d, e => ∃ i j, (∃ a, d = .tok a ∨ d = .lst i) ∧ (∃ a, e = .tok a ∨ e = .lst j) ∧ seqD M d = some i ∧ seqD M e = some j ∧ i.length + j.length ≤ sizeLine ∧ Q (.lst (i ++ j)) M
theorem lst_of {K : PySem.W.Frag} {Z : Hp} {H : Hp} {M : Mp} {v : V} {d : D} {ds : List D} (S : Sat K Z H M) (r : Rep K (fz Z H M) v d) (h : ∃ a, d = .tok a ∨ d = .lst ds) (e : seqD M d = some ds) : ∃ a vs, v = .ref a ∧ SqL K H a vs ∧ RepL K (fz Z H M) vs ds := by
  obtain ⟨a, h⟩ := h
  rcases h with rfl | rfl
  · cases r
    have e' : (match M a with | some (.lst ds) => some ds | _ => none) = some ds := e
    cases q : M a with
    | none =>
      rw [q] at e'
      cases e'
    | some c =>
      rw [q] at e'
      cases c with
      | lst es =>
        obtain rfl : es = ds := Option.some.inj e'
        obtain ⟨vs, e1, rl⟩ := S.cell a _ q
        exact ⟨_, _, rfl, .inl (.inl e1), rl⟩
      | aux => cases e'
      | drw _ => cases e'
      | ins _ _ => cases e'
  · cases r with
    | lst hs ha => exact ⟨_, _, rfl, fz_sub.seq hs, ha⟩
/-- list + list -/
def rCatL (K : PySem.W.Frag) : R2 := fun x y H Q => ∃ l b xs zs, x = .ref l ∧ y = .ref b ∧ SqL K H l xs ∧ SqL K H b zs ∧ xs.length + zs.length ≤ sizeLine ∧ ∀ p, H p = none → Q (.ref p) (upd H p (.lst (xs ++ zs)))
theorem op_catL : OpR X (binaryOp .Add) (rCatL X.K) := by
  intro pins s σ H x y v u Q I rx ry h
  obtain ⟨l, b, xs, zs, rfl, rfl, h1, h2, hz, q⟩ := h
  cases rx
  cases ry
  obtain ⟨its, rv, p1, z1⟩ := I.list h1
  obtain ⟨its2, rv2, p2, z2⟩ := I.list h2
  have l1 := rv.length
  have l2 := rv2.length
  obtain ⟨⟨cl1, dd1, da1, sl1⟩, n1, ho1, hc1, hx1, hd1⟩ := p1
  obtain ⟨⟨cl2, dd2, da2, sl2⟩, n2, ho2, hc2, hx2, hd2⟩ := p2
  simp only at hc1 hd1 hc2 hd2
  subst hc1 hd1 hc2 hd2
  have ea : its.toArray ++ its2.toArray = (its ++ its2).toArray := by simp
  refine PySem.concat_meets ⟨_, ho1, rfl⟩ ⟨_, ho2, rfl⟩ PySem.noFill_list_add PySem.seq_list_add PySem.F.slot_list_add PySem.F.entry_list_add (PySem.F.args_list_add_2 _ _) (PyProof.Rows.list_addW l b its.toArray its2.toArray n1 n2 dd1 dd2 sl1 sl2 (by rw [List.size_toArray, List.size_toArray]; omega)) ⟨ho1, ho2, ?_⟩
  rw [ea]
  exact ⟨.ref _, _, I.lnew (t' := s.toks) (rv.append rv2) (by rw [List.length_append]; omega), rfl, q _ I.fresh⟩
theorem sim_cat {K : PySem.W.Frag} {Z : Hp} : ∀ (x y : V) (d e : D) (H : Hp) (M : Mp) (Q : KD) (Q' : VK) (i j : List D), Sat K Z H M → Rep K (fz Z H M) x d → Rep K (fz Z H M) y e → (∃ a, d = .tok a ∨ d = .lst i) → (∃ a, e = .tok a ∨ e = .lst j) → seqD M d = some i → seqD M e = some j → i.length + j.length ≤ sizeLine → Q (.lst (i ++ j)) M →
    (∀ v d' H' M', Go K Z H M H' M' → Rep K (fz Z H' M') v d' → Q d' M' → Q' v H') → rCatL K x y H Q' := by
  intro x y d e H M Q Q' i j S r1 r2 h1 h2 s1 s2 l q z
  obtain ⟨p, vs, rfl, hp, rl⟩ := lst_of S r1 h1 s1
  obtain ⟨p', ws, rfl, hp', rl'⟩ := lst_of S r2 h2 s2
  refine ⟨p, p', vs, ws, rfl, rfl, hp, hp', by rw [rl.len, rl'.len]; exact l, fun o ho => ?_⟩
  obtain ⟨g, n⟩ := Go.laid (o := .lst (vs ++ ws)) S ho
  exact z _ _ _ _ g (.lst (.inl (.inl n)) ((rl.app rl').up g.ex)) q
def rAddA (K : PySem.W.Frag) : R2 := fun x y H Q => rI0 (fun i j => .int (i + j)) x y H Q ∨ (∃ i j, x = .str i ∧ y = .str j ∧ i.length + j.length ≤ sizeLine ∧ Q (.str (i ++ j)) H) ∨ rCatL K x y H Q ∨ rCatA K x y H Q
theorem op_addA : OpR X (binaryOp .Add) (rAddA X.K) := op_add.or (op_add_str.or (op_catL.or op_catA))
theorem sim_addA {K : PySem.W.Frag} : SimR K (rAddA K) addD := by
  intro Z x y d e H M Q Q' S r1 r2 f q
  have viaL : (∃ i j, (∃ a, d = .tok a ∨ d = .lst i) ∧ (∃ a, e = .tok a ∨ e = .lst j) ∧ seqD M d = some i ∧ seqD M e = some j ∧ i.length + j.length ≤ sizeLine ∧ Q (.lst (i ++ j)) M) → rAddA K x y H Q' := fun ⟨i, j, h1, h2, s1, s2, l, z⟩ =>
    .inr (.inr (.inl (sim_cat x y d e H M Q Q' i j S r1 r2 h1 h2 s1 s2 l z q)))
  unfold addD at f
  split at f
  · cases r1
    cases r2
    exact .inl ⟨_, _, rfl, rfl, q _ _ H M (Go.refl S) (.int _) f⟩
  · cases r1
    cases r2
    exact .inr (.inl ⟨_, _, rfl, rfl, f.1, q _ _ H M (Go.refl S) (.str _) f.2⟩)
  · rename_i i j
    cases r1 with
    | @tup p vs _ h1 l1 =>
      cases r2 with
      | @tup p' ws _ h2 l2 =>
        refine .inr (.inr (.inr ⟨p, p', vs, ws, rfl, rfl, sqt_mono fz_sub h1, sqt_mono fz_sub h2, by rw [l1.len, l2.len]; exact f.1, fun en => ?_, fun _ en => ?_, fun _ _ o ho => ?_⟩))
        · subst en
          cases l1
          exact q _ _ H M (Go.refl S) (.tup h2 l2) f.2
        · subst en
          cases l2
          have z := f.2
          rw [List.append_nil] at z
          exact q _ _ H M (Go.refl S) (.tup h1 l1) z
        · obtain ⟨g, n⟩ := Go.laid (o := .tup (vs ++ ws)) S ho
          exact q _ _ _ _ g (.tup (.inl (.inl n)) ((l1.app l2).up g.ex)) f.2
  · exact viaL f
theorem de_add (ha : DE X a ta wa) (hb : DE X b tb wb) : DE X (.BinOp a .Add b pos) (tOp (rAddA X.K) ta tb) (wOp addD wa wb) := de_op op_addA sim_addA ha hb
theorem de_sub (ha : DE X a ta wa) (hb : DE X b tb wb) : DE X (.BinOp a .Sub b pos) (tOp (rI0 fun i j => .int (i - j)) ta tb) (wOp (fI0 fun i j => .int (i - j)) wa wb) := de_op op_sub (sim_I0 fun _ _ _ => .int _) ha hb
/-- products: one is not too great, or both together -/
def CM (i j : Int) : Prop := CMul i j ∨ CMulW i j
theorem op_mulM {X : Cx} : OpR X (binaryOp .Mult) (rI CM fun i j => .int (i * j)) := fun pins s σ H x y v u Q I r1 r2 ⟨i, j, e1, e2, c, q⟩ => c.elim (fun c => op_mul pins s σ H x y v u Q I r1 r2 ⟨i, j, e1, e2, c, q⟩) fun c => op_mulW pins s σ H x y v u Q I r1 r2 ⟨i, j, e1, e2, c, q⟩
theorem de_mul (ha : DE X a ta wa) (hb : DE X b tb wb) : DE X (.BinOp a .Mult b pos) (tOp (rI CM fun i j => .int (i * j)) ta tb) (wOp (fI CM fun i j => .int (i * j)) wa wb) := de_op op_mulM (sim_I fun _ _ _ => .int _) ha hb
theorem de_fdiv (ha : DE X a ta wa) (hb : DE X b tb wb) : DE X (.BinOp a .FloorDiv b pos) (tOp (rI CDivW fun i j => .int (i / j)) ta tb) (wOp (fI CDivW fun i j => .int (i / j)) wa wb) := de_op op_fdivW (sim_I fun _ _ _ => .int _) ha hb
theorem de_mod (ha : DE X a ta wa) (hb : DE X b tb wb) : DE X (.BinOp a .Mod b pos) (tOp (rI (fun _ j => 0 < j) fun i j => .int (i % j)) ta tb) (wOp (fI (fun _ j => 0 < j) fun i j => .int (i % j)) wa wb) := de_op op_mod (sim_I fun _ _ _ => .int _) ha hb
theorem de_pow (ha : DE X a ta wa) (hb : DE X b tb wb) : DE X (.BinOp a .Pow b pos) (tOp (rI CPow fun i j => .int (i ^ j.toNat)) ta tb) (wOp (fI CPow fun i j => .int (i ^ j.toNat)) wa wb) := de_op op_pow (sim_I fun _ _ _ => .int _) ha hb
def wNeg (wa : WE) : WE := fun ρ M Q => wa ρ M fun d M1 => match d with
  | .int i => Q (.int (-i)) M1
  | _ => False
theorem de_neg (ha : DE X a ta wa) : DE X (.UnaryOp .USub a pos) (tUn (rU fun i => .int (-i)) ta) (wNeg wa) := by
  refine ⟨pe_un un_neg ha.pe, fun Z ρ M σ H Q Q' s h q => ?_⟩
  refine ha.sm Z ρ M σ H _ _ s h fun x d H1 M1 g1 r1 q1 => ?_
  cases d with
  | int i =>
    cases r1
    exact ⟨i, rfl, q _ _ H1 M1 g1 (.int _) q1⟩
  | _ => exact q1.elim

/-! ### comparisons -/
def eqD2 (neg : Bool) : F2 := fun d e M Q => (∃ n, n ≤ 60 ∧ fit n (res M d) ∧ fit n (res M e)) ∧ Q (.bl (if neg then !eqD (res M d) (res M e) else eqD (res M d) (res M e))) M
theorem sim_eq {K : PySem.W.Frag} : SimR K (rEqD K) (eqD2 false) := by
  intro Z x y d e H M Q Q' S r1 r2 ⟨⟨n, hn, f1, f2⟩, f⟩ q
  exact ⟨_, _, Rep.dp n _ _ f1 (res_rep S r1), Rep.dp n _ _ f2 (res_rep S r2), fit_shaped f1 (by omega), fit_shaped f2 (by omega), q _ _ H M (Go.refl S) (.bl _) f⟩
theorem sim_ne {K : PySem.W.Frag} : SimR K (rNeD K) (eqD2 true) := by
  intro Z x y d e H M Q Q' S r1 r2 ⟨⟨n, hn, f1, f2⟩, f⟩ q
  exact ⟨_, _, Rep.dp n _ _ f1 (res_rep S r1), Rep.dp n _ _ f2 (res_rep S r2), fit_shaped f1 (by omega), fit_shaped f2 (by omega), q _ _ H M (Go.refl S) (.bl _) f⟩
theorem op_eqG (hr : Room k X.A) : OpR X (compareOp .Eq) (rEqD X.K) := op_eqD hr.units
theorem op_neG (hr : Room k X.A) : OpR X (compareOp .NotEq) (rNeD X.K) := op_neD hr.units
abbrev fLt : F2 := fI0 fun i j => .bl (decide (i < j))
abbrev fLe : F2 := fI0 fun i j => .bl (decide (i ≤ j))
abbrev fGt : F2 := fI0 fun i j => .bl (decide (j < i))
abbrev fGe : F2 := fI0 fun i j => .bl (decide (j ≤ i))
theorem sim_lt {K : PySem.W.Frag} : SimR K (rI0 fun i j => .bl (decide (i < j))) fLt := sim_I0 fun _ _ _ => .bl _
theorem sim_le {K : PySem.W.Frag} : SimR K (rI0 fun i j => .bl (decide (i ≤ j))) fLe := sim_I0 fun _ _ _ => .bl _
theorem sim_gt {K : PySem.W.Frag} : SimR K (rI0 fun i j => .bl (decide (j < i))) fGt := sim_I0 fun _ _ _ => .bl _
theorem sim_ge {K : PySem.W.Frag} : SimR K (rI0 fun i j => .bl (decide (j ≤ i))) fGe := sim_I0 fun _ _ _ => .bl _
def fIsN (neg : Bool) : F2 := fun d e M Q => match d, e with
  | .non, .non => Q (.bl (!neg)) M
  | _, .non => Q (.bl neg) M
  | _, _ => False
theorem rep_non {K : PySem.W.Frag} {H : Hp} {x : V} {d : D} (r : Rep K H x d) (h : d ≠ .non) : x ≠ .non := fun z => by
  subst z
  cases r
  exact h rfl
theorem sim_isN {K : PySem.W.Frag} : SimR K (fun x y H Q => y = .non ∧ Q (.bl (decide (x = .non))) H) (fIsN false) := by
  intro Z x y d e H M Q Q' S r1 r2 f q
  unfold fIsN at f
  split at f
  · cases r1
    cases r2
    exact ⟨rfl, q _ _ H M (Go.refl S) (.bl _) f⟩
  · rename_i h
    cases r2
    rw [decide_eq_false (rep_non r1 h)]
    exact ⟨rfl, q _ _ H M (Go.refl S) (.bl _) f⟩
  · exact f.elim
theorem sim_notN {K : PySem.W.Frag} : SimR K (fun x y H Q => y = .non ∧ Q (.bl (!decide (x = .non))) H) (fIsN true) := by
  intro Z x y d e H M Q Q' S r1 r2 f q
  unfold fIsN at f
  split at f
  · cases r1
    cases r2
    exact ⟨rfl, q _ _ H M (Go.refl S) (.bl _) f⟩
  · rename_i h
    cases r2
    rw [decide_eq_false (rep_non r1 h)]
    exact ⟨rfl, q _ _ H M (Go.refl S) (.bl _) f⟩
  · exact f.elim

/-! ### tests -/
/-- a bool's own value as a test: a name, a call, a subscript .. -/
theorem dt_val (h : DE X e t w) (he : ∀ whole, isTrue e X.env whole = (do let v ← whole; standAt e.pos; holding [v] (truthy v)) := by intro _; rfl) : DT X e (tB t) (wB w) := ⟨pt_val h.pe he, sim_test h.sm⟩
def wNot (w : WT) : WT := fun ρ M Q => w ρ M fun b M1 => Q (!b) M1
def wAnd (w u : WT) : WT := fun ρ M Q => w ρ M fun b M1 => if b = true then u ρ M1 Q else Q false M1
def wOr (w u : WT) : WT := fun ρ M Q => w ρ M fun b M1 => if b = true then Q true M1 else u ρ M1 Q
variable {tA tB' : TT} {wA wB' : WT} {rest : List Expr}
theorem dt_not (ha : DT X a tA wA) : DT X (.UnaryOp .Not a pos) (tNot tA) (wNot wA) := ⟨pt_not ha.pe, fun Z ρ M σ H Q Q' s h q => ha.sm Z ρ M σ H _ _ s h fun b H1 M1 g z => q _ H1 M1 g z⟩
theorem sim_and {K : PySem.W.Frag} (ha : SimT K tA wA) (hb : SimT K tB' wB') : SimT K (tAnd tA tB') (wAnd wA wB') := by
  intro Z ρ M σ H Q Q' s h q
  refine ha Z ρ M σ H _ _ s h fun b H1 M1 g z => ?_
  cases b with
  | true => exact hb Z ρ M1 σ H1 _ _ (s.go g) z fun b' H2 M2 g2 z2 => q b' H2 M2 (g.trans g2) z2
  | false => exact q _ H1 M1 g z
theorem sim_or {K : PySem.W.Frag} (ha : SimT K tA wA) (hb : SimT K tB' wB') : SimT K (tOr tA tB') (wOr wA wB') := by
  intro Z ρ M σ H Q Q' s h q
  refine ha Z ρ M σ H _ _ s h fun b H1 M1 g z => ?_
  cases b with
  | false => exact hb Z ρ M1 σ H1 _ _ (s.go g) z fun b' H2 M2 g2 z2 => q b' H2 M2 (g.trans g2) z2
  | true => exact q _ H1 M1 g z
theorem dw_and1 (ha : DT X a tA wA) : DW X (.BoolOp .And [a] pos) tA wA := ⟨pw_and1 ha.pe, ha.sm⟩
theorem dw_or1 (ha : DT X a tA wA) : DW X (.BoolOp .Or [a] pos) tA wA := ⟨pw_or1 ha.pe, ha.sm⟩
theorem dw_and (ha : DT X a tA wA) (hb : DW X (.BoolOp .And (b :: rest) pos) tB' wB') : DW X (.BoolOp .And (a :: b :: rest) pos) (tAnd tA tB') (wAnd wA wB') := ⟨pw_and ha.pe hb.pe, sim_and ha.sm hb.sm⟩
theorem dw_or (ha : DT X a tA wA) (hb : DW X (.BoolOp .Or (b :: rest) pos) tB' wB') : DW X (.BoolOp .Or (a :: b :: rest) pos) (tOr tA tB') (wOr wA wB') := ⟨pw_or ha.pe hb.pe, sim_or ha.sm hb.sm⟩
theorem DW.dt {t : TT} {w : WT} (h : DW X e t w) : DT X e t w := ⟨h.pe.pt, h.sm⟩
/-! .. as values -/
def wAndV (wa wb : WE) : WE := fun ρ M Q => wa ρ M fun d M1 => match d with
  | .bl true => wb ρ M1 Q
  | .bl false => Q (.bl false) M1
  | _ => False
def wOrV (wa wb : WE) : WE := fun ρ M Q => wa ρ M fun d M1 => match d with
  | .bl false => wb ρ M1 Q
  | .bl true => Q (.bl true) M1
  | _ => False
def wNotV (wa : WE) : WE := fun ρ M Q => wa ρ M fun d M1 => match d with
  | .bl b => Q (.bl (!b)) M1
  | _ => False
theorem de_one {op} (h : DE X a t w) : DE X (.BoolOp op [a] pos) t w := ⟨pe_one h.pe, h.sm⟩
theorem de_and (ha : DE X a ta wa) (hb : DE X (.BoolOp .And (b :: rest) pos) tb wb) : DE X (.BoolOp .And (a :: b :: rest) pos) (tAndV ta tb) (wAndV wa wb) := by
  refine ⟨pe_and ha.pe hb.pe, fun Z ρ M σ H Q Q' s h q => ?_⟩
  refine ha.sm Z ρ M σ H _ _ s h fun x d H1 M1 g1 r1 q1 => ?_
  cases d with
  | bl y =>
    cases r1
    cases y with
    | true => exact ⟨true, rfl, hb.sm Z ρ M1 σ H1 _ _ (s.go g1) q1 fun v d2 H2 M2 g2 r2 q2 => q v d2 H2 M2 (g1.trans g2) r2 q2⟩
    | false => exact ⟨false, rfl, q _ _ H1 M1 g1 (.bl _) q1⟩
  | _ => exact q1.elim
theorem de_or (ha : DE X a ta wa) (hb : DE X (.BoolOp .Or (b :: rest) pos) tb wb) : DE X (.BoolOp .Or (a :: b :: rest) pos) (tOrV ta tb) (wOrV wa wb) := by
  refine ⟨pe_or ha.pe hb.pe, fun Z ρ M σ H Q Q' s h q => ?_⟩
  refine ha.sm Z ρ M σ H _ _ s h fun x d H1 M1 g1 r1 q1 => ?_
  cases d with
  | bl y =>
    cases r1
    cases y with
    | false => exact ⟨false, rfl, hb.sm Z ρ M1 σ H1 _ _ (s.go g1) q1 fun v d2 H2 M2 g2 r2 q2 => q v d2 H2 M2 (g1.trans g2) r2 q2⟩
    | true => exact ⟨true, rfl, q _ _ H1 M1 g1 (.bl _) q1⟩
  | _ => exact q1.elim
theorem de_not (ha : DE X a ta wa) : DE X (.UnaryOp .Not a pos) (tNotV ta) (wNotV wa) := by
  refine ⟨pe_not ha.pe, fun Z ρ M σ H Q Q' s h q => ?_⟩
  refine ha.sm Z ρ M σ H _ _ s h fun x d H1 M1 g1 r1 q1 => ?_
  cases d with
  | bl y =>
    cases r1
    exact ⟨y, rfl, q _ _ H1 M1 g1 (.bl _) q1⟩
  | _ => exact q1.elim
def wIf (c : WT) (wa wb : WE) : WE := fun ρ M Q => c ρ M fun b M1 => if b = true then wa ρ M1 Q else wb ρ M1 Q
theorem de_if {c : Expr} (hc : DT X c tA wA) (ha : DE X a ta wa) (hb : DE X b tb wb) : DE X (.IfExp c a b pos) (tIf tA ta tb) (wIf wA wa wb) := by
  refine ⟨pe_ifExp hc.pe ha.pe hb.pe, fun Z ρ M σ H Q Q' s h q => ?_⟩
  refine hc.sm Z ρ M σ H _ _ s h fun y H1 M1 g1 q1 => ?_
  cases y with
  | true => exact ha.sm Z ρ M1 σ H1 _ _ (s.go g1) q1 fun v d2 H2 M2 g2 r2 q2 => q v d2 H2 M2 (g1.trans g2) r2 q2
  | false => exact hb.sm Z ρ M1 σ H1 _ _ (s.go g1) q1 fun v d2 H2 M2 g2 r2 q2 => q v d2 H2 M2 (g1.trans g2) r2 q2

/-! ### arguments, displays, calls -/
def wNil : WA := fun _ M Q => Q [] M
def wCons (w : WE) (r : WA) : WA := fun ρ M Q => w ρ M fun d M1 => r ρ M1 fun ds M2 => Q (d :: ds) M2
variable {tr : TA} {wr : WA}
theorem sim_nil {K : PySem.W.Frag} : SimA K tNil wNil := fun Z ρ M σ H Q Q' s h q => q [] [] H M s.refl .nil h
theorem sim_cons {K : PySem.W.Frag} (ha : SimE K te we) (hr : SimA K tr wr) : SimA K (tCons te tr) (wCons we wr) := by
  intro Z ρ M σ H Q Q' s h q
  refine ha Z ρ M σ H _ _ s h fun x d H1 M1 g1 r1 q1 => ?_
  refine hr Z ρ M1 σ H1 _ _ (s.go g1) q1 fun xs ds H2 M2 g2 r2 q2 => ?_
  exact q (x :: xs) (d :: ds) H2 M2 (g1.trans g2) (.cons (r1.up g2.ex) r2) q2
theorem da_nil : DA X [] tNil wNil := ⟨pa_nil, sim_nil⟩
theorem da_cons (ha : DE X e te we) (hr : DA X es tr wr) (hs : starEach (e :: es) X.env = (false, eval e X.env) :: starEach es X.env := by rfl) : DA X (e :: es) (tCons te tr) (wCons we wr) := ⟨pa_cons ha.pe hr.pe hs, sim_cons ha.sm hr.sm⟩
def wTup (r : WA) : WE := fun ρ M Q => r ρ M fun ds M1 => ds.length ≤ sizeLine ∧ Q (.tup ds) M1
def wLst (r : WA) : WE := fun ρ M Q => r ρ M fun ds M1 => ds.length ≤ sizeLine ∧ Q (.lst ds) M1
theorem de_tup {x1} (h : DA X es tr wr) : DE X (.Tuple es x1 pos) (tTup tr) (wTup wr) := by
  refine ⟨pe_tup h.pe, fun Z ρ M σ H Q Q' s hh q => ?_⟩
  refine h.sm Z ρ M σ H _ _ s hh fun xs ds H1 M1 g1 r1 ⟨l, q1⟩ => ⟨by rw [r1.len]; exact l, fun p hp => ?_⟩
  obtain ⟨g, n⟩ := Go.laid (o := .tup xs) g1.sat hp
  exact q _ _ _ _ (g1.trans g) (.tup (.inl (.inl n)) (r1.up g.ex)) q1
theorem de_lst (h : DA X es tr wr) : DE X (.List es pos) (tLst tr) (wLst wr) := by
  refine ⟨pe_lst h.pe, fun Z ρ M σ H Q Q' s hh q => ?_⟩
  refine h.sm Z ρ M σ H _ _ s hh fun xs ds H1 M1 g1 r1 ⟨l, q1⟩ => ⟨by rw [r1.len]; exact l, fun p hp => ?_⟩
  obtain ⟨g, n⟩ := Go.laid (o := .lst xs) g1.sat hp
  exact q _ _ _ _ (g1.trans g) (.lst (.inl (.inl n)) (r1.up g.ex)) q1
/-- a list that is to change -/
def wLstM (r : WA) : WE := fun ρ M Q => r ρ M fun ds M1 => ds.length ≤ sizeLine ∧ ∀ p, M1 p = none → Q (.tok p) (setM M1 p (.lst ds))
theorem de_lstM (h : DA X es tr wr) : DE X (.List es pos) (tLst tr) (wLstM wr) := by
  refine ⟨pe_lst h.pe, fun Z ρ M σ H Q Q' s hh q => ?_⟩
  refine h.sm Z ρ M σ H _ _ s hh fun xs ds H1 M1 g1 r1 ⟨l, q1⟩ => ⟨by rw [r1.len]; exact l, fun p hp => ?_⟩
  exact q _ _ _ _ (g1.trans (Go.putL g1.sat (.inl hp) r1)) (.tok p) (q1 p (g1.sat.free hp))
/-- f(e, ..) by its contract -/
def wCall (F : Fs) (r : WA) : WE := fun ρ M Q => r ρ M fun ds M1 => F ds M1 Q fun _ _ _ => False
theorem sim_call {K : PySem.W.Frag} {F : Fs} (ha : SimA K tr wr) : SimE K (tCallG (lift K F) [] E0 tr) (wCall F wr) := by
  intro Z ρ M σ H Q Q' s h q
  refine ha Z ρ M σ H _ _ s h fun xs ds H1 M1 g1 r1 q1 => ?_
  show lift K F (xs ++ []) H1 Q' E0
  rw [List.append_nil]
  exact ⟨Z, ds, M1, Q, _, g1.sat, r1, q1, fun v d H2 M2 g2 r2 q2 => q v d H2 M2 (g1.trans g2) r2 q2, fun _ _ _ _ _ _ _ _ _ z => z.elim⟩
variable {f : Addr} {fd : FuncData} {ps : List Str} {F : Fs} {x : Str} {p : Pos}
theorem de_call (G : FnG X.prog X.w X.K X.mg X.base k f fd ps (lift X.K F)) (hr : Room k X.A) (gd : X.A.guards = some []) (hm : X.mg x = some (.ref f)) (hk : PySem.W.keepIn X.K (.ref f) = true) (hb : Binds X.K fd ps [])
    (ha : DA X (e :: es) tr wr) (hg : Gl X x := by rfl) (hdb : (x == ("__debug__" : Str)) = false := by decide) (he : starEach (e :: es) X.env = (false, eval e X.env) :: starEach es X.env := by rfl) (hpl : (backTo pos (starEach es X.env)).any (·.1) = false := by rfl) :
    DE X (.Call (.Name x p) (e :: es) [] pos) (tCallG (lift X.K F) [] E0 tr) (wCall F wr) := ⟨pe_callG G hr gd hg hm hk hb .nil passL ha.pe hdb he hpl, sim_call ha.sm⟩
theorem de_call0 (G : FnG X.prog X.w X.K X.mg X.base k f fd ps (lift X.K F)) (hr : Room k X.A) (gd : X.A.guards = some []) (hm : X.mg x = some (.ref f)) (hk : PySem.W.keepIn X.K (.ref f) = true) (hb : Binds X.K fd ps [])
    (hg : Gl X x := by rfl) (hdb : (x == ("__debug__" : Str)) = false := by decide) : DE X (.Call (.Name x p) [] [] pos) (tCallG (lift X.K F) [] E0 tNil) (wCall F wNil) := ⟨pe_callG0 G hr gd hg hm hk hb .nil passL hdb, sim_call sim_nil⟩
end
end L3
namespace L3
open PySem L2
section
variable {X : Cx} {E : XK} {e a b c : Expr} {es : List Expr} {t ta tb tc te : TE} {w wa wb wc we : WE} {pos : Pos} {k : Nat} {tr : TA} {wr : WA}
/-! ### keywords -/
structure DK (X : Cx) (kws : List Keyword) (t : TA) (w : WA) : Prop where
  pe : PK X kws t
  sm : SimA X.K t w
variable {nm : Option Str} {kpos : Pos} {kws : List Keyword} {tk : TA} {wk : WA}
theorem dk_nil : DK X [] tNil wNil := ⟨pk_nil, sim_nil⟩
theorem dk_cons (ha : DE X e te we) (hr : DK X kws tk wk) : DK X (⟨nm, e, kpos⟩ :: kws) (tCons te tk) (wCons we wk) := ⟨pk_cons ha.pe hr.pe, sim_cons ha.sm hr.sm⟩
def permD (idx : List Nat) (ds es : List D) : List D := idx.map fun i => (ds ++ es).getD i .non
theorem rep_getD {K : PySem.W.Frag} {H : Hp} : ∀ {vs : List V} {ds : List D} (i : Nat), RepL K H vs ds → Rep K H (vs.getD i .non) (ds.getD i .non)
  | _, _, _, .nil => .non
  | _, _, 0, .cons r _ => r
  | _, _, i + 1, .cons _ q => rep_getD i q
theorem perm_repL {K : PySem.W.Frag} {H : Hp} (idx : List Nat) {vs zs : List V} {ds es : List D} (r : RepL K H vs ds) (q : RepL K H zs es) : RepL K H (perm idx vs zs) (permD idx ds es) := by
  have ra := r.app q
  unfold perm permD
  induction idx with
  | nil => exact .nil
  | cons i is ih => exact .cons (rep_getD i ra) ih
def wCallK (n m : Nat) (idx : List Nat) (F : Fs) (r rk : WA) : WE := fun ρ M Q => r ρ M fun ds M1 => rk ρ M1 fun es M2 => ds.length = n ∧ es.length = m ∧ F (permD idx ds es) M2 Q fun _ _ _ => False
theorem sim_callK {K : PySem.W.Frag} {F : Fs} {n m : Nat} {idx : List Nat} (ha : SimA K tr wr) (hk : SimA K tk wk) : SimE K (tCallGK n m idx (lift K F) E0 tr tk) (wCallK n m idx F wr wk) := by
  intro Z ρ M σ H Q Q' s h q
  refine ha Z ρ M σ H _ _ s h fun xs ds H1 M1 g1 r1 q1 => ?_
  refine hk Z ρ M1 σ H1 _ _ (s.go g1) q1 fun ys es H2 M2 g2 r2 ⟨l1, l2, q2⟩ => ⟨by rw [r1.len]; exact l1, by rw [r2.len]; exact l2, ?_⟩
  exact ⟨Z, _, M2, Q, _, g2.sat, perm_repL idx (r1.up g2.ex) r2, q2, fun v d H3 M3 g3 r3 q3 => q v d H3 M3 ((g1.trans g2).trans g3) r3 q3, fun _ _ _ _ _ _ _ _ _ z => z.elim⟩
variable {f : Addr} {fd : FuncData} {ps : List Str} {F : Fs} {x : Str} {p : Pos}
theorem de_callK {n : Nat} {ks : List Str} {idx : List Nat} (G : FnG X.prog X.w X.K X.mg X.base k f fd ps (lift X.K F)) (hr : Room k X.A) (gd : X.A.guards = some []) (hm : X.mg x = some (.ref f)) (hk : PySem.W.keepIn X.K (.ref f) = true) (hb : KB X.K fd ps n ks idx)
    (ha : DA X (e :: es) tr wr) (hkw : DK X kws tk wk) (hg : Gl X x := by rfl) (hall : (backToKw pos (keywordEach kws X.env)).all (·.1.isSome) = true := by rfl) (hks : (backToKw pos (keywordEach kws X.env)).filterMap (·.1) = ks := by rfl)
    (hdb : (x == ("__debug__" : Str)) = false := by decide) (he : starEach (e :: es) X.env = (false, eval e X.env) :: starEach es X.env := by rfl)
    (hpl : ((backTo pos (starEach (e :: es) X.env)).any (·.1) || (backToKw pos (keywordEach kws X.env)).any (·.1.isNone)) = false := by rfl) :
    DE X (.Call (.Name x p) (e :: es) kws pos) (tCallGK n ks.length idx (lift X.K F) E0 tr tk) (wCallK n ks.length idx F wr wk) := ⟨pe_callGK G hr gd hg hm hk hb passL ha.pe hkw.pe hall hks hdb he hpl, sim_callK ha.sm hkw.sm⟩
theorem de_callK0 {ks : List Str} {idx : List Nat} (G : FnG X.prog X.w X.K X.mg X.base k f fd ps (lift X.K F)) (hr : Room k X.A) (gd : X.A.guards = some []) (hm : X.mg x = some (.ref f)) (hk : PySem.W.keepIn X.K (.ref f) = true) (hb : KB X.K fd ps 0 ks idx)
    (hkw : DK X kws tk wk) (hg : Gl X x := by rfl) (hall : (backToKw pos (keywordEach kws X.env)).all (·.1.isSome) = true := by rfl) (hks : (backToKw pos (keywordEach kws X.env)).filterMap (·.1) = ks := by rfl)
    (hdb : (x == ("__debug__" : Str)) = false := by decide)
    (hpl : ((backTo pos (starEach [] X.env)).any (·.1) || (backToKw pos (keywordEach kws X.env)).any (·.1.isNone)) = false := by rfl) :
    DE X (.Call (.Name x p) [] kws pos) (tCallGK 0 ks.length idx (lift X.K F) E0 tNil tk) (wCallK 0 ks.length idx F wNil wk) := ⟨pe_callGK0 G hr gd hg hm hk hb passL hkw.pe hall hks hdb hpl, sim_callK sim_nil hkw.sm⟩

/-! ### places of lists, tuples, texts -/
def ixD : F2 := fun d e M Q => match d, e with
  | .str z, .int i => z.length ≤ sizeLine ∧ ∃ c, atI z.cps.toList i = some c ∧ Q (.str ⟨#[c]⟩) M
  | d, .int i => ∃ ds x, seqD M d = some ds ∧ atI ds i = some x ∧ Q x M
  | _, _ => False
theorem atI_len {α β : Type} {xs : List α} {ys : List β} {i : Int} {x : α} (h : atI xs i = some x) (l : xs.length = ys.length) : ∃ (y : β) (j : Nat), atI ys i = some y ∧ ys[j]? = some y ∧ xs[j]? = some x := by
  unfold atI at h ⊢
  rw [l] at h
  cases q : ixN ys.length i with
  | none =>
    rw [q] at h
    cases h
  | some j =>
    rw [q] at h
    have h' : xs[j]? = some x := h
    have hj : j < ys.length := by
      rw [← l]
      exact (List.getElem?_eq_some_iff.mp h').1
    exact ⟨ys[j], j, List.getElem?_eq_getElem hj, List.getElem?_eq_getElem hj, h'⟩
theorem sim_ix {K : PySem.W.Frag} : SimR K (rIx K) ixD := by
  intro Z x y d e H M Q Q' S r1 r2 f q
  unfold ixD at f
  split at f
  · cases r1
    cases r2
    obtain ⟨l, c, ha, z⟩ := f
    exact .inr (.inr ⟨_, _, c, rfl, rfl, l, ha, q _ _ H M (Go.refl S) (.str _) z⟩)
  · cases r2
    obtain ⟨ds, x', hs, ha, z⟩ := f
    obtain ⟨a, vs, rfl, hv, rl⟩ := seq_of S r1 hs
    obtain ⟨v, j, a1, a2, a3⟩ := atI_len ha rl.len.symm
    obtain ⟨v', b1, b2⟩ := rl.get a3
    rw [a2] at b1
    cases b1
    rcases hv with hv | hv
    · exact .inl ⟨a, vs, _, v, rfl, rfl, hv, a1, q _ _ H M (Go.refl S) b2 z⟩
    · exact .inr (.inl ⟨a, vs, _, v, rfl, rfl, hv, a1, q _ _ H M (Go.refl S) b2 z⟩)
  · exact f.elim
theorem de_ix (ha : DE X a ta wa) (hb : DE X b tb wb) (hs : PlainIx b := by intro _ _; rfl) : DE X (.Subscript a b pos) (tOp (rIx X.K) ta tb) (wOp ixD wa wb) := ⟨pe_ix ix_seq ha.pe hb.pe hs, sim_op ha.sm hb.sm sim_ix⟩

/-! ### slices -/
abbrev WO := En → Mp → (Option Int → Mp → Prop) → Prop
def SimO (K : PySem.W.Frag) (t : TO) (w : WO) : Prop := ∀ (Z : Hp) (ρ : En) (M : Mp) (σ : L2.St) (H : Hp) (Q : Option Int → Mp → Prop) (Q' : Option Int → Hp → Prop), R3 K Z ρ M σ H → w ρ M Q → (∀ b H' M', Go K Z H M H' M' → Q b M' → Q' b H') → t σ H Q'
structure DO (X : Cx) (e : Option Expr) (t : TO) (w : WO) : Prop where
  pe : PO X e t
  sm : SimO X.K t w
def wNoP : WO := fun _ M Q => Q none M
def wPart (w : WE) : WO := fun ρ M Q => w ρ M fun d M1 => match d with
  | .int i => Q (some i) M1
  | _ => False
theorem do_none : DO X none tNoPart wNoP := ⟨po_none, fun Z ρ M σ H Q Q' s h q => q _ H M s.refl h⟩
theorem do_some (h : DE X e te we) : DO X (some e) (tPart te) (wPart we) := by
  refine ⟨po_some h.pe, fun Z ρ M σ H Q Q' s hh q => ?_⟩
  refine h.sm Z ρ M σ H _ _ s hh fun x d H1 M1 g1 r1 q1 => ?_
  cases d with
  | int i =>
    cases r1
    exact ⟨i, rfl, q _ H1 M1 g1 q1⟩
  | _ => exact q1.elim
def cutD (xs : List D) (lo hi : Option Int) : List D := (xs.drop (HT.sIx xs.length 0 lo)).take (HT.sIx xs.length xs.length hi - HT.sIx xs.length 0 lo)
theorem cut_rep {K : PySem.W.Frag} {H : Hp} {vs : List V} {ds : List D} (r : RepL K H vs ds) (lo hi : Option Int) : RepL K H (cutV vs lo hi) (cutD ds lo hi) := by
  unfold cutV cutD
  rw [r.len]
  exact (r.drop _).take _
def slD : D → Option Int → Option Int → Mp → KD → Prop := fun d lo hi M Q => match d with
  | .tup ds => Q (.tup (cutD ds lo hi)) M
  | .str z => z.length ≤ sizeLine ∧ Q (.str (cutS z lo hi)) M
  | d => ∃ ds, (∃ a, d = .tok a ∨ d = .lst ds) ∧ seqD M d = some ds ∧ Q (.lst (cutD ds lo hi)) M
def rSlU (K : PySem.W.Frag) : V → Option Int → Option Int → Hp → VK → Prop := fun x lo hi H Q => rSlL K x lo hi H Q ∨ rSlA K x lo hi H Q ∨ rSlS x lo hi H Q
theorem sl_any : SlR X (rSlU X.K) := sl_list.or (sl_tupA.or sl_str)
def wSl (w : WE) (wl wh : WO) : WE := fun ρ M Q => w ρ M fun d M1 => wl ρ M1 fun l M2 => wh ρ M2 fun u M3 => slD d l u M3 Q
theorem sim_sl {K : PySem.W.Frag} {tl th : TO} {wl wh : WO} (h : SimE K te we) (hl : SimO K tl wl) (hh : SimO K th wh) : SimE K (tSl (rSlU K) te tl th) (wSl we wl wh) := by
  intro Z ρ M σ H Q Q' s hw q
  refine h Z ρ M σ H _ _ s hw fun x d H1 M1 g1 r1 q1 => ?_
  refine hl Z ρ M1 σ H1 _ _ (s.go g1) q1 fun lo H2 M2 g2 q2 => ?_
  refine hh Z ρ M2 σ H2 _ _ (s.go (g1.trans g2)) q2 fun hi H3 M3 g3 q3 => ?_
  have g := (g1.trans g2).trans g3
  have r3 := (r1.up g2.ex).up g3.ex
  unfold slD at q3
  split at q3
  · rename_i ds
    cases r3 with
    | @tup a vs _ hs rl =>
      refine .inr (.inl ⟨a, vs, rfl, sqt_mono fz_sub hs, fun ⟨e1, e2⟩ => ?_, fun _ p hp => ?_⟩)
      · have e : cutD ds lo hi = ds := by
          unfold cutD
          rw [← rl.len, e1, e2, Nat.sub_zero, List.drop_zero, rl.len, List.take_length]
        rw [e] at q3
        exact q _ _ H3 M3 g (.tup hs rl) q3
      · obtain ⟨g4, n⟩ := Go.laid (o := .tup (cutV vs lo hi)) g3.sat hp
        exact q _ _ _ _ (g.trans g4) (.tup (.inl (.inl n)) ((cut_rep rl lo hi).up g4.ex)) q3
  · rename_i z
    cases r3
    exact .inr (.inr ⟨z, rfl, q3.1, q _ _ H3 M3 g (.str _) q3.2⟩)
  · obtain ⟨ds, hd, hs, z⟩ := q3
    obtain ⟨a, vs, rfl, ha, rl⟩ := lst_of g3.sat r3 hd hs
    refine .inl ⟨a, vs, rfl, ha, fun p hp => ?_⟩
    obtain ⟨g4, n⟩ := Go.laid (o := .lst (cutV vs lo hi)) g3.sat hp
    exact q _ _ _ _ (g.trans g4) (.lst (.inl (.inl n)) ((cut_rep rl lo hi).up g4.ex)) z
theorem de_slice {lo hi : Option Expr} {tl th : TO} {wl wh : WO} {p2 : Pos} (he : DE X e te we) (hl : DO X lo tl wl) (hu : DO X hi th wh) : DE X (.Subscript e (.Slice lo hi none p2) pos) (tSl (rSlU X.K) te tl th) (wSl we wl wh) := ⟨pe_slice sl_any he.pe hl.pe hu.pe, sim_sl he.sm hl.sm hu.sm⟩
end
end L3
namespace L3
open PySem L2
section
variable {X : Cx} {E : XK} {e a b c : Expr} {es : List Expr} {t ta tb tc te : TE} {w wa wb wc we : WE} {pos : Pos} {k : Nat} {tr : TA} {wr : WA} {st : Stmt} {rest : List Stmt} {ts tu : TS} {ws wu : WS} {tA : TT} {wA : WT}
/-! ### truth of any value -/
def truD : D → Mp → Option Bool
  | .non, _ => some false
  | .bl b, _ => some b
  | .int i, _ => some (i != 0)
  | .str x, _ => if x.length ≤ sizeLine then some ((x.length : Int) != 0) else none
  | .tup ds, _ => some (!ds.isEmpty)
  | .lst ds, _ => some (!ds.isEmpty)
  | .tok a, M => match M a with
    | some (.lst ds) => some (!ds.isEmpty)
    | _ => none
  | .ty _, _ => none
def wTru (w : WE) : WT := fun ρ M Q => w ρ M fun d M1 => match truD d M1 with
  | some b => Q b M1
  | none => False
theorem rep_empty {K : PySem.W.Frag} {H : Hp} {vs : List V} {ds : List D} (r : RepL K H vs ds) : vs.isEmpty = ds.isEmpty := by
  cases r <;> rfl
theorem tru_of {K : PySem.W.Frag} {Z H : Hp} {M : Mp} {v : V} : ∀ {d : D} {b : Bool}, Sat K Z H M → Rep K (fz Z H M) v d → truD d M = some b → TruV K v H b
  | .non, b, _, r, e => by cases r; cases e; rfl
  | .bl x, b, _, r, e => by cases r; cases e; rfl
  | .int i, b, _, r, e => by cases r; cases e; rfl
  | .str x, b, _, r, e => by
    cases r
    have e' : (if x.length ≤ sizeLine then some ((x.length : Int) != 0) else none) = some b := e
    by_cases h : x.length ≤ sizeLine
    · rw [if_pos h] at e'
      cases e'
      exact ⟨h, rfl⟩
    · rw [if_neg h] at e'
      cases e'
  | .tup ds, b, S, r, e => by
    cases e
    cases r with
    | tup hs rl => exact .inr (.inl ⟨_, sqt_mono fz_sub hs, by rw [rep_empty rl]⟩)
  | .lst ds, b, S, r, e => by
    cases e
    cases r with
    | lst hs rl => exact .inl ⟨_, fz_sub.seq hs, by rw [rep_empty rl]⟩
  | .ty _, b, _, _, e => by cases e
  | .tok a, b, S, r, e => by
    cases r
    have e' : (match M a with | some (.lst ds) => some (!ds.isEmpty) | _ => none) = some b := e
    cases q : M a with
    | none =>
      rw [q] at e'
      cases e'
    | some c =>
      rw [q] at e'
      cases c with
      | lst ds =>
        cases e'
        obtain ⟨vs, e1, rl⟩ := S.cell a _ q
        exact .inl ⟨vs, .inl (.inl e1), by rw [rep_empty rl]⟩
      | aux => cases e'
      | drw _ => cases e'
      | ins _ _ => cases e'
theorem dt_tru (h : DE X e t w) (he : ∀ whole, isTrue e X.env whole = (do let v ← whole; standAt e.pos; holding [v] (truthy v)) := by intro _; rfl) : DT X e (fun σ H Q => t σ H fun x H' => ∃ k, TruV X.K x H' k ∧ Q k H') (wTru w) := by
  refine ⟨pt_truth h.pe he, fun Z ρ M σ H Q Q' s hw q => ?_⟩
  refine h.sm Z ρ M σ H _ _ s hw fun x d H1 M1 g1 r1 q1 => ?_
  cases z : truD d M1 with
  | none =>
    rw [z] at q1
    exact q1.elim
  | some b =>
    rw [z] at q1
    exact ⟨b, tru_of g1.sat r1 z, q b H1 M1 g1 q1⟩

/-! ### blocks and small statements -/
def wNext : WS := fun D ρ M => D.nx ρ M
def wSeq (w u : WS) : WS := fun D ρ M => w { D with nx := u D } ρ M
theorem sim_seq {K : PySem.W.Frag} (h1 : SimS K E ts ws) (h2 : SimS K E tu wu) : SimS K E (tSeq ts tu) (wSeq ws wu) := by
  intro Z D3 ρ M σ H D r h en
  refine h1 Z _ ρ M σ H _ r h ⟨fun ρ' M' σ' H' r' g n => ?_, en.rt, en.bk, en.ct, en.xr⟩
  exact h2 Z D3 ρ' M' σ' H' D r' n (en.go g)
theorem dss_nil : DSs X E [] tNext wNext := ⟨pss_nil, fun Z D3 ρ M σ H D r h en => en.nx ρ M σ H r r.refl h⟩
theorem dss_cons (h1 : DS X E st ts ws) (h2 : DSs X E rest tu wu) : DSs X E (st :: rest) (tSeq ts tu) (wSeq ws wu) := ⟨pss_cons h1.pe h2.pe, sim_seq h1.sm h2.sm⟩
theorem dss_one (h1 : DS X E st ts ws) : DSs X E [st] ts ws := ⟨pss_one h1.pe, h1.sm⟩
theorem ds_pass : DS X E (.Pass pos) tNext wNext := ⟨ps_pass, fun Z D3 ρ M σ H D r h en => en.nx ρ M σ H r r.refl h⟩
def wBreak : WS := fun D ρ M => D.bk ρ M
def wCont : WS := fun D ρ M => D.ct ρ M
theorem ds_break : DS X E (.Break pos) tBreak wBreak := ⟨ps_break, fun Z D3 ρ M σ H D r h en => en.bk ρ M σ H r r.refl h⟩
theorem ds_cont : DS X E (.Continue pos) tCont wCont := ⟨ps_continue, fun Z D3 ρ M σ H D r h en => en.ct ρ M σ H r r.refl h⟩
def wDrop (w : WE) : WS := fun D ρ M => w ρ M fun _ M1 => D.nx ρ M1
theorem ds_expr (he : DE X e te we) (hs : swapsWith e none pos.line X.env = pure false := by rfl) : DS X E (.Expr e pos) (tDrop te) (wDrop we) :=
  ⟨ps_expr he.pe hs, fun Z D3 ρ M σ H D r h en => he.sm Z ρ M σ H _ _ r h fun v d H1 M1 g r1 q => en.nx ρ M1 σ H1 (r.go g) g q⟩
def wRet (w : WE) : WS := fun D ρ M => w ρ M D.rt
theorem ds_ret (he : DE X e te we) : DS X E (.Return (some e) pos) (tRet te) (wRet we) := ⟨ps_ret he.pe, fun Z D3 ρ M σ H D r h en => he.sm Z ρ M σ H _ _ r h fun v d H1 M1 g r1 q => en.rt v d H1 M1 g r1 q⟩
/-- a list of the store is handed back: it never changes again -/
def wRetF (w : WE) : WS := fun D ρ M => w ρ M fun d M1 => match d with
  | .tok a => match M1 a with
    | some (.lst ds) => D.rt (.lst ds) (delM M1 a)
    | _ => False
  | _ => False
theorem ds_retF (he : DE X e te we) : DS X E (.Return (some e) pos) (tRet te) (wRetF we) := by
  refine ⟨ps_ret he.pe, fun Z D3 ρ M σ H D r h en => he.sm Z ρ M σ H _ _ r h fun v d H1 M1 g r1 q => ?_⟩
  cases d with
  | tok a =>
    cases r1
    dsimp only at q
    cases z : M1 a with
    | none =>
      rw [z] at q
      exact q.elim
    | some c =>
      rw [z] at q
      cases c with
      | lst ds =>
        obtain ⟨g2, vs, e1, rl⟩ := Go.frozen g.sat z
        exact en.rt _ _ H1 _ (g.trans g2) (.lst (.inl (.inl e1)) rl) q
      | aux => exact q.elim
      | drw _ => exact q.elim
      | ins _ _ => exact q.elim
  | _ => exact q.elim
def wRetN : WS := fun D _ M => D.rt .non M
theorem ds_retN : DS X E (.Return none pos) tRetN wRetN := ⟨ps_retN, fun Z D3 ρ M σ H D r h en => en.rt _ _ H M r.refl .non h⟩
def wIfS (c : WT) (w u : WS) : WS := fun D ρ M => c ρ M fun b M1 => if b = true then w D ρ M1 else u D ρ M1
theorem ds_if {c : Expr} {p q : List Stmt} (hc : DT X c tA wA) (hp : DSs X E p ts ws) (hq : DSs X E q tu wu) : DS X E (.If c p q pos) (tIfS tA ts tu) (wIfS wA ws wu) := by
  refine ⟨ps_if hc.pe hp.pe hq.pe, fun Z D3 ρ M σ H D r h en => hc.sm Z ρ M σ H _ _ r h fun b H1 M1 g z => ?_⟩
  cases b with
  | true => exact hp.sm Z D3 ρ M1 σ H1 D (r.go g) z (en.go g)
  | false => exact hq.sm Z D3 ρ M1 σ H1 D (r.go g) z (en.go g)

/-! ### targets -/
abbrev WG := D → En → Mp → (En → Mp → Prop) → Prop
abbrev WGs := List D → En → Mp → (En → Mp → Prop) → Prop
def SimG (K : PySem.W.Frag) (t : TG) (w : WG) : Prop := ∀ (Z : Hp) (v : V) (d : D) (ρ : En) (M : Mp) (σ : L2.St) (H : Hp) (Q : En → Mp → Prop) (Q' : L2.St → Hp → Prop), R3 K Z ρ M σ H → Rep K (fz Z H M) v d → w d ρ M Q → (∀ ρ' M' σ' H', R3 K Z ρ' M' σ' H' → Go K Z H M H' M' → Q ρ' M' → Q' σ' H') → t v σ H Q'
def SimGs (K : PySem.W.Frag) (t : TGs) (w : WGs) : Prop := ∀ (Z : Hp) (v : List V) (d : List D) (ρ : En) (M : Mp) (σ : L2.St) (H : Hp) (Q : En → Mp → Prop) (Q' : L2.St → Hp → Prop), R3 K Z ρ M σ H → RepL K (fz Z H M) v d → w d ρ M Q → (∀ ρ' M' σ' H', R3 K Z ρ' M' σ' H' → Go K Z H M H' M' → Q ρ' M' → Q' σ' H') → t v σ H Q'
structure DG (X : Cx) (e : Expr) (t : TG) (w : WG) : Prop where
  pe : PG X e t
  sm : SimG X.K t w
structure DGs (X : Cx) (e : List Expr) (t : TGs) (w : WGs) : Prop where
  pe : PGs X e t
  sm : SimGs X.K t w
def wgName (i : Nat) : WG := fun d ρ M Q => Q (ρ.set i (some d)) M
theorem sim_gname {K : PySem.W.Frag} (i : Nat) : SimG K (gName i) (wgName i) := fun Z v d ρ M σ H Q Q' r rp h q => q _ M _ H ⟨r.sat, r.env.set i rp⟩ r.refl h
theorem dg_name (i : Nat) {x : Str} (hN : X.N.Nodup) (hi : X.N[i]? = some x := by rfl) (hx : Loc X.env.scope x := by first | exact .inl rfl | exact .inr rfl) (hf : X.fn x = true ∨ X.env.scope.names.lookup x = some .local := by first | exact .inl rfl | exact .inr rfl) : DG X (.Name x pos) (gName i) (wgName i) := ⟨pg_name hN hi hx hf, sim_gname i⟩
def wgNil : WGs := fun ds ρ M Q => ds = [] ∧ Q ρ M
def wgCons (w : WG) (u : WGs) : WGs := fun ds ρ M Q => match ds with
  | [] => False
  | d :: r => w d ρ M fun ρ' M' => u r ρ' M' Q
variable {tg : TG} {wg : WG} {tgs : TGs} {wgs : WGs}
theorem dgs_nil : DGs X [] gNil wgNil := ⟨pgs_nil, fun Z v d ρ M σ H Q Q' r rp h q => by
  obtain ⟨rfl, h⟩ := h
  cases rp
  exact ⟨rfl, q ρ M σ H r r.refl h⟩⟩
theorem dgs_cons (h1 : DG X e tg wg) (h2 : DGs X es tgs wgs) (hs : (assignEach (e :: es) X.env).map (·.2) = assign e X.env :: (assignEach es X.env).map (·.2) := by rfl) : DGs X (e :: es) (gCons tg tgs) (wgCons wg wgs) := by
  refine ⟨pgs_cons h1.pe h2.pe hs, fun Z v d ρ M σ H Q Q' r rp h q => ?_⟩
  cases rp with
  | nil => exact h.elim
  | cons r1 r2 =>
    refine ⟨_, _, rfl, h1.sm Z _ _ ρ M σ H _ _ r r1 h fun ρ1 M1 σ1 H1 s1 g1 z => ?_⟩
    exact h2.sm Z _ _ ρ1 M1 σ1 H1 _ _ s1 (r2.up g1.ex) z fun ρ2 M2 σ2 H2 s2 g2 z2 => q ρ2 M2 σ2 H2 s2 (g1.trans g2) z2
def wgTup (n : Nat) (w : WGs) : WG := fun d ρ M Q => match d with
  | .tup ds => ds.length = n ∧ w ds ρ M Q
  | _ => False
theorem sim_gtup {K : PySem.W.Frag} {n : Nat} (h : SimGs K tgs wgs) : SimG K (gTup K n tgs) (wgTup n wgs) := by
  intro Z v d ρ M σ H Q Q' r rp hw q
  cases d with
  | tup ds =>
    cases rp with
    | tup hs rl => exact ⟨_, _, rfl, sqt_mono fz_sub hs, by rw [rl.len]; exact hw.1, h Z _ _ ρ M σ H _ _ r rl hw.2 q⟩
  | _ => exact hw.elim
theorem dg_tup {es : List Expr} {k : Nat} {n : Nat} (hc : X.calm = true) (h : DGs X es tgs wgs) (hn : (assignEach es X.env).length = n := by rfl) (hst : (assignEach es X.env).findIdx? (·.1) = none := by rfl) : DG X (.Tuple es k pos) (gTup X.K n tgs) (wgTup n wgs) := ⟨pg_tup hc h.pe hn hst, sim_gtup h.sm⟩
/-- o[i] = v of a list of the store -/
def setD (o i v : D) (M : Mp) (Q : Mp → Prop) : Prop := match o, i with
  | .tok a, .int n => ∃ ds j, M a = some (.lst ds) ∧ ixN ds.length n = some j ∧ Q (setM M a (.lst (ds.set j v)))
  | _, _ => False
def wgSub (wo wi : WE) : WG := fun d ρ M Q => wo ρ M fun o M1 => wi ρ M1 fun i M2 => setD o i d M2 fun M3 => Q ρ M3
theorem dg_sub {o i : Expr} {to ti : TE} {wo wi : WE} (ho : DE X o to wo) (hi : DE X i ti wi) (ha : ∀ v, assign (.Subscript o i pos) X.env v = (do
      let ov ← holding [v] (eval o X.env)
      let iv ← holding [v, ov] (eval i X.env)
      standAt pos
      holding [v, ov, iv] (setItem ov iv v)
      release [v, ov, iv] []) := by intro _; rfl) : DG X (.Subscript o i pos) (gSub to ti rSetL) (wgSub wo wi) := by
  refine ⟨pg_sub ho.pe hi.pe set_list ha, fun Z v d ρ M σ H Q Q' r rp hw q => ?_⟩
  refine ho.sm Z ρ M σ H _ _ r hw fun x d1 H1 M1 g1 r1 q1 => ?_
  refine hi.sm Z ρ M1 σ H1 _ _ (r.go g1) q1 fun y d2 H2 M2 g2 r2 q2 => ?_
  unfold setD at q2
  split at q2
  · rename_i a n
    obtain ⟨ds, j, hm, hj, z⟩ := q2
    have r1' := r1.up g2.ex
    cases r1'
    cases r2
    obtain ⟨vs, e1, rl⟩ := g2.sat.cell a _ hm
    have g3 := Go.putL (p := a) g2.sat (.inr ⟨ds, hm⟩) (RepL.set ((rp.up g1.ex).up g2.ex) j rl)
    exact ⟨a, vs, n, j, rfl, rfl, e1, by rw [rl.len]; exact hj, q ρ _ σ _ (r.go ((g1.trans g2).trans g3)) ((g1.trans g2).trans g3) z⟩
  · exact q2.elim
def wAsg (w : WE) (g : WG) : WS := fun D ρ M => w ρ M fun d M1 => g d ρ M1 D.nx
theorem sim_asg {K : PySem.W.Frag} (he : SimE K te we) (hg : SimG K tg wg) : SimS K E (tAsg te tg) (wAsg we wg) := by
  intro Z D3 ρ M σ H D r h en
  refine he Z ρ M σ H _ _ r h fun v d H1 M1 g1 r1 q1 => ?_
  exact hg Z v d ρ M1 σ H1 _ _ (r.go g1) r1 q1 fun ρ2 M2 σ2 H2 s2 g2 z => en.nx ρ2 M2 σ2 H2 s2 (g1.trans g2) z
theorem ds_set (i : Nat) {x : Str} {pos' : Pos} (hN : X.N.Nodup) (he : DE X e te we) (hi : X.N[i]? = some x := by rfl) (hx : Loc X.env.scope x := by first | exact .inl rfl | exact .inr rfl) (hs : swapsWith e (some (.Name x pos')) pos.line X.env = pure false := by rfl)
    (hf : X.fn x = true ∨ X.env.scope.names.lookup x = some .local := by first | exact .inl rfl | exact .inr rfl) : DS X E (.Assign [.Name x pos'] e pos) (tAsg te (gName i)) (wAsg we (wgName i)) := ⟨ps_set hN hi hx he.pe hs hf, sim_asg he.sm (sim_gname i)⟩
theorem ds_asg {tgt : Expr} (he : DE X e te we) (hg : DG X tgt tg wg) (hs : swapsWithSole [tgt] e pos.line X.env = pure false := by rfl) (hw : swappedStores [tgt] e X.env = pure none := by rfl)
    (h1 : (assignEach [tgt] X.env).map (·.2) = [assign tgt X.env] := by rfl) : DS X E (.Assign [tgt] e pos) (tAsg te tg) (wAsg we wg) := ⟨ps_asg he.pe hg.pe hs hw h1, sim_asg he.sm hg.sm⟩
/-- a, b = x, y -/
def wPar (i j : Nat) (w : WA) : WS := fun D ρ M => w ρ M fun ds M1 => match ds with
  | [d, e] => D.nx ((ρ.set i (some d)).set j (some e)) M1
  | _ => False
theorem ds_par (i j : Nat) {x y : Str} {a b : Expr} {px py pt : Pos} {kt k2 pt2} (hc : X.calm = true) (hN : X.N.Nodup) (ha : DA X [a, b] tr wr) (hi : X.N[i]? = some x := by rfl) (hj : X.N[j]? = some y := by rfl) (hij : i ≠ j := by decide)
    (hx : X.env.scope.names.lookup x = some .local := by rfl) (hy : X.env.scope.names.lookup y = some .local := by rfl)
    (hw : swappedStores [.Tuple [.Name x px, .Name y py] kt pt] (.Tuple [a, b] k2 pt2) X.env = pure (some [x, y]) := by rfl)
    (hs : swapsWithSole [.Tuple [.Name x px, .Name y py] kt pt] (.Tuple [a, b] k2 pt2) pos.line X.env = pure false := by rfl) :
    DS X E (.Assign [.Tuple [.Name x px, .Name y py] kt pt] (.Tuple [a, b] k2 pt2) pos) (tPar i j tr) (wPar i j wr) := by
  refine ⟨ps_par hc hN hi hj hij hx hy ha.pe hw hs, fun Z D3 ρ M σ H D r h en => ?_⟩
  refine ha.sm Z ρ M σ H _ _ r h fun vs ds H1 M1 g1 r1 q1 => ?_
  cases r1 with
  | nil => exact q1.elim
  | cons r1 r2 =>
    cases r2 with
    | nil => exact q1.elim
    | cons r2 r3 =>
      cases r3 with
      | nil => exact ⟨_, _, rfl, en.nx _ M1 _ H1 ⟨g1.sat, (((r.go g1).env.set i r1).set j r2)⟩ g1 q1⟩
      | cons _ _ => exact q1.elim
def wPar3 (i j l : Nat) (w : WA) : WS := fun D ρ M => w ρ M fun ds M1 => match ds with
  | [d, e, f] => D.nx (((ρ.set i (some d)).set j (some e)).set l (some f)) M1
  | _ => False
theorem ds_par3 (i j l : Nat) {x y z : Str} {a b c : Expr} {px py pz pt : Pos} {kt k2 pt2} (hc : X.calm = true) (hN : X.N.Nodup) (ha : DA X [a, b, c] tr wr) (hi : X.N[i]? = some x := by rfl) (hj : X.N[j]? = some y := by rfl) (hl : X.N[l]? = some z := by rfl) (hij : i ≠ j := by decide) (hil : i ≠ l := by decide) (hjl : j ≠ l := by decide)
    (hx : X.env.scope.names.lookup x = some .local := by rfl) (hy : X.env.scope.names.lookup y = some .local := by rfl) (hz : X.env.scope.names.lookup z = some .local := by rfl)
    (hw : swappedStores [.Tuple [.Name x px, .Name y py, .Name z pz] kt pt] (.Tuple [a, b, c] k2 pt2) X.env = pure (some [x, y, z]) := by rfl)
    (hs : swapsWithSole [.Tuple [.Name x px, .Name y py, .Name z pz] kt pt] (.Tuple [a, b, c] k2 pt2) pos.line X.env = pure false := by rfl) :
    DS X E (.Assign [.Tuple [.Name x px, .Name y py, .Name z pz] kt pt] (.Tuple [a, b, c] k2 pt2) pos) (tPar3 i j l tr) (wPar3 i j l wr) := by
  refine ⟨ps_par3 hc hN hi hj hl hij hil hjl hx hy hz ha.pe hw hs, fun Z D3 ρ M σ H D r h en => ?_⟩
  refine ha.sm Z ρ M σ H _ _ r h fun vs ds H1 M1 g1 r1 q1 => ?_
  cases r1 with
  | nil => exact q1.elim
  | cons r1 r2 =>
    cases r2 with
    | nil => exact q1.elim
    | cons r2 r3 =>
      cases r3 with
      | nil => exact q1.elim
      | cons r3 r4 =>
        cases r4 with
        | nil => exact ⟨_, _, _, rfl, en.nx _ M1 _ H1 ⟨g1.sat, ((((r.go g1).env.set i r1).set j r2).set l r3)⟩ g1 q1⟩
        | cons _ _ => exact q1.elim
/-- x += e -/
def wAug (i : Nat) (w : WE) (f : F2) : WS := fun D ρ M => match ρ[i]? with
  | some (some d) => w ρ M fun e M1 => f d e M1 fun z M2 => D.nx (ρ.set i (some z)) M2
  | _ => False
theorem ip_int {op : Operator} {g : Int → Int → Int} (h : PIp X op (ipI g)) : PIp X op (rI0 fun i j => .int (g i j)) := fun pins s σ H x y v u Q I r1 r2 ⟨i, j, e1, e2, q⟩ => h pins s σ H x y v u Q I r1 r2 ⟨i, j, e1, e2, q⟩
theorem ds_augI (i : Nat) {x : Str} {op : Operator} {g : Int → Int → Int} {pos' : Pos} (hN : X.N.Nodup) (he : DE X e te we) (ho : PIp X op (ipI g)) (hi : X.N[i]? = some x := by rfl) (hx : Loc X.env.scope x := by first | exact .inl rfl | exact .inr rfl)
    (hf : X.fn x = true ∨ X.env.scope.names.lookup x = some .local := by first | exact .inl rfl | exact .inr rfl) : DS X E (.AugAssign (.Name x pos') op e pos) (tAug i te (rI0 fun i j => .int (g i j))) (wAug i we (fI0 fun i j => .int (g i j))) := by
  refine ⟨ps_aug hN hi hx he.pe (ip_int ho) hf, fun Z D3 ρ M σ H D r h en => ?_⟩
  unfold wAug at h
  split at h
  · rename_i d e1
    obtain ⟨v, e2, rp⟩ := r.env.2 i d e1
    refine ⟨v, e2, he.sm Z ρ M σ H _ _ r h fun y d2 H1 M1 g1 r1 q1 => ?_⟩
    refine sim_I0 (g := fun i j => .int (g i j)) (fun _ _ _ => .int _) Z v y d d2 H1 M1 _ _ g1.sat (rp.up g1.ex) r1 q1 fun z d3 H2 M2 g2 r2 q2 => ?_
    exact en.nx _ M2 _ H2 ⟨g2.sat, ((r.go (g1.trans g2)).env.set i r2)⟩ (g1.trans g2) q2
  · exact h.elim
end
end L3
namespace L3
open PySem L2
section
variable {X : Cx} {E : XK} {e a b c : Expr} {es : List Expr} {t ta tb tc te : TE} {w wa wb wc we : WE} {pos : Pos} {k : Nat} {tr : TA} {wr : WA} {st : Stmt} {rest : List Stmt} {ts tu : TS} {ws wu : WS} {tA : TT} {wA : WT} {tg : TG} {wg : WG} {tgt : Expr}
/-! ### what is walked -/
/-- the iterator yields the data ds, one by one, as long as Ok holds of the store -/
def Walks3 (K : PySem.W.Frag) (Z : Hp) (H : Hp) (M : Mp) (J : It) (ds : List D) (Ok : Mp → Prop) : Prop := ∀ (Z2 H2 : Hp) (M2 : Mp), Sat K Z2 H2 M2 → Same (fz Z H M) (fz Z2 H2 M2) → Ok M2 →
  (∀ (i : Nat) (d : D), ds[i]? = some d → J.go i H2 ∧ ∀ x H3, J.yld i H2 x H3 → Go K Z2 H2 M2 H3 M2 ∧ Rep K (fz Z2 H3 M2) x d) ∧ ∀ i, ds.length ≤ i → J.stop i H2
abbrev WI := En → Mp → (List D → (Mp → Prop) → Mp → Prop) → Prop
def SimI (K : PySem.W.Frag) (t : TI) (w : WI) : Prop := ∀ (Z : Hp) (ρ : En) (M : Mp) (σ : L2.St) (H : Hp) (R : List D → (Mp → Prop) → Mp → Prop) (R' : It → Hp → Prop), R3 K Z ρ M σ H → w ρ M R → (∀ J ds Ok H' M', Go K Z H M H' M' → Walks3 K Z H' M' J ds Ok → R ds Ok M' → R' J H') → t σ H R'
structure DI (X : Cx) (tgt e : Expr) (t : TI) (w : WI) : Prop where
  pe : PI X tgt e t
  sm : SimI X.K t w
def AnyM : Mp → Prop := fun _ => True
/-- a list, a tuple -/
def iSeq (K : PySem.W.Frag) (tl : TE) : TI := fun σ H R => tl σ H fun x J => ∃ p, x = .ref p ∧ (((∃ xs, SqL K J p xs) ∧ R (Itl K p) J) ∨ ((∃ xs, SqT K J p xs) ∧ R (Itt K p) J))
theorem pi_seq {l : Expr} {tl : TE} (hl : PE X l tl) : PI X tgt l (iSeq X.K tl) := by
  constructor
  intro pins s σ H R I h
  refine thn (hl.run pins s σ H _ I h) fun v s1 ⟨x, H1, I1, r1, p, e, q1⟩ => ?_
  subst e
  cases r1
  rcases q1 with ⟨⟨xs, hq⟩, q⟩ | ⟨⟨xs, hq⟩, q⟩
  · obtain ⟨its, rv, pl, hz⟩ := I1.list hq
    refine wpAny_pyIter_list pl.isList ?_
    refine ⟨s1.heap.objs.size, [s1.heap.objs.size], _, _, H1, rfl, I1.kept (t' := s1.toks) fun b o e => Heap.get?_push_of_some _ e, turn_list p _, ⟨_, Heap.get?_push_size _ rfl, rfl, rfl⟩, fun b hb => ?_, q⟩
    obtain rfl : b = s1.heap.objs.size := by simpa using hb
    exact I1.fpOk (Nat.le_refl _) (I1.hok.fresh (Nat.le_refl _))
  · obtain ⟨its, rv, pl, hz⟩ := I1.tuple hq
    refine wpAny_pyIter_tuple (show s1.heap.IsTuple p its.toArray from pl) ?_
    refine ⟨s1.heap.objs.size, [s1.heap.objs.size], _, _, H1, rfl, I1.kept (t' := s1.toks) fun b o e => Heap.get?_push_of_some _ e, turn_tuple p _, ⟨_, Heap.get?_push_size _ rfl, rfl, rfl⟩, fun b hb => ?_, q⟩
    obtain rfl : b = s1.heap.objs.size := by simpa using hb
    exact I1.fpOk (Nat.le_refl _) (I1.hok.fresh (Nat.le_refl _))
def wiSeq (w : WE) : WI := fun ρ M R => w ρ M fun d M1 => match d with
  | .tup ds => R ds AnyM M1
  | .lst ds => R ds AnyM M1
  | .tok p => ∃ ds, M1 p = some (.lst ds) ∧ R ds (fun M2 => M2 p = some (.lst ds)) M1
  | _ => False
theorem walks_l {K : PySem.W.Frag} {Z H : Hp} {M : Mp} {p : Addr} {vs : List V} {ds : List D} (h : SqL K (fz Z H M) p vs) (r : RepL K (fz Z H M) vs ds) : Walks3 K Z H M (Itl K p) ds AnyM := by
  intro Z2 H2 M2 S ex _
  have hq : SqL K H2 p vs := (ex.trans fz_sub).seq h
  refine ⟨fun i d e => ?_, fun i hi => ⟨vs, hq, by rw [r.len]; exact hi⟩⟩
  obtain ⟨v, e1, rp⟩ := r.get e
  refine ⟨⟨vs, v, hq, e1⟩, fun x H3 ⟨e2, y⟩ => ?_⟩
  subst e2
  obtain rfl : x = v := Option.some.inj ((y vs hq).symm.trans e1)
  exact ⟨Go.refl S, rp.up ex⟩
theorem walks_t {K : PySem.W.Frag} {Z H : Hp} {M : Mp} {p : Addr} {vs : List V} {ds : List D} (h : SqT K (fz Z H M) p vs) (r : RepL K (fz Z H M) vs ds) : Walks3 K Z H M (Itt K p) ds AnyM := by
  intro Z2 H2 M2 S ex _
  have hq : SqT K H2 p vs := sqt_mono (ex.trans fz_sub) h
  refine ⟨fun i d e => ?_, fun i hi => ⟨vs, hq, by rw [r.len]; exact hi⟩⟩
  obtain ⟨v, e1, rp⟩ := r.get e
  refine ⟨⟨vs, v, hq, e1⟩, fun x H3 ⟨e2, y⟩ => ?_⟩
  subst e2
  obtain rfl : x = v := Option.some.inj ((y vs hq).symm.trans e1)
  exact ⟨Go.refl S, rp.up ex⟩
theorem walks_m {K : PySem.W.Frag} {Z H : Hp} {M : Mp} {p : Addr} {ds : List D} : Walks3 K Z H M (Itl K p) ds (fun M2 => M2 p = some (.lst ds)) := by
  intro Z2 H2 M2 S ex ok
  obtain ⟨vs, e0, r⟩ := S.cell p _ ok
  have hq : SqL K H2 p vs := .inl (.inl e0)
  refine ⟨fun i d e => ?_, fun i hi => ⟨vs, hq, by rw [r.len]; exact hi⟩⟩
  obtain ⟨v, e1, rp⟩ := r.get e
  refine ⟨⟨vs, v, hq, e1⟩, fun x H3 ⟨e2, y⟩ => ?_⟩
  subst e2
  have e3 := y vs hq
  obtain rfl : x = v := Option.some.inj (e3.symm.trans e1)
  exact ⟨Go.refl S, rp⟩
theorem di_seq (h : DE X e te we) : DI X tgt e (iSeq X.K te) (wiSeq we) := by
  refine ⟨pi_seq h.pe, fun Z ρ M σ H R R' s hw q => ?_⟩
  refine h.sm Z ρ M σ H _ _ s hw fun x d H1 M1 g1 r1 q1 => ?_
  cases d with
  | tup ds =>
    cases r1 with
    | tup hs rl => exact ⟨_, rfl, .inr ⟨⟨_, sqt_mono fz_sub hs⟩, q _ _ _ H1 M1 g1 (walks_t hs rl) q1⟩⟩
  | lst ds =>
    cases r1 with
    | lst hs rl => exact ⟨_, rfl, .inl ⟨⟨_, fz_sub.seq hs⟩, q _ _ _ H1 M1 g1 (walks_l hs rl) q1⟩⟩
  | tok p =>
    cases r1
    obtain ⟨ds, hm, z⟩ := q1
    obtain ⟨vs, e1, rl⟩ := g1.sat.cell p _ hm
    exact ⟨_, rfl, .inl ⟨⟨vs, .inl (.inl e1)⟩, q _ _ _ H1 M1 g1 walks_m z⟩⟩
  | _ => exact q1.elim
/-- range(n), range(a, b) -/
def intsD (lo : Int) (n : Nat) : List D := (List.range n).map fun (i : Nat) => D.int (lo + (i : Int))
theorem walks_r {K : PySem.W.Frag} {Z H : Hp} {M : Mp} (lo : Int) (n : Nat) : Walks3 K Z H M (Itr lo n) (intsD lo n) AnyM := by
  intro Z2 H2 M2 S ex _
  refine ⟨fun i d e => ?_, fun i hi => ?_⟩
  · have hi : i < n := by
      have z := (List.getElem?_eq_some_iff.mp e).1
      unfold intsD at z
      rw [List.length_map, List.length_range] at z
      exact z
    have ed : d = .int (lo + (i : Int)) := by
      unfold intsD at e
      rw [List.getElem?_map, List.getElem?_range hi] at e
      exact (Option.some.inj e).symm
    subst ed
    refine ⟨hi, fun x H3 ⟨e1, e2⟩ => ?_⟩
    subst e1
    subst e2
    exact ⟨Go.refl S, .int _⟩
  · unfold intsD at hi
    rw [List.length_map, List.length_range] at hi
    exact hi
def wiRange1 (w : WA) : WI := fun ρ M R => w ρ M fun ds M1 => match ds with
  | [.int j] => j < 2 ^ 62 ∧ -(2 ^ 62) ≤ j ∧ R (intsD 0 j.toNat) AnyM M1
  | _ => False
theorem di_range1 {p : Pos} (hm : X.mg "range" = none) (ha : DA X [a] tr wr) (hg : Gl X "range" := by rfl) (hs : starEach [a] X.env = [(false, eval a X.env)] := by rfl) : DI X tgt (.Call (.Name "range" p) [a] [] pos) (iRng1 tr) (wiRange1 wr) := by
  refine ⟨pi_range1 hg hm ha.pe hs, fun Z ρ M σ H R R' s hw q => ?_⟩
  refine ha.sm Z ρ M σ H _ _ s hw fun xs ds H1 M1 g1 r1 q1 => ?_
  unfold wiRange1 at hw
  split at q1
  · cases r1 with
    | cons r1 r2 =>
      cases r1
      cases r2
      exact ⟨_, rfl, q1.2.1, q1.1, q _ _ _ H1 M1 g1 (walks_r _ _) q1.2.2⟩
  · exact q1.elim
def wiRange2 (w : WA) : WI := fun ρ M R => w ρ M fun ds M1 => match ds with
  | [.int i, .int j] => (-(2 ^ 62) ≤ i ∧ i < 2 ^ 62 ∧ -(2 ^ 62) ≤ j ∧ j < 2 ^ 62) ∧ R (intsD i (j - i).toNat) AnyM M1
  | _ => False
theorem di_range2 {p : Pos} (hm : X.mg "range" = none) (ha : DA X [a, b] tr wr) (hg : Gl X "range" := by rfl) (hs : starEach [a, b] X.env = [(false, eval a X.env), (false, eval b X.env)] := by rfl) (hs2 : starEach [b] X.env = [(false, eval b X.env)] := by rfl) : DI X tgt (.Call (.Name "range" p) [a, b] [] pos) (iRng2 tr) (wiRange2 wr) := by
  refine ⟨pi_range2 hg hm ha.pe hs hs2, fun Z ρ M σ H R R' s hw q => ?_⟩
  refine ha.sm Z ρ M σ H _ _ s hw fun xs ds H1 M1 g1 r1 q1 => ?_
  split at q1
  · cases r1 with
    | cons r1 r2 =>
      cases r1
      cases r2 with
      | cons r2 r3 =>
        cases r2
        cases r3
        exact ⟨_, _, rfl, q1.1, q _ _ _ H1 M1 g1 (walks_r _ _) q1.2⟩
  · exact q1.elim
/-- a text, sign by sign -/
def signs (x : Str) : List D := x.cps.toList.map fun c => D.str ⟨#[c]⟩
def wiStr (w : WE) : WI := fun ρ M R => w ρ M fun d M1 => match d with
  | .str x => R (signs x) AnyM M1
  | _ => False
theorem walks_s {K : PySem.W.Frag} {Z H : Hp} {M : Mp} (x : Str) : Walks3 K Z H M (Its x) (signs x) AnyM := by
  intro Z2 H2 M2 S ex _
  refine ⟨fun i d e => ?_, fun i hi => ?_⟩
  · unfold signs at e
    rw [List.getElem?_map] at e
    cases q : x.cps.toList[i]? with
    | none =>
      rw [q] at e
      cases e
    | some c =>
      rw [q] at e
      obtain rfl : D.str ⟨#[c]⟩ = d := Option.some.inj e
      have hi : i < x.cps.size := by
        have z := (List.getElem?_eq_some_iff.mp q).1
        rw [Array.length_toList] at z
        exact z
      refine ⟨hi, fun y H3 ⟨e1, c', hc, e2⟩ => ?_⟩
      subst e1
      subst e2
      have e3 : x.cps[i]? = some c := by
        rw [← Array.getElem?_toList]
        exact q
      rw [e3] at hc
      cases hc
      exact ⟨Go.refl S, .str _⟩
  · unfold signs at hi
    rw [List.length_map, Array.length_toList] at hi
    exact hi
theorem di_str (h : DE X e te we) : DI X tgt e (iStr te) (wiStr we) := by
  refine ⟨pi_str h.pe, fun Z ρ M σ H R R' s hw q => ?_⟩
  refine h.sm Z ρ M σ H _ _ s hw fun x d H1 M1 g1 r1 q1 => ?_
  cases d with
  | str y =>
    cases r1
    exact ⟨y, rfl, q _ _ _ H1 M1 g1 (walks_s y) q1⟩
  | _ => exact q1.elim

/-! ### for -/
def wLoop (g : WG) (wb : WS) (Ok : Mp → Prop) (D3 : Ends3) : List D → En → Mp → Prop
  | [], ρ, M => Ok M ∧ D3.nx ρ M
  | d :: ds, ρ, M => Ok M ∧ g d ρ M fun ρ1 M1 => wb { D3 with nx := wLoop g wb Ok D3 ds, ct := wLoop g wb Ok D3 ds, bk := D3.nx } ρ1 M1
def wFor (wi : WI) (g : WG) (wb : WS) : WS := fun D3 ρ M => wi ρ M fun ds Ok M1 => wLoop g wb Ok D3 ds ρ M1
theorem sim_for {ti : TI} {wi : WI} (K : PySem.W.Frag) (hi : SimI K ti wi) (hg : SimG K tg wg) (hb : SimS K E ts ws) : SimS K E (tFor ti tg ts) (wFor wi wg ws) := by
  intro Z D3 ρ M σ H D r h en
  refine hi Z ρ M σ H _ _ r h fun J ds Ok H1 M1 g1 wk q1 => ?_
  refine ⟨fun i m σ' H' => m + i = ds.length ∧ ∃ ρ' M', R3 K Z ρ' M' σ' H' ∧ Go K Z H1 M1 H' M' ∧ wLoop wg ws Ok D3 (ds.drop i) ρ' M', ⟨ds.length, rfl, ρ, M1, r.go g1, Go.refl g1.sat, q1⟩, fun i m σ' H' ⟨em, ρ', M', r', g', l⟩ => ?_⟩
  by_cases hlt : i < ds.length
  · have e : ds.drop i = ds[i] :: ds.drop (i + 1) := List.drop_eq_getElem_cons hlt
    rw [e] at l
    obtain ⟨ok, l⟩ := l
    obtain ⟨go, yl⟩ := (wk Z H' M' g'.sat g'.ex ok).1 i ds[i] (List.getElem?_eq_getElem hlt)
    refine .inr ⟨go, fun σ2 H2 => ∃ ρ2 M2, R3 K Z ρ2 M2 σ2 H2 ∧ Go K Z H1 M1 H2 M2 ∧ wLoop wg ws Ok D3 (ds.drop (i + 1)) ρ2 M2, fun σ2 H2 ⟨ρ2, M2, r2, g2, l2⟩ => ⟨m - 1, by omega, by omega, ρ2, M2, r2, g2, l2⟩, fun x H3 hy => ?_⟩
    obtain ⟨g3, rp⟩ := yl x H3 hy
    refine hg Z x _ ρ' M' σ' H3 _ _ (r'.go g3) rp l fun ρ4 M4 σ4 H4 r4 g4 z => ?_
    have g14 := (g'.trans g3).trans g4
    refine hb Z _ ρ4 M4 σ4 H4 _ r4 z ⟨fun ρ5 M5 σ5 H5 r5 g5 z5 => ⟨ρ5, M5, r5, g14.trans g5, z5⟩, fun v d H5 M5 g5 rp5 z5 => en.rt v d H5 M5 ((g1.trans g14).trans g5) rp5 z5,
      fun ρ5 M5 σ5 H5 r5 g5 z5 => en.nx ρ5 M5 σ5 H5 r5 ((g1.trans g14).trans g5) z5, fun ρ5 M5 σ5 H5 r5 g5 z5 => ⟨ρ5, M5, r5, g14.trans g5, z5⟩, fun C dx fv fs H5 M5 g5 e5 rf5 z5 => en.xr C dx fv fs H5 M5 ((g1.trans g14).trans g5) e5 rf5 z5⟩
  · have e : ds.drop i = [] := List.drop_eq_nil_of_le (by omega)
    rw [e] at l
    exact .inl ⟨(wk Z H' M' g'.sat g'.ex l.1).2 i (by omega), en.nx ρ' M' σ' H' r' (g1.trans g') l.2⟩
theorem ds_for {ti : TI} {wi : WI} {body : List Stmt} (hp : PassesOwn (model X.prog X.w) X.A X.env X.xe) (hc : X.calm = true) (hi : DI X tgt e ti wi) (hg : DG X tgt tg wg) (hb : DSs X E body ts ws) (hs : ∀ x, foldedSetIterable e X.env x = pure x := by intro _; rfl) :
    DS X E (.For tgt e body [] pos) (tFor ti tg ts) (wFor wi wg ws) := ⟨ps_for hp hc hi.pe hg.pe hb.pe hs, sim_for X.K hi.sm hg.sm hb.sm⟩

/-! ### while -/
def wWhile (c : WT) (wb : WS) : WS := fun D3 ρ M => ∃ W : Nat → En → Mp → Prop, (∃ m, W m ρ M) ∧ ∀ m ρ M, W m ρ M →
  c ρ M fun b M1 => if b = true then wb { D3 with nx := fun ρ' M' => ∃ m', m' < m ∧ W m' ρ' M', ct := fun ρ' M' => ∃ m', m' < m ∧ W m' ρ' M', bk := D3.nx } ρ M1 else D3.nx ρ M1
theorem ds_while {body : List Stmt} {c : Expr} (hp : PassesOwn (model X.prog X.w) X.A X.env X.xe) (hc : DT X c tA wA) (hb : DSs X E body ts ws) : DS X E (.While c body [] pos) (tWhile tA ts) (wWhile wA ws) := by
  refine ⟨ps_while hp hc.pe hb.pe, fun Z D3 ρ M σ H D r h en => ?_⟩
  obtain ⟨W, ⟨m0, w0⟩, turn⟩ := h
  refine ⟨fun m σ' H' => ∃ ρ' M', R3 X.K Z ρ' M' σ' H' ∧ Go X.K Z H M H' M' ∧ W m ρ' M', ⟨m0, ρ, M, r, r.refl, w0⟩, fun m σ' H' ⟨ρ', M', r', g', w'⟩ => ?_⟩
  refine hc.sm Z ρ' M' σ' H' _ _ r' (turn m ρ' M' w') fun b H1 M1 g1 z => ?_
  cases b with
  | true =>
    rw [if_pos rfl] at z ⊢
    refine ⟨fun σ2 H2 => ∃ m', m' < m ∧ ∃ ρ2 M2, R3 X.K Z ρ2 M2 σ2 H2 ∧ Go X.K Z H M H2 M2 ∧ W m' ρ2 M2, fun _ _ z2 => z2, ?_⟩
    have g := g'.trans g1
    exact hb.sm Z _ ρ' M1 σ' H1 _ (r'.go g1) z ⟨fun ρ5 M5 σ5 H5 r5 g5 ⟨m', l, z5⟩ => ⟨m', l, ρ5, M5, r5, g.trans g5, z5⟩, fun v d H5 M5 g5 rp5 z5 => en.rt v d H5 M5 (g.trans g5) rp5 z5,
      fun ρ5 M5 σ5 H5 r5 g5 z5 => en.nx ρ5 M5 σ5 H5 r5 (g.trans g5) z5, fun ρ5 M5 σ5 H5 r5 g5 ⟨m', l, z5⟩ => ⟨m', l, ρ5, M5, r5, g.trans g5, z5⟩, fun C dx fv fs H5 M5 g5 e5 rf5 z5 => en.xr C dx fv fs H5 M5 (g.trans g5) e5 rf5 z5⟩
  | false =>
    rw [if_neg Bool.false_ne_true] at z ⊢
    exact en.nx ρ' M1 σ' H1 (r'.go g1) (g'.trans g1) z
end
end L3
namespace L3
open PySem L2
section
variable {X : Cx} {E : XK} {e a b c elt iter tgt : Expr} {es ifs : List Expr} {t ta tb tc te : TE} {w wa wb wc we : WE} {pos : Pos} {k : Nat} {tr : TA} {wr : WA} {tt : TT} {wt : WT} {tg : TG} {wg : WG} {ti : TI} {wi : WI}
/-! ### comprehensions -/
def wipeE (ρ : En) : List Nat → En
  | [] => ρ
  | v :: vs => (wipeE ρ vs).set v none
theorem wipe_rel {K : PySem.W.Frag} {H : Hp} {σ : L2.St} {ρ : En} (r : RelS K H σ ρ) : ∀ vs : List Nat, RelS K H (wipe σ vs) (wipeE ρ vs)
  | [] => r
  | v :: vs => by
    have ih := wipe_rel r vs
    refine ⟨by show ((wipe σ vs).set v none).length = ((wipeE ρ vs).set v none).length; rw [List.length_set, List.length_set]; exact ih.1, fun i d q => ?_⟩
    have q' : ((wipeE ρ vs).set v none)[i]? = some (some d) := q
    by_cases hi : v = i
    · subst hi
      rw [List.getElem?_set_self'] at q'
      cases z : (wipeE ρ vs)[v]? with
      | none =>
        rw [z] at q'
        cases q'
      | some o =>
        rw [z] at q'
        cases q'
    · rw [List.getElem?_set_ne hi] at q'
      obtain ⟨u, h1, h2⟩ := ih.2 i d q'
      exact ⟨u, by show ((wipe σ vs).set v none)[i]? = _; rw [List.getElem?_set_ne hi]; exact h1, h2⟩
theorem wipe_set {σ : L2.St} {j : Nat} {o : Option V} : ∀ {vs : List Nat}, j ∈ vs → wipe (σ.set j o) vs = wipe σ vs
  | v :: vs, h => by
    show (wipe (σ.set j o) vs).set v none = (wipe σ vs).set v none
    by_cases hm : j ∈ vs
    · rw [wipe_set hm]
    · have hj : j = v := (List.mem_cons.mp h).resolve_right hm
      subst hj
      have cm : ∀ (us : List Nat), wipe (σ.set j o) us = wipe σ us ∨ wipe (σ.set j o) us = (wipe σ us).set j o := fun us => by
        induction us with
        | nil => exact .inr rfl
        | cons u us ih =>
          rcases ih with h1 | h1
          · left
            show (wipe (σ.set j o) us).set u none = (wipe σ us).set u none
            rw [h1]
          · by_cases hu : u = j
            · subst hu
              left
              show (wipe (σ.set u o) us).set u none = (wipe σ us).set u none
              rw [h1, List.set_set]
            · right
              show (wipe (σ.set j o) us).set u none = ((wipe σ us).set u none).set j o
              rw [h1, List.set_comm _ _ (Ne.symm hu)]
      rcases cm vs with h1 | h1
      · rw [h1]
      · rw [h1, List.set_set]
/-- the target stores into the block's own slots alone -/
def KeepG (vs : List Nat) (tg : TG) : Prop := ∀ (v : V) (σ0 σ : L2.St) (H : Hp) (Q : L2.St → Hp → Prop), wipe σ vs = σ0 → tg v σ H Q → tg v σ H fun σ2 H2 => wipe σ2 vs = σ0 ∧ Q σ2 H2
def KeepGs (vs : List Nat) (tg : TGs) : Prop := ∀ (v : List V) (σ0 σ : L2.St) (H : Hp) (Q : L2.St → Hp → Prop), wipe σ vs = σ0 → tg v σ H Q → tg v σ H fun σ2 H2 => wipe σ2 vs = σ0 ∧ Q σ2 H2
theorem keep_name {vs : List Nat} {j : Nat} (h : j ∈ vs := by decide) : KeepG vs (gName j) := fun v σ0 σ H Q e q => ⟨by rw [wipe_set h]; exact e, q⟩
theorem keep_nil {vs : List Nat} : KeepGs vs gNil := fun v σ0 σ H Q e q => ⟨q.1, e, q.2⟩
theorem keep_cons {vs : List Nat} {t : TG} {u : TGs} (h1 : KeepG vs t) (h2 : KeepGs vs u) (mono : ∀ v σ H (Q Q' : L2.St → Hp → Prop), (∀ s J, Q s J → Q' s J) → t v σ H Q → t v σ H Q') : KeepGs vs (gCons t u) := fun v σ0 σ H Q e q => by
  obtain ⟨x, r, e1, q⟩ := q
  refine ⟨x, r, e1, ?_⟩
  exact mono x σ H _ _ (fun s J z => h2 r σ0 s J Q z.1 z.2) (h1 x σ0 σ H _ e q)
theorem mono_name {j : Nat} : ∀ v σ H (Q Q' : L2.St → Hp → Prop), (∀ s J, Q s J → Q' s J) → gName j v σ H Q → gName j v σ H Q' := fun _ _ _ _ _ h q => h _ _ q
theorem keep_tup {vs : List Nat} {K : PySem.W.Frag} {n : Nat} {u : TGs} (h : KeepGs vs u) : KeepG vs (gTup K n u) := fun v σ0 σ H Q e q => by
  obtain ⟨p, xs, e1, h1, h2, q⟩ := q
  exact ⟨p, xs, e1, h1, h2, h xs σ0 σ H Q e q⟩
structure DTs (X : Cx) (ifs : List Expr) (t : TT) (w : WT) : Prop where
  pe : PTs X ifs t
  sm : SimT X.K t w
def wYes : WT := fun _ M Q => Q true M
theorem dts_nil : DTs X [] tYes wYes := ⟨pts_nil, fun Z ρ M σ H Q Q' s h q => q true H M s.refl h⟩
theorem dts_one (h : DT X e tt wt) : DTs X [e] tt wt := ⟨pts_one h.pe, h.sm⟩
def wLcL (g : WG) (wt : WT) (we : WE) (Ok : Mp → Prop) (ρ : En) : List D → List D → Mp → KD → Prop
  | [], acc, M, Q => Ok M ∧ Q (.lst acc) M
  | d :: ds, acc, M, Q => Ok M ∧ acc.length < sizeLine ∧ g d ρ M fun ρ1 M1 => wt ρ1 M1 fun b M2 => if b = true then we ρ1 M2 fun y M3 => wLcL g wt we Ok ρ ds (acc ++ [y]) M3 Q else wLcL g wt we Ok ρ ds acc M2 Q
def wLc (wi : WI) (g : WG) (wt : WT) (we : WE) (vs : List Nat) : WE := fun ρ M Q => wi ρ M fun ds Ok M1 => wLcL g wt we Ok (wipeE ρ vs) ds [] M1 Q
theorem sim_lc {K : PySem.W.Frag} {vs : List Nat} (hi : SimI K ti wi) (hg : SimG K tg wg) (ht : SimT K tt wt) (he : SimE K te we) (kp : KeepG vs tg) : SimE K (tLc ti tg tt te vs) (wLc wi wg wt we vs) := by
  intro Z ρ M σ H Q Q' r h q
  refine hi Z ρ M σ H _ _ r h fun J ds Ok H1 M1 g1 wk q1 => ?_
  intro D hD
  have m1 := g1.sat.free hD
  have z1 := g1.sat.freeZ hD
  have f1 : fz Z H1 M1 D = none := by
    rw [fz_none m1 z1]
    exact hD
  have s0 := Sat.swap (Z' := upd Z D (.lst [])) (H' := upd H1 D (.lst [])) g1.sat m1 f1 (fun b hb => upd_ne hb) (fun b hb => upd_ne hb) (fun o e => by rw [upd_same] at e ⊢; exact e)
  refine ⟨fun i m H' => m + i = ds.length ∧ ∃ (acc : List L3.D) (va : List V) (M' : Mp), Sat K (upd Z D (.lst va)) H' M' ∧ Same (fz Z H1 M1) (fz (upd Z D (.lst va)) H' M') ∧ RepL K (fz (upd Z D (.lst va)) H' M') va acc ∧ wLcL wg wt we Ok (wipeE ρ vs) (ds.drop i) acc M' Q,
    ⟨ds.length, rfl, [], [], M1, s0.1, s0.2, .nil, q1⟩, fun i m H' ⟨em, acc, va, M', S, ex, ra, l⟩ => ?_⟩
  have zd : upd Z D (.lst va) D = some (.lst va) := upd_same
  by_cases hlt : i < ds.length
  · have e : ds.drop i = ds[i] :: ds.drop (i + 1) := List.drop_eq_getElem_cons hlt
    rw [e] at l
    obtain ⟨ok, hacc, l⟩ := l
    obtain ⟨go, yl⟩ := (wk _ H' M' S ex ok).1 i ds[i] (List.getElem?_eq_getElem hlt)
    refine .inr ⟨go, fun H2 => ∃ (acc : List L3.D) (va : List V) (M' : Mp), Sat K (upd Z D (.lst va)) H2 M' ∧ Same (fz Z H1 M1) (fz (upd Z D (.lst va)) H2 M') ∧ RepL K (fz (upd Z D (.lst va)) H2 M') va acc ∧ wLcL wg wt we Ok (wipeE ρ vs) (ds.drop (i + 1)) acc M' Q,
      fun H2 z => ⟨m - 1, by omega, by omega, z⟩, fun x H3 hy => ?_⟩
    obtain ⟨g3, rp⟩ := yl x H3 hy
    have r3 : R3 K (upd Z D (.lst va)) (wipeE ρ vs) M' (wipe σ vs) H3 := ⟨g3.sat, (wipe_rel (r.env.up g1.ex) vs).up (ex.trans g3.ex)⟩
    have ww : wipe (wipe σ vs) vs = wipe σ vs := by
      have idem : ∀ us : List Nat, (∀ u ∈ us, u ∈ vs) → wipe (wipe σ us) vs = wipe σ vs := fun us => by
        induction us with
        | nil => intro _; rfl
        | cons u us ih =>
          intro hu
          show wipe ((wipe σ us).set u none) vs = _
          rw [wipe_set (hu u List.mem_cons_self)]
          exact ih fun y hy => hu y (List.mem_cons_of_mem _ hy)
      exact idem vs fun u hu => hu
    refine kp x _ _ H3 _ ww ?_
    refine hg _ x _ _ M' _ H3 _ _ r3 rp l fun ρ4 M4 σ4 H4 r4 g4 z => ?_
    refine ht _ ρ4 M4 σ4 H4 _ _ r4 z fun b H5 M5 g5 z5 => ?_
    have g35 := (g3.trans g4).trans g5
    cases b with
    | true =>
      rw [if_pos rfl] at z5 ⊢
      refine he _ ρ4 M5 σ4 H5 _ _ (r4.go g5) z5 fun y d H6 M6 g6 r6 z6 => ?_
      have g36 := g35.trans g6
      have h6 := g36.sat.zed D _ zd
      refine ⟨va, h6.1, by rw [ra.len]; exact hacc, ?_⟩
      have s6 := Sat.swap (Z' := upd Z D (.lst (va ++ [y]))) (H' := upd H6 D (.lst (va ++ [y]))) g36.sat h6.2 (fz_hid zd) (fun b hb => upd_ne hb) (fun b hb => by rw [upd_ne hb, upd_ne hb]) (fun o e => by rw [upd_same] at e ⊢; exact e)
      exact ⟨acc ++ [d], va ++ [y], M6, s6.1, (ex.trans g36.ex).trans s6.2, ((ra.up g36.ex).up s6.2).app (.cons (r6.up s6.2) .nil), z6⟩
    | false =>
      rw [if_neg Bool.false_ne_true] at z5 ⊢
      exact ⟨acc, va, M5, g35.sat, ex.trans g35.ex, ra.up g35.ex, z5⟩
  · have e : ds.drop i = [] := List.drop_eq_nil_of_le (by omega)
    rw [e] at l
    have hd := S.zed D _ zd
    have s2 := Sat.swap (Z' := Z) (H' := H') S hd.2 (fz_hid zd) (fun b hb => rfl) (fun b hb => by rw [upd_ne hb]) (fun o e => by rw [z1] at e; cases e)
    refine .inl ⟨(wk _ H' M' S ex l.1).2 i (by omega), ?_⟩
    exact q _ _ H' M' ⟨s2.1, (g1.ex.trans ex).trans s2.2⟩ (.lst (.inl (.inl (fz_to hd.2 z1 hd.1))) (ra.up s2.2)) l.2
theorem de_lc0 {scope : Scope} {own : List (Str × Nat)} (hc : X.calm = true) (hN : X.N.Nodup) (hi : DI X tgt iter ti wi) (ok : BlkOk X.N X.env.scope scope own)
    (hg : ∀ (s : Shared) (H : Hp) (C : Addr) (cl : List (Str × Addr)) (fp : List Addr), DG (X.blk s H scope (compEnvC scope cl C X.env) fp) tgt tg wg) (ht : ∀ (s : Shared) (H : Hp) (C : Addr) (cl : List (Str × Addr)) (fp : List Addr), DTs (X.blk s H scope (compEnvC scope cl C X.env) fp) ifs tt wt)
    (he : ∀ (s : Shared) (H : Hp) (C : Addr) (cl : List (Str × Addr)) (fp : List Addr), DE (X.blk s H scope (compEnvC scope cl C X.env) fp) elt te we) (kp : KeepG (own.map (·.2)) tg) (hs : ∀ x, foldedSetIterable iter X.env x = pure x := by intro _; rfl) :
    DE X (.ListComp elt [⟨tgt, iter, ifs, 0⟩] scope pos) (tLc ti tg tt te (own.map (·.2))) (wLc wi wg wt we (own.map (·.2))) :=
  ⟨pe_lc hc hN hi.pe ok (fun s H C cl fp => (hg s H C cl fp).pe) (fun s H C cl fp => (ht s H C cl fp).pe) (fun s H C cl fp => (he s H C cl fp).pe) hs, sim_lc hi.sm (hg X.s_0 X.H_0 0 [] []).sm (ht X.s_0 X.H_0 0 [] []).sm (he X.s_0 X.H_0 0 [] []).sm kp⟩
/-- name = [..] on one line -/
theorem ds_setLc0 (i : Nat) {y : Str} {py : Pos} {scope : Scope} {own : List (Str × Nat)} {spos : Pos} (hc : X.calm = true) (hN : X.N.Nodup)
    (hi : DI X tgt iter ti wi) (ok : BlkOk X.N X.env.scope scope own)
    (hg : ∀ (s : Shared) (H : Hp) (C : Addr) (cl : List (Str × Addr)) (fp : List Addr), DG (X.blk s H scope (compEnvC scope cl C X.env) fp) tgt tg wg) (ht : ∀ (s : Shared) (H : Hp) (C : Addr) (cl : List (Str × Addr)) (fp : List Addr), DTs (X.blk s H scope (compEnvC scope cl C X.env) fp) ifs tt wt)
    (he : ∀ (s : Shared) (H : Hp) (C : Addr) (cl : List (Str × Addr)) (fp : List Addr), DE (X.blk s H scope (compEnvC scope cl C X.env) fp) elt te we) (kp : KeepG (own.map (·.2)) tg)
    (hsw : swapsWith (.ListComp elt [⟨tgt, iter, ifs, 0⟩] scope pos) (some (.Name y py)) spos.line X.env = pure true) (hy : X.N[i]? = some y := by rfl) (hyl : X.env.scope.names.lookup y = some .local := by rfl) (hs : ∀ x, foldedSetIterable iter X.env x = pure x := by intro _; rfl) :
    DS X E (.Assign [.Name y py] (.ListComp elt [⟨tgt, iter, ifs, 0⟩] scope pos) spos) (tAsg (tLc ti tg tt te (own.map (·.2))) (gName i)) (wAsg (wLc wi wg wt we (own.map (·.2))) (wgName i)) :=
  ⟨ps_setLc hc hN hy hyl hsw hi.pe ok (fun s H C cl fp => (hg s H C cl fp).pe) (fun s H C cl fp => (ht s H C cl fp).pe) (fun s H C cl fp => (he s H C cl fp).pe) hs, sim_asg (sim_lc hi.sm (hg X.s_0 X.H_0 0 [] []).sm (ht X.s_0 X.H_0 0 [] []).sm (he X.s_0 X.H_0 0 [] []).sm kp) (sim_gname i)⟩

section
variable {scope : Scope} {own : List (Str × Nat)} {gF : Shared → Hp → Addr → List (Str × Addr) → List Addr → TG} {tF : Shared → Hp → Addr → List (Str × Addr) → List Addr → TT} {eF : Shared → Hp → Addr → List (Str × Addr) → List Addr → TE}
theorem de_lc (hc : X.calm = true) (hN : X.N.Nodup) (hi : DI X tgt iter ti wi) (ok : BlkOk X.N X.env.scope scope own)
    (hg : ∀ (s : Shared) (H : Hp) (C : Addr) (cl : List (Str × Addr)) (fp : List Addr), DG (X.blk s H scope (compEnvC scope cl C X.env) fp) tgt (gF s H C cl fp) wg) (ht : ∀ (s : Shared) (H : Hp) (C : Addr) (cl : List (Str × Addr)) (fp : List Addr), DTs (X.blk s H scope (compEnvC scope cl C X.env) fp) ifs (tF s H C cl fp) wt)
    (he : ∀ (s : Shared) (H : Hp) (C : Addr) (cl : List (Str × Addr)) (fp : List Addr), DE (X.blk s H scope (compEnvC scope cl C X.env) fp) elt (eF s H C cl fp) we) (kp : KeepG (own.map (·.2)) (gF X.s_0 X.H_0 0 [] [])) (hs : ∀ x, foldedSetIterable iter X.env x = pure x := by intro _; rfl)
    (qg : ∀ s H C cl fp, gF s H C cl fp = gF X.s_0 X.H_0 0 [] [] := by intros; rfl) (qt : ∀ s H C cl fp, tF s H C cl fp = tF X.s_0 X.H_0 0 [] [] := by intros; rfl) (qe : ∀ s H C cl fp, eF s H C cl fp = eF X.s_0 X.H_0 0 [] [] := by intros; rfl) :
    DE X (.ListComp elt [⟨tgt, iter, ifs, 0⟩] scope pos) (tLc ti (gF X.s_0 X.H_0 0 [] []) (tF X.s_0 X.H_0 0 [] []) (eF X.s_0 X.H_0 0 [] []) (own.map (·.2))) (wLc wi wg wt we (own.map (·.2))) :=
  de_lc0 hc hN hi ok (fun s H C cl fp => qg s H C cl fp ▸ hg s H C cl fp) (fun s H C cl fp => qt s H C cl fp ▸ ht s H C cl fp) (fun s H C cl fp => qe s H C cl fp ▸ he s H C cl fp) kp hs
theorem ds_setLc (i : Nat) {y : Str} {py : Pos} {spos : Pos} (hc : X.calm = true) (hN : X.N.Nodup) (hi : DI X tgt iter ti wi) (ok : BlkOk X.N X.env.scope scope own)
    (hg : ∀ (s : Shared) (H : Hp) (C : Addr) (cl : List (Str × Addr)) (fp : List Addr), DG (X.blk s H scope (compEnvC scope cl C X.env) fp) tgt (gF s H C cl fp) wg) (ht : ∀ (s : Shared) (H : Hp) (C : Addr) (cl : List (Str × Addr)) (fp : List Addr), DTs (X.blk s H scope (compEnvC scope cl C X.env) fp) ifs (tF s H C cl fp) wt)
    (he : ∀ (s : Shared) (H : Hp) (C : Addr) (cl : List (Str × Addr)) (fp : List Addr), DE (X.blk s H scope (compEnvC scope cl C X.env) fp) elt (eF s H C cl fp) we) (kp : KeepG (own.map (·.2)) (gF X.s_0 X.H_0 0 [] []))
    (hsw : swapsWith (.ListComp elt [⟨tgt, iter, ifs, 0⟩] scope pos) (some (.Name y py)) spos.line X.env = pure true) (hy : X.N[i]? = some y := by rfl) (hyl : X.env.scope.names.lookup y = some .local := by rfl) (hs : ∀ x, foldedSetIterable iter X.env x = pure x := by intro _; rfl)
    (qg : ∀ s H C cl fp, gF s H C cl fp = gF X.s_0 X.H_0 0 [] [] := by intros; rfl) (qt : ∀ s H C cl fp, tF s H C cl fp = tF X.s_0 X.H_0 0 [] [] := by intros; rfl) (qe : ∀ s H C cl fp, eF s H C cl fp = eF X.s_0 X.H_0 0 [] [] := by intros; rfl) :
    DS X E (.Assign [.Name y py] (.ListComp elt [⟨tgt, iter, ifs, 0⟩] scope pos) spos) (tAsg (tLc ti (gF X.s_0 X.H_0 0 [] []) (tF X.s_0 X.H_0 0 [] []) (eF X.s_0 X.H_0 0 [] []) (own.map (·.2))) (gName i)) (wAsg (wLc wi wg wt we (own.map (·.2))) (wgName i)) :=
  ds_setLc0 i hc hN hi ok (fun s H C cl fp => qg s H C cl fp ▸ hg s H C cl fp) (fun s H C cl fp => qt s H C cl fp ▸ ht s H C cl fp) (fun s H C cl fp => qe s H C cl fp ▸ he s H C cl fp) kp hsw hy hyl hs
end
/-! ### built-in functions -/
abbrev FC := List D → Mp → KD → Prop
def SimC (K : PySem.W.Frag) (r : List V → Hp → VK → Prop) (f : FC) : Prop := ∀ (Z : Hp) (xs : List V) (ds : List D) (H : Hp) (M : Mp) (Q : KD) (Q' : VK), Sat K Z H M → RepL K (fz Z H M) xs ds → f ds M Q → (∀ v d' H' M', Go K Z H M H' M' → Rep K (fz Z H' M') v d' → Q d' M' → Q' v H') → r xs H Q'
def wCB (f : FC) (r : WA) : WE := fun ρ M Q => r ρ M fun ds M1 => f ds M1 Q
theorem sim_CB {K : PySem.W.Frag} {r : List V → Hp → VK → Prop} {f : FC} (ha : SimA K tr wr) (hs : SimC K r f) : SimE K (tCB r tr) (wCB f wr) := by
  intro Z ρ M σ H Q Q' s h q
  refine ha Z ρ M σ H _ _ s h fun xs ds H1 M1 g1 r1 q1 => ?_
  exact hs Z xs ds H1 M1 Q Q' g1.sat r1 q1 fun v d H2 M2 g2 r2 q2 => q v d H2 M2 (g1.trans g2) r2 q2
theorem de_callB {x : Str} {p : Pos} {id : String} {r : List V → Hp → VK → Prop} {f : FC} (hc : CallR X (.builtin id) r) (hs : SimC X.K r f) (hm : X.mg x = none) (hv : bootBuiltins x = some (.builtin id)) (ha : DA X (e :: es) tr wr) (hg : Gl X x := by rfl) (hn : x ≠ "__name__" := by decide) (hdb : (x == ("__debug__" : Str)) = false := by decide)
    (he : starEach (e :: es) X.env = (false, eval e X.env) :: starEach es X.env := by rfl) (hpl : (backTo pos (starEach es X.env)).any (·.1) = false := by rfl) : DE X (.Call (.Name x p) (e :: es) [] pos) (tCB r tr) (wCB f wr) := ⟨pe_callB hc hg hm hv ha.pe hn hdb he hpl, sim_CB ha.sm hs⟩
theorem de_callTy {x : Str} {p : Pos} {T : String} {r : List V → Hp → VK → Prop} {f : FC} (hc : CallR X (.type T) r) (hs : SimC X.K r f) (hm : X.mg x = none) (hv : bootBuiltins x = some (.type T)) (ha : DA X (e :: es) tr wr) (hg : Gl X x := by rfl) (hn : x ≠ "__name__" := by decide) (hdb : (x == ("__debug__" : Str)) = false := by decide)
    (he : starEach (e :: es) X.env = (false, eval e X.env) :: starEach es X.env := by rfl) (hpl : (backTo pos (starEach es X.env)).any (·.1) = false := by rfl) : DE X (.Call (.Name x p) (e :: es) [] pos) (tCB r tr) (wCB f wr) := ⟨pe_callTy hc hg hm hv ha.pe hn hdb he hpl, sim_CB ha.sm hs⟩
/-- repr -/
def fRepr : FC := fun ds M Q => match ds with
  | [d] => (∃ n, n ≤ 60 ∧ shw n (res M d)) ∧ cost (res M d) ≤ 16000000 ∧ Q (.str (shown (res M d))) M
  | _ => False
theorem sim_repr {K : PySem.W.Frag} : SimC K (fun xs H Q => ∃ (x : V) (d : D) (n : Nat), xs = [x] ∧ Rep K H x d ∧ shw n d ∧ n ≤ 60 ∧ cost d ≤ 16000000 ∧ Q (.str (shown d)) H) fRepr := by
  intro Z xs ds H M Q Q' S r f q
  unfold fRepr at f
  split at f
  · cases r with
    | cons r1 r2 =>
      cases r2
      obtain ⟨⟨n, hn, hs⟩, hc, z⟩ := f
      exact ⟨_, _, n, rfl, res_rep S r1, hs, hn, hc, q _ _ H M (Go.refl S) (.str _) z⟩
  · exact f.elim
/-- len -/
def fLen : FC := fun ds M Q => match ds with
  | [.str x] => x.length ≤ sizeLine ∧ Q (.int (x.length : Int)) M
  | [d] => ∃ es, seqD M d = some es ∧ Q (.int (es.length : Int)) M
  | _ => False
def rLenA (K : PySem.W.Frag) : List V → Hp → VK → Prop := fun xs H Q => (∃ p ys, xs = [.ref p] ∧ (SqL K H p ys ∨ SqT K H p ys) ∧ Q (.int ys.length) H) ∨ ∃ z, xs = [.str z] ∧ z.length ≤ sizeLine ∧ Q (.int z.length) H
theorem call_lenA : CallR X (.builtin "len") (rLenA X.K) := call_len_seq.or call_len_str
theorem sim_len {K : PySem.W.Frag} : SimC K (rLenA K) fLen := by
  intro Z xs ds H M Q Q' S r f q
  unfold fLen at f
  split at f
  · cases r with
    | cons r1 r2 =>
      cases r2
      cases r1
      exact .inr ⟨_, rfl, f.1, q _ _ H M (Go.refl S) (.int _) f.2⟩
  · cases r with
    | cons r1 r2 =>
      cases r2
      obtain ⟨es, hs, z⟩ := f
      obtain ⟨p, vs, rfl, hv, rl⟩ := seq_of S r1 hs
      refine .inl ⟨p, vs, rfl, hv, q _ _ H M (Go.refl S) ?_ z⟩
      rw [rl.len]
      exact .int _
  · exact f.elim
/-- int(x) of an int, a bool -/
def fInt : FC := fun ds M Q => match ds with
  | [.int i] => Q (.int i) M
  | [.bl b] => Q (.int (if b then 1 else 0)) M
  | _ => False
theorem sim_int {K : PySem.W.Frag} : SimC K (fun xs H Q => (∃ i, xs = [.int i] ∧ Q (.int i) H) ∨ ∃ k, xs = [.bl k] ∧ Q (.int (if k then 1 else 0)) H) fInt := by
  intro Z xs ds H M Q Q' S r f q
  unfold fInt at f
  split at f
  · cases r with
    | cons r1 r2 =>
      cases r2
      cases r1
      exact .inl ⟨_, rfl, q _ _ H M (Go.refl S) (.int _) f⟩
  · cases r with
    | cons r1 r2 =>
      cases r2
      cases r1
      exact .inr ⟨_, rfl, q _ _ H M (Go.refl S) (.int _) f⟩
  · exact f.elim
def fAbs : FC := fun ds M Q => match ds with
  | [.int i] => Q (.int (if i < 0 then -i else i)) M
  | _ => False
theorem sim_abs {K : PySem.W.Frag} : SimC K (fun xs H Q => ∃ i, xs = [.int i] ∧ Q (.int (if i < 0 then -i else i)) H) fAbs := by
  intro Z xs ds H M Q Q' S r f q
  unfold fAbs at f
  split at f
  · cases r with
    | cons r1 r2 =>
      cases r2
      cases r1
      exact ⟨_, rfl, q _ _ H M (Go.refl S) (.int _) f⟩
  · exact f.elim
def f2I (g : Int → Int → Int) : FC := fun ds M Q => match ds with
  | [.int i, .int j] => Q (.int (g i j)) M
  | _ => False
theorem sim_2I {K : PySem.W.Frag} {g : Int → Int → Int} : SimC K (fun xs H Q => ∃ i j, xs = [.int i, .int j] ∧ Q (.int (g i j)) H) (f2I g) := by
  intro Z xs ds H M Q Q' S r f q
  unfold f2I at f
  split at f
  · cases r with
    | cons r1 r2 =>
      cases r2 with
      | cons r2 r3 =>
        cases r3
        cases r1
        cases r2
        exact ⟨_, _, rfl, q _ _ H M (Go.refl S) (.int _) f⟩
  · exact f.elim
/-- tuple(x), list(x) of a list or a tuple -/
def fTuple : FC := fun ds M Q => match ds with
  | [d] => ∃ es, seqD M d = some es ∧ Q (.tup es) M
  | _ => False
theorem sim_tuple {K : PySem.W.Frag} : SimC K (fun xs H Q => ∃ p ys, xs = [.ref p] ∧ ((SqL K H p ys ∧ ∀ l, H l = none → Q (.ref l) (upd H l (.tup ys))) ∨ (SqT K H p ys ∧ Q (.ref p) H))) fTuple := by
  intro Z xs ds H M Q Q' S r f q
  unfold fTuple at f
  split at f
  · cases r with
    | cons r1 r2 =>
      cases r2
      obtain ⟨es, hs, z⟩ := f
      cases hd : ‹D› with
      | tup us =>
        subst hd
        obtain rfl : us = es := Option.some.inj hs
        cases r1 with
        | tup h1 rl => exact ⟨_, _, rfl, .inr ⟨sqt_mono fz_sub h1, q _ _ H M (Go.refl S) (.tup h1 rl) z⟩⟩
      | lst us =>
        subst hd
        obtain ⟨p, vs, rfl, hv, rl⟩ := lst_of S r1 ⟨0, .inr (by obtain rfl : us = es := Option.some.inj hs; rfl)⟩ hs
        refine ⟨p, vs, rfl, .inl ⟨hv, fun l hl => ?_⟩⟩
        obtain ⟨g, n⟩ := Go.laid (o := .tup vs) S hl
        exact q _ _ _ _ g (.tup (.inl (.inl n)) (rl.up g.ex)) z
      | tok p0 =>
        subst hd
        obtain ⟨p, vs, rfl, hv, rl⟩ := lst_of S r1 ⟨p0, .inl rfl⟩ hs
        refine ⟨p, vs, rfl, .inl ⟨hv, fun l hl => ?_⟩⟩
        obtain ⟨g, n⟩ := Go.laid (o := .tup vs) S hl
        exact q _ _ _ _ g (.tup (.inl (.inl n)) (rl.up g.ex)) z
      | non => subst hd; cases hs
      | bl _ => subst hd; cases hs
      | int _ => subst hd; cases hs
      | str _ => subst hd; cases hs
      | ty _ => subst hd; cases hs
  · exact f.elim
def fList : FC := fun ds M Q => match ds with
  | [d] => ∃ es, seqD M d = some es ∧ Q (.lst es) M
  | _ => False
def rListA (K : PySem.W.Frag) : List V → Hp → VK → Prop := fun xs H Q => ∃ p ys, xs = [.ref p] ∧ (SqL K H p ys ∨ SqT K H p ys) ∧ ∀ l, H l = none → Q (.ref l) (upd H l (.lst ys))
theorem sim_list {K : PySem.W.Frag} : SimC K (rListA K) fList := by
  intro Z xs ds H M Q Q' S r f q
  unfold fList at f
  split at f
  · cases r with
    | cons r1 r2 =>
      cases r2
      obtain ⟨es, hs, z⟩ := f
      obtain ⟨p, vs, rfl, hv, rl⟩ := seq_of S r1 hs
      refine ⟨p, vs, rfl, hv, fun l hl => ?_⟩
      obtain ⟨g, n⟩ := Go.laid (o := .lst vs) S hl
      exact q _ _ _ _ g (.lst (.inl (.inl n)) (rl.up g.ex)) z
  · exact f.elim
def fListM : FC := fun ds M Q => match ds with
  | [d] => ∃ es, seqD M d = some es ∧ ∀ p, M p = none → Q (.tok p) (setM M p (.lst es))
  | _ => False
theorem sim_listM {K : PySem.W.Frag} : SimC K (rListA K) fListM := by
  intro Z xs ds H M Q Q' S r f q
  unfold fListM at f
  split at f
  · cases r with
    | cons r1 r2 =>
      cases r2
      obtain ⟨es, hs, z⟩ := f
      obtain ⟨p, vs, rfl, hv, rl⟩ := seq_of S r1 hs
      refine ⟨p, vs, rfl, hv, fun l hl => ?_⟩
      exact q _ _ _ _ (Go.putL S (.inl hl) rl) (.tok l) (z l (S.free hl))
  · exact f.elim
/-- sum, any, all of lists -/
def fSum : FC := fun ds M Q => match ds with
  | [d] => ∃ ns : List Int, (∃ a, d = .tok a ∨ d = .lst (ns.map .int)) ∧ seqD M d = some (ns.map .int) ∧ Q (.int ns.sum) M
  | _ => False
theorem sim_sum {K : PySem.W.Frag} : SimC K (rSum K) fSum := by
  intro Z xs ds H M Q Q' S r f q
  unfold fSum at f
  split at f
  · cases r with
    | cons r1 r2 =>
      cases r2
      obtain ⟨ns, hd, hs, z⟩ := f
      obtain ⟨p, vs, rfl, hv, rl⟩ := lst_of S r1 hd hs
      obtain rfl := rl.ints
      exact ⟨p, ns, rfl, hv, q _ _ H M (Go.refl S) (.int _) z⟩
  · exact f.elim
def fBls (g : List Bool → Bool) : FC := fun ds M Q => match ds with
  | [d] => ∃ ns : List Bool, (∃ a, d = .tok a ∨ d = .lst (ns.map .bl)) ∧ seqD M d = some (ns.map .bl) ∧ Q (.bl (g ns)) M
  | _ => False
theorem sim_any {K : PySem.W.Frag} : SimC K (rAny K) (fBls fun bs => bs.any id) := by
  intro Z xs ds H M Q Q' S r f q
  unfold fBls at f
  split at f
  · cases r with
    | cons r1 r2 =>
      cases r2
      obtain ⟨ns, hd, hs, z⟩ := f
      obtain ⟨p, vs, rfl, hv, rl⟩ := lst_of S r1 hd hs
      obtain rfl := rl.bls
      exact ⟨p, ns, rfl, hv, q _ _ H M (Go.refl S) (.bl _) z⟩
  · exact f.elim
theorem sim_all {K : PySem.W.Frag} : SimC K (rAll K) (fBls fun bs => bs.all id) := by
  intro Z xs ds H M Q Q' S r f q
  unfold fBls at f
  split at f
  · cases r with
    | cons r1 r2 =>
      cases r2
      obtain ⟨ns, hd, hs, z⟩ := f
      obtain ⟨p, vs, rfl, hv, rl⟩ := lst_of S r1 hd hs
      obtain rfl := rl.bls
      exact ⟨p, ns, rfl, hv, q _ _ H M (Go.refl S) (.bl _) z⟩
  · exact f.elim
/-- the greatest, the least of a list of ints -/
def fMost (le : Int → Int → Prop) : FC := fun ds M Q => match ds with
  | [d] => ∃ ns : List Int, (∃ a, d = .tok a ∨ d = .lst (ns.map .int)) ∧ seqD M d = some (ns.map .int) ∧ 0 < ns.length ∧ ∀ m, m ∈ ns → (∀ y ∈ ns, le y m) → Q (.int m) M
  | _ => False
theorem sim_max {K : PySem.W.Frag} : SimC K (rMax K) (fMost fun y m => y ≤ m) := by
  intro Z xs ds H M Q Q' S r f q
  unfold fMost at f
  split at f
  · cases r with
    | cons r1 r2 =>
      cases r2
      obtain ⟨ns, hd, hs, hl, z⟩ := f
      obtain ⟨p, vs, rfl, hv, rl⟩ := lst_of S r1 hd hs
      obtain rfl := rl.ints
      exact ⟨p, ns, rfl, hv, hl, fun m h1 h2 => q _ _ H M (Go.refl S) (.int _) (z m h1 h2)⟩
  · exact f.elim
theorem sim_min {K : PySem.W.Frag} : SimC K (rMin K) (fMost fun y m => m ≤ y) := by
  intro Z xs ds H M Q Q' S r f q
  unfold fMost at f
  split at f
  · cases r with
    | cons r1 r2 =>
      cases r2
      obtain ⟨ns, hd, hs, hl, z⟩ := f
      obtain ⟨p, vs, rfl, hv, rl⟩ := lst_of S r1 hd hs
      obtain rfl := rl.ints
      exact ⟨p, ns, rfl, hv, hl, fun m h1 h2 => q _ _ H M (Go.refl S) (.int _) (z m h1 h2)⟩
  · exact f.elim
/-- sorted of a list of ints -/
def fSorted : FC := fun ds M Q => match ds with
  | [d] => ∃ ns : List Int, (∃ a, d = .tok a ∨ d = .lst (ns.map .int)) ∧ seqD M d = some (ns.map .int) ∧ ns.length < 64 ∧ ∀ ms : List Int, ms.Perm ns → ms.Pairwise (· ≤ ·) → Q (.lst (ms.map .int)) M
  | _ => False
theorem sim_sorted {K : PySem.W.Frag} : SimC K (rSorted K) fSorted := by
  intro Z xs ds H M Q Q' S r f q
  unfold fSorted at f
  split at f
  · cases r with
    | cons r1 r2 =>
      cases r2
      obtain ⟨ns, hd, hs, hl, z⟩ := f
      obtain ⟨p, vs, rfl, hv, rl⟩ := lst_of S r1 hd hs
      obtain rfl := rl.ints
      refine ⟨p, ns, rfl, hv, hl, fun ms l h1 h2 hl => ?_⟩
      obtain ⟨g, n⟩ := Go.laid (o := .lst (ms.map V.int)) S hl
      exact q _ _ _ _ g (.lst (.inl (.inl n)) (.ofInts ms)) (z ms h1 h2)
  · exact f.elim
end
end L3
namespace L3
open PySem L2
/-! ### the law's own call -/
theorem law_g {P : Program} {w : World} {K : PySem.W.Frag} {mg mb : Str → Option Value} {k : Nat} {fa a : Addr} {fd : FuncData} {x : Str} {sp : Sp} {s1 : Shared} {vs : List Value} {ns : List Int}
    (KX : K.In s1.heap) (hns : s1.heap.Ns mainGlobals mg) (hb : s1.heap.Ns builtinsNs mb) (hbb : ∀ x : Str, x ≠ "__name__" → mb x = bootBuiltins x) (hlim : s1.heap.NoLimit) (hg : s1.gens = #[])
    (ha : s1.heap.get? a = some { cls := .type "list", data := .seq vs.toArray }) (hi : PyProof.Rows.IntsAre vs ns) (hl : ns.length ≤ sizeLine) (hr : Room k callerA)
    (F : ∀ base : Heap, K.In base → base.Ns mainGlobals mg → FnG P w K mg base k fa fd [x] sp) (hbind : ∀ (s : Shared) (u : Value), BindsTo s fd ⟨[u], []⟩ [(x, u)])
    (hsp : ∀ H : Hp, SqL K H a (ns.map V.int) → sp [.ref a] H (fun v _ => v = .bl true) fun _ _ _ => False) :
    codeAny (model P w) callerA (.call (.ref fa) ⟨[.ref a], []⟩) (fun r s' => r = .ok (.ret (.bool true)) ∧ OldK s1.heap s'.heap ∧ s'.os = s1.os ∧ PyProof.Rows.AllBare s'.gens) s1 := by
  have vals := vals_ints hi
  have hlen := hi.length
  have main : ∀ H : Hp, Only H → SqL K H a (ns.map V.int) → HOk P w H s1.heap → (∀ b, H b ≠ none → b = a) → (H a ≠ none → K.lookup a = none) →
      codeAny (model P w) callerA (.call (.ref fa) ⟨[.ref a], []⟩) (fun r s' => r = .ok (.ret (.bool true)) ∧ OldK s1.heap s'.heap ∧ s'.os = s1.os ∧ PyProof.Rows.AllBare s'.gens) s1 := by
    intro H only sq hok hA hK
    have eqa : ∀ {b : Addr} {u : HO}, H b = some u → b = a := fun {b u} q => hA b (by rw [q]; exact fun z => nomatch z)
    have free : ∀ {b : Addr} {o : Obj}, s1.heap.get? b = some o → o ≠ { cls := .type "list", data := .seq vs.toArray } → H b = none := fun {b o} e d => by
      cases q : H b with
      | none => rfl
      | some u =>
        have e' := eqa q
        subst e'
        rw [ha] at e
        exact absurd (Option.some.inj e).symm d
    have nsK : ∀ {b : Addr} {m : Str → Option Value}, s1.heap.Ns b m → (hidT s1.heap H).Ns b m := fun {b m} ⟨o, es, ep, e, d, r⟩ =>
      ⟨o, es, ep, hidT_get e (free e fun z => by rw [z] at d; exact nomatch d), d, r⟩
    have kin : K.In (hidT s1.heap H) := fun b o e => hidT_get (KX b o e) (by
      cases q : H b with
      | none => rfl
      | some u =>
        have e' := eqa q
        subst e'
        rw [hK (by rw [q]; exact fun z => nomatch z)] at e
        exact nomatch e)
    have md : Mod K mg (hidT s1.heap H) := ⟨kin, nsK hns, ⟨mb, nsK hb, hbb⟩, hlim.elim fun mc h => ⟨mc, nsK h.1, h.2⟩⟩
    have e0 : Env0 P w K mg (hidT s1.heap H) callerA [] s1 H := ⟨rfl, md, fun b o e => of_hidT e, Nat.le_of_eq (hidT_size _ _), trivial, fun b z => absurd z List.not_mem_nil, hok, .of_eq hg⟩
    refine codeAny_mono ((F _ kin (nsK hns)).run callerA [] s1 H ⟨[.ref a], []⟩ [.ref a] [.ref a] _ _ rfl hr e0 (hbind s1 (.ref a)) (.cons rfl .nil) (hsp H sq)) fun r s' h => ?_
    cases r with
    | error e =>
      obtain ⟨_, _, _, _, _, _, _, _, _, _, _, _, z⟩ := h
      exact z.elim
    | ok fl =>
      cases fl with
      | next => exact h.elim
      | brk => exact h.elim
      | cont => exact h.elim
      | ret u =>
        obtain ⟨v, H', os, bare, un, hok', rv, q⟩ := h
        subst q
        obtain rfl : u = Value.bool true := rv
        refine ⟨rfl, OldK.of_keep fun b o e => ?_, os, bare⟩
        cases q : H b with
        | none => exact un.keep b o e q List.not_mem_nil List.not_mem_nil
        | some u =>
          rcases only b with z | ⟨ob, xs, z⟩
          · rw [q] at z
            exact nomatch z
          · have e1 := (hok b _ z).1
            have e2 := (hok' b _ (un.frzs b ob _ z)).1
            rw [e] at e1
            rw [Option.some.inj e1]
            exact e2
  cases hk : K.lookup a with
  | some o =>
    have e := KX a o hk
    rw [ha] at e
    cases e
    exact main (fun _ => none) (fun _ => .inl rfl) (.inr ⟨_, vs.toArray, _, hk, rfl, rfl, rfl, by rw [List.size_toArray, hlen]; exact hl, by simpa using vals⟩) (fun _ _ z => nomatch z) (fun _ z => absurd rfl z) fun z => absurd rfl z
  | none =>
    refine main (fun b => if b = a then some (.frz { cls := .type "list", data := .seq vs.toArray } (.lst (ns.map V.int))) else none) (fun b => ?_) (.inl (.inr ⟨{ cls := .type "list", data := .seq vs.toArray }, if_pos rfl⟩)) (fun b u z => ?_) (fun b z => ?_) fun _ => hk
    · rcases Decidable.em (b = a) with e | e
      · exact .inr ⟨_, _, if_pos e⟩
      · exact .inl (if_neg e)
    · rcases Decidable.em (b = a) with e | e
      · have z' := (if_pos e).symm.trans z
        cases z'
        rw [e]
        exact ⟨ha, by rw [List.length_map]; exact hl, vs, _, vals, ha⟩
      · have z' := (if_neg e).symm.trans z
        cases z'
    · rcases Decidable.em (b = a) with e | e
      · exact e
      · exact absurd (if_neg e) z
theorem walk_g {l : PySem.W.OpenLaw} {n k : Nat} {q : Program} {loose : List Str} {XP : (Str → Option Value) → Heap → Prop} {YP : World → Heap → Prop} {d : DefRec} {K : Params → PySem.W.Frag} {sp : World → Sp} {x : Str}
    (hn : l.most = some n) (hn2 : n ≤ sizeLine) (hdf : d.params.defaults = []) (hr : Room k callerA) (hY : ∀ (w : World) (h : Heap), YP w h → (K w.params).In h)
    (F : ∀ (w : World) (mg : Str → Option Value) (fa : Addr) (h : Heap), (K w.params).In h → h.Ns mainGlobals mg → mg d.name = some (.ref fa) →
      ∃ fd : FuncData, (∀ (s : Shared) (u : Value), BindsTo s fd ⟨[u], []⟩ [(x, u)]) ∧ ∀ base : Heap, (K w.params).In base → base.Ns mainGlobals mg → FnG l.prog w (K w.params) mg base k fa fd [x] (sp w))
    (hsp : ∀ (w : World) (H : Hp) (a : Addr) (ns : List Int), ns.length ≤ n → SqL (K w.params) H a (ns.map V.int) → sp w [.ref a] H (fun v _ => v = .bl true) fun _ _ _ => False) :
    PySem.W.WalkO q loose XP YP l.row.toRowW d [] (fun f vs => PySem.call f vs) := by
  refine Att.attach_call hn hdf fun w s0 s1 mg mb fa o pm cd doc a vs ns G Y ho hd hcd hmg hobj hints hlen hg => ?_
  obtain ⟨fd, hb, hF⟩ := F w mg fa _ (hY w _ Y) G.T.g hmg
  exact law_g (hY w _ Y) G.T.g G.T.b G.T.builtins G.T.nolimit hg hobj hints (Nat.le_trans hlen hn2) hr hF hb fun H hS => hsp w H a ns hlen hS

/-! ### a def of the text with its contract -/
structure Has (P : Program) (w : World) (K : PySem.W.Frag) (mg : Str → Option Value) (base : Heap) (k : Nat) (x : Str) (st : Stmt) (ps : List Str) (F : Fs) : Prop where
  ex : ∃ (f : Addr) (fd : FuncData), FnG P w K mg base k f fd ps (lift K F) ∧ mg x = some (.ref f) ∧ Fun K x x st f fd ∧ Binds K fd ps []
section
variable {X : Cx} {E : XK} {e a b c : Expr} {es : List Expr} {t ta tb tc te : TE} {w wa wb wc we : WE} {pos p : Pos} {k : Nat} {tr tk : TA} {wr wk : WA} {x : Str} {st : Stmt} {ps : List Str} {F : Fs} {kws : List Keyword}
theorem de_h (h : Has X.prog X.w X.K X.mg X.base k x st ps F) (hr : Room k X.A) (gd : X.A.guards = some []) (ha : DA X (e :: es) tr wr) (hg : Gl X x := by rfl) (hdb : (x == ("__debug__" : Str)) = false := by decide)
    (he : starEach (e :: es) X.env = (false, eval e X.env) :: starEach es X.env := by rfl) (hpl : (backTo pos (starEach es X.env)).any (·.1) = false := by rfl) : DE X (.Call (.Name x p) (e :: es) [] pos) (tCallG (lift X.K F) [] E0 tr) (wCall F wr) := by
  obtain ⟨f, fd, G, hm, Fn, hb⟩ := h.ex
  exact de_call G hr gd hm Fn.kp hb ha hg hdb he hpl
theorem de_h0 (h : Has X.prog X.w X.K X.mg X.base k x st ps F) (hr : Room k X.A) (gd : X.A.guards = some []) (hg : Gl X x := by rfl) (hdb : (x == ("__debug__" : Str)) = false := by decide) : DE X (.Call (.Name x p) [] [] pos) (tCallG (lift X.K F) [] E0 tNil) (wCall F wNil) := by
  obtain ⟨f, fd, G, hm, Fn, hb⟩ := h.ex
  exact de_call0 G hr gd hm Fn.kp hb hg hdb
/-- how a call with keywords binds: shown by «fun _ _ _ _ _ _ us ws h1 h2 => match us, ws, h1, h2 with | [_], [_, _], _, _ => rfl» -/
def Kw (x : Str) (st : Stmt) (ps : List Str) (n : Nat) (ks : List Str) (idx : List Nat) : Prop := ∀ (kV doc pm : Value) (an : Option Addr) (cdv ct : Value) (us ws : List Value), us.length = n → ws.length = ks.length →
  bindArgs (PySem.W.fnOf x x (defArgs st) (defBody st) (defScope st) .none kV doc pm an cdv ct) ⟨us, ks.zip ws⟩ = pure (ps.zip (permU idx us ws))
theorem kb_of {K : PySem.W.Frag} {f : Addr} {fd : FuncData} {n : Nat} {ks : List Str} {idx : List Nat} (Fn : Fun K x x st f fd) (h : Kw x st ps n ks idx) : KB K fd ps n ks idx := by
  obtain ⟨oc, od, kV, doc, pm, an, cdv, ct, osl, rfl, lk, hcd⟩ := Fn.ex
  exact fun s us ws _ h1 h2 => .of_eq (h kV doc pm an cdv ct us ws h1 h2)
theorem de_hk {n : Nat} {ks : List Str} {idx : List Nat} (h : Has X.prog X.w X.K X.mg X.base k x st ps F) (hr : Room k X.A) (gd : X.A.guards = some []) (kb : Kw x st ps n ks idx) (ha : DA X (e :: es) tr wr) (hkw : DK X kws tk wk) (hg : Gl X x := by rfl)
    (hall : (backToKw pos (keywordEach kws X.env)).all (·.1.isSome) = true := by rfl) (hks : (backToKw pos (keywordEach kws X.env)).filterMap (·.1) = ks := by rfl)
    (hdb : (x == ("__debug__" : Str)) = false := by decide) (he : starEach (e :: es) X.env = (false, eval e X.env) :: starEach es X.env := by rfl)
    (hpl : ((backTo pos (starEach (e :: es) X.env)).any (·.1) || (backToKw pos (keywordEach kws X.env)).any (·.1.isNone)) = false := by rfl) :
    DE X (.Call (.Name x p) (e :: es) kws pos) (tCallGK n ks.length idx (lift X.K F) E0 tr tk) (wCallK n ks.length idx F wr wk) := by
  obtain ⟨f, fd, G, hm, Fn, hb⟩ := h.ex
  exact de_callK G hr gd hm Fn.kp (kb_of Fn kb) ha hkw hg hall hks hdb he hpl
theorem de_hk0 {ks : List Str} {idx : List Nat} (h : Has X.prog X.w X.K X.mg X.base k x st ps F) (hr : Room k X.A) (gd : X.A.guards = some []) (kb : Kw x st ps 0 ks idx) (hkw : DK X kws tk wk) (hg : Gl X x := by rfl)
    (hall : (backToKw pos (keywordEach kws X.env)).all (·.1.isSome) = true := by rfl) (hks : (backToKw pos (keywordEach kws X.env)).filterMap (·.1) = ks := by rfl)
    (hdb : (x == ("__debug__" : Str)) = false := by decide)
    (hpl : ((backTo pos (starEach [] X.env)).any (·.1) || (backToKw pos (keywordEach kws X.env)).any (·.1.isNone)) = false := by rfl) :
    DE X (.Call (.Name x p) [] kws pos) (tCallGK 0 ks.length idx (lift X.K F) E0 tNil tk) (wCallK 0 ks.length idx F wNil wk) := by
  obtain ⟨f, fd, G, hm, Fn, hb⟩ := h.ex
  exact de_callK0 G hr gd hm Fn.kp (kb_of Fn kb) hkw hg hall hks hdb hpl
end
theorem Has.mk' {P : Program} {w : World} {K : PySem.W.Frag} {mg : Str → Option Value} {base : Heap} {k : Nat} {x : Str} {st : Stmt} {ps : List Str} {F : Fs} {f : Addr} {fd : FuncData} (Fn : Fun K x x st f fd) (hm : mg x = some (.ref f)) (G : FnG P w K mg base k f fd ps (lift K F))
    (hb : ∀ (kV doc pm : Value) (an : Option Addr) (cdv ct : Value) (us : List Value), us.length = ps.length → bindArgs (PySem.W.fnOf x x (defArgs st) (defBody st) (defScope st) .none kV doc pm an cdv ct) ⟨us, []⟩ = pure (ps.zip us)) : Has P w K mg base k x st ps F := ⟨f, fd, G, hm, Fn, Fn.binds hb⟩

/-! ### the draws -/
def drawF : Fs := fun ds M Q _ => ∃ a a0 n, ds = [.tok a, .int n] ∧ M a = some (.drw a0) ∧ 0 < n ∧ n.natAbs.log2 < 9000 ∧ ∀ k, 0 ≤ k → k < n → Q (.int k) M
/-- one of a list's or tuple's items -/
def pickF : Fs := fun ds M Q _ => ∃ a a0 d es, ds = [.tok a, d] ∧ M a = some (.drw a0) ∧ seqD M d = some es ∧ 0 < es.length ∧ es.length ≤ 1000000 ∧ ∀ x ∈ es, Q x M
end L3
namespace L3
open PySem L2
theorem call_isqrt {X : Cx} : CallR X (.builtin "math.isqrt") (fun xs H Q => ∃ a : Int, xs = [.int a] ∧ 0 ≤ a ∧ a < 2 ^ 13000 ∧ Q (.int (Float64.isqrt a.toNat : Nat)) H) := by
  intro pins s σ H xs us Q I r h
  obtain ⟨a, rfl, h0, h1, q⟩ := h
  cases r with
  | cons r1 r2 =>
    cases r2
    obtain ⟨t, rfl⟩ := r1
    have hl : a.toNat.log2 < 13000 := by
      by_cases z : a.toNat = 0
      · rw [z]
        decide
      · rw [Nat.log2_lt z]
        have e : (a.toNat : Int) = a := Int.toNat_of_nonneg h0
        have e2 : (a.toNat : Int) < ((2 ^ 13000 : Nat) : Int) := by
          rw [e]
          exact_mod_cast h1
        exact_mod_cast e2
    refine PySem.Flt.call_fn_gives PySem.W.MGF.kind_isqrt PySem.W.MGF.plain_isqrt PySem.W.MGF.entry_isqrt (PySem.W.MGF.args_isqrt _) (PySem.W.mg_run_isqrt a t (by omega) (by omega) (by omega)) ?_
    exact ⟨.int _, H, I.tok _, ⟨_, rfl⟩, q⟩
def fIsq : FC := fun ds M Q => match ds with
  | [.int a] => 0 ≤ a ∧ a < 2 ^ 13000 ∧ Q (.int (Float64.isqrt a.toNat : Nat)) M
  | _ => False
theorem sim_isq {K : PySem.W.Frag} : SimC K (fun xs H Q => ∃ a : Int, xs = [.int a] ∧ 0 ≤ a ∧ a < 2 ^ 13000 ∧ Q (.int (Float64.isqrt a.toNat : Nat)) H) fIsq := by
  intro Z xs ds H M Q Q' S r f q
  unfold fIsq at f
  split at f
  · cases r with
    | cons r1 r2 =>
      cases r2
      cases r1
      exact ⟨_, rfl, f.1, f.2.1, q _ _ H M (Go.refl S) (.int _) f.2.2⟩
  · exact f.elim
section
variable {X : Cx} {e : Expr} {es : List Expr} {pos p : Pos} {tr : TA} {wr : WA}
/-- a function of another module of Python, taken by name -/
theorem de_callMB {x : Str} {id : String} {r : List V → Hp → VK → Prop} {g : FC} (hc : CallR X (.builtin id) r) (hs : SimC X.K r g) (hm : X.mg x = some (.builtin id)) (ha : DA X (e :: es) tr wr) (hg : Gl X x := by rfl) (hdb : (x == ("__debug__" : Str)) = false := by decide)
    (he : starEach (e :: es) X.env = (false, eval e X.env) :: starEach es X.env := by rfl) (hpl : (backTo pos (starEach es X.env)).any (·.1) = false := by rfl) : DE X (.Call (.Name x p) (e :: es) [] pos) (tCB r tr) (wCB g wr) := ⟨pe_callBfun hc hg hm ha.pe hdb he hpl, sim_CB ha.sm hs⟩
end
end L3
namespace L3
open PySem L2
def fIsB : F2 := fun d e M Q => match d, e with
  | .bl a, .bl b => Q (.bl (decide (a = b))) M
  | _, _ => False
theorem sim_isB {K : PySem.W.Frag} : SimR K rIsB fIsB := by
  intro Z x y d e H M Q Q' S r1 r2 f q
  unfold fIsB at f
  split at f
  · cases r1
    cases r2
    exact ⟨_, _, rfl, rfl, q _ _ H M (Go.refl S) (.bl _) f⟩
  · exact f.elim
end L3
namespace L3
open PySem L2
/-! ### what the draws need -/
theorem ix_l {K : PySem.W.Frag} {a : Addr} {xs : List V} {k : Int} {y : V} {H : Hp} {Q : VK} (h : H a = some (.lst xs)) (e : atI xs k = some y) (q : Q y H) : rIx K (.ref a) (.int k) H Q :=
  .inl ⟨a, xs, k, y, rfl, rfl, .inl (.inl h), e, q⟩
theorem ne_nil {K : PySem.W.Frag} {a p : Addr} {cs : List Int} {H : Hp} {Q : VK} (h : H a = some (.lst (cs.map V.int))) (hp : H p = some (.lst [])) (q : Q (.bl (decide (cs ≠ []))) H) : rNeD K (.ref a) (.ref p) H Q := by
  have r1 : Rep K H (.ref a) (.lst (cs.map .int)) := .lst (.inl (.inl h)) (.ofInts cs)
  have r2 : Rep K H (.ref p) (.lst []) := .lst (.inl (.inl hp)) .nil
  have f1 : fit 2 (.lst (cs.map .int)) := by
    simp [fit]
  have f2 : fit 2 (.lst []) := by
    simp [fit]
  refine ⟨_, _, Rep.dp 2 _ _ f1 r1, Rep.dp 2 _ _ f2 r2, fit_shaped f1 (by omega), fit_shaped f2 (by omega), ?_⟩
  cases cs with
  | nil => exact q
  | cons c cs => exact q
theorem eq_int {K : PySem.W.Frag} {i j : Int} {H : Hp} {Q : VK} (q : Q (.bl (decide (i = j))) H) : rEqD K (.int i) (.int j) H Q := by
  have f1 : ∀ i : Int, fit 1 (.int i) := fun i => by simp [fit]
  refine ⟨_, _, Rep.dp 1 _ _ (f1 i) (.int i), Rep.dp 1 _ _ (f1 j) (.int j), fit_shaped (f1 i) (by omega), fit_shaped (f1 j) (by omega), ?_⟩
  have e : PyData.eqv (D.py (.int i)) (D.py (.int j)) = decide (i = j) := by
    simp only [D.py, PyData.eqv]
    rfl
  rw [e]
  exact q
theorem at_last {cs : List Int} {c : Int} : atI ((cs ++ [c]).map V.int) (-1) = some (.int c) := by
  have e : ixN ((cs ++ [c]).map V.int).length (-1) = some cs.length := by
    unfold ixN
    simp
    omega
  unfold atI
  rw [e]
  simp
theorem pop_last {a : Addr} {cs : List Int} {c : Int} {H : Hp} {Q : VK} (h : H a = some (.lst ((cs ++ [c]).map V.int))) (q : Q (.int c) (upd H a (.lst (cs.map V.int)))) : rPop (.ref a) [] H Q := by
  refine ⟨a, _, .int c, rfl, rfl, h, by simp, ?_⟩
  rw [List.map_append]
  simpa using q
/-- what stands of the draws -/
structure Dr (H0 : Hp) (a a0 : Addr) (cs : List Int) (s : Int) (H : Hp) : Prop where
  keep : ∀ b o, b ≠ a → b ≠ a0 → H0 b = some o → H b = some o
  ha : H a = some (.lst [.ref a0, .int s])
  h0 : H a0 = some (.lst (cs.map V.int))
  lo : 0 ≤ s
  hi : s < 4294967296
  len : cs.length ≤ 100
  pos : ∀ c ∈ cs, 0 ≤ c
theorem Dr.new {H0 : Hp} {a a0 p : Addr} {cs : List Int} {s : Int} {H : Hp} {o : HO} (h : Dr H0 a a0 cs s H) (hp : H p = none) : Dr H0 a a0 cs s (upd H p o) :=
  ⟨fun b u h1 h2 e => by rw [upd_ne (ne_of_none (h.keep b u h1 h2 e) hp)]; exact h.keep b u h1 h2 e, by rw [upd_ne (ne_of_none h.ha hp)]; exact h.ha, by rw [upd_ne (ne_of_none h.h0 hp)]; exact h.h0, h.lo, h.hi, h.len, h.pos⟩
theorem Dr.ne {H0 : Hp} {a a0 : Addr} {cs : List Int} {s : Int} {H : Hp} (h : Dr H0 a a0 cs s H) : a ≠ a0 := fun e => by
  have z := h.ha
  rw [e, h.h0] at z
  have z2 := HO.lst.inj (Option.some.inj z)
  cases cs with
  | nil => cases z2
  | cons c cs => cases z2
theorem Dr.put {H0 : Hp} {a a0 : Addr} {cs cs' : List Int} {s : Int} {H : Hp} (h : Dr H0 a a0 cs s H) (l : cs'.length ≤ 100) (p : ∀ c ∈ cs', 0 ≤ c) : Dr H0 a a0 cs' s (upd H a0 (.lst (cs'.map V.int))) :=
  ⟨fun b u h1 h2 e => by rw [upd_ne h2]; exact h.keep b u h1 h2 e, by rw [upd_ne h.ne]; exact h.ha, upd_same, h.lo, h.hi, l, p⟩
theorem Dr.stir {H0 : Hp} {a a0 : Addr} {cs : List Int} {s s' : Int} {H : Hp} (h : Dr H0 a a0 cs s H) (l : 0 ≤ s') (u : s' < 4294967296) : Dr H0 a a0 cs s' (upd H a (.lst [.ref a0, .int s'])) :=
  ⟨fun b u h1 h2 e => by rw [upd_ne h1]; exact h.keep b u h1 h2 e, upd_same, by rw [upd_ne h.ne.symm]; exact h.h0, l, u, h.len, h.pos⟩
theorem Dr.ok {H0 : Hp} {a a0 : Addr} {cs : List Int} {s : Int} {H : Hp} (h : Dr H0 a a0 cs s H) : DrawOk H a a0 := ⟨cs, s, h.ha, h.h0, h.lo, h.hi, h.len, h.pos⟩
/-- [xs[::-1], s]: new draws -/
def wDrw (we : WE) (i : Nat) : WE := fun ρ M Q => we ρ M fun d M1 => ∃ (cs : List Int) (s : Int), d = .lst (cs.map .int) ∧ ρ[i]? = some (some (.int s)) ∧ cs.length ≤ 100 ∧ (∀ c ∈ cs, 0 ≤ c) ∧ 0 ≤ s ∧ s < 4294967296 ∧ ∀ p q, M1 p = none → M1 q = none → p ≠ q → Q (.tok q) (setM (setM M1 p .aux) q (.drw p))
section
variable {X : Cx} {e : Expr} {te : TE} {we : WE} {k : Nat} {p1 p2 p3 p4 p5 pos : Pos} {x : Str}
theorem sim_drw {K : PySem.W.Frag} (i : Nat) (he : SimE K te we) : SimE K (tLst (tCons (tRevL K te) (tCons (tVar i) tNil))) (wDrw we i) := by
  intro Z ρ M σ H Q Q' r h q
  refine he Z ρ M σ H _ _ r h fun x d H1 M1 g1 r1 q1 => ?_
  obtain ⟨cs, s, rfl, hi, hl, hpos, s0, s1, q2⟩ := q1
  cases r1 with
  | lst hs rl =>
    obtain rfl := rl.ints
    refine ⟨_, _, rfl, fz_sub.seq hs, fun p hp => ?_⟩
    obtain ⟨v, e1, rv⟩ := r.env.2 i _ hi
    cases rv
    refine ⟨.int s, e1, (by show 2 ≤ sizeLine; decide), fun o ho => ?_⟩
    have npo : p ≠ o := fun z => by
      subst z
      rw [upd_same] at ho
      cases ho
    have ho1 : H1 o = none := by
      rw [upd_ne npo.symm] at ho
      exact ho
    have m1p := g1.sat.free hp
    have m1o := g1.sat.free ho1
    have z1p := g1.sat.freeZ hp
    have z1o := g1.sat.freeZ ho1
    -- the two new lists
    have up : ∀ b u, H1 b = some u → upd (upd H1 p (.lst ((cs.map V.int).reverse))) o (.lst [.ref p, .int s]) b = some u := fun b u e => by
      rw [upd_ne (ne_of_none e ho1), upd_ne (ne_of_none e hp)]
      exact e
    have mo : ∀ b c, b ≠ p → b ≠ o → M1 b = c → setM (setM M1 p .aux) o (.drw p) b = c := fun b c h1 h2 e => by
      rw [setM_ne h2, setM_ne h1]
      exact e
    have mp : setM (setM M1 p .aux) o (.drw p) p = some .aux := by
      rw [setM_ne npo, setM_same]
    have ex : Same (fz Z H1 M1) (fz Z (upd (upd H1 p (.lst ((cs.map V.int).reverse))) o (.lst [.ref p, .int s])) (setM (setM M1 p .aux) o (.drw p))) := fun b u e => by
      obtain ⟨e1, e2, e3⟩ := fz_is e
      exact fz_to (mo b _ (ne_of_none e3 hp) (ne_of_none e3 ho1) e1) e2 (up b u e3)
    have aux : ∀ b, M1 b = some .aux → setM (setM M1 p .aux) o (.drw p) b = some .aux ∧ ∀ u, H1 b = some u → upd (upd H1 p (.lst ((cs.map V.int).reverse))) o (.lst [.ref p, .int s]) b = some u := fun b e => by
      refine ⟨mo b _ (fun z => ?_) (fun z => ?_) e, up b⟩
      · rw [z, m1p] at e
        cases e
      · rw [z, m1o] at e
        cases e
    have er : (cs.map V.int).reverse = cs.reverse.map V.int := by rw [List.map_reverse]
    have sat : Sat K Z (upd (upd H1 p (.lst ((cs.map V.int).reverse))) o (.lst [.ref p, .int s])) (setM (setM M1 p .aux) o (.drw p)) := by
      refine ⟨fun b c hb => ?_, fun b u hb => ?_⟩
      · by_cases h1 : b = o
        · subst h1
          rw [setM_same] at hb
          cases hb
          exact ⟨mp, cs.reverse, s, upd_same, by rw [upd_ne npo, upd_same, er], s0, s1, by rw [List.length_reverse]; exact hl, fun c hc => hpos c (List.mem_reverse.mp hc)⟩
        · by_cases h2 : b = p
          · subst h2
            rw [mp] at hb
            cases hb
            exact ⟨_, by rw [upd_ne npo, upd_same]⟩
          · rw [setM_ne h1, setM_ne h2] at hb
            exact (g1.sat.cell b c hb).same ex (up b) aux
      · obtain ⟨e1, e2⟩ := g1.sat.zed b u hb
        exact ⟨up b u e1, mo b _ (ne_of_none e1 hp) (ne_of_none e1 ho1) e2⟩
    exact q _ _ _ _ ⟨sat, g1.ex.trans ex⟩ (.tok o) (q2 p o m1p m1o npo)
theorem de_drw (i : Nat) (he : DE X e te we) (hN : X.N[i]? = some x := by rfl) (hv : Vis X.env.scope x := by first | exact Or.inl rfl | exact Or.inr (Or.inl rfl) | exact Or.inr (Or.inr rfl)) (hd : (x == ("__debug__" : Str)) = false := by decide)
    (hcd : (x == ("__classdict__" : Str)) = false := by decide) (h1 : starEach [(.Subscript e (.Slice none none (some (.UnaryOp .USub (.Constant (.int 1) k p1) p2)) p3) p4), (.Name x p5)] X.env = (false, eval (.Subscript e (.Slice none none (some (.UnaryOp .USub (.Constant (.int 1) k p1) p2)) p3) p4) X.env) :: starEach [(.Name x p5)] X.env := by rfl)
    (h2 : starEach [(.Name x p5)] X.env = (false, eval (.Name x p5) X.env) :: starEach [] X.env := by rfl) :
    DE X (.List [(.Subscript e (.Slice none none (some (.UnaryOp .USub (.Constant (.int 1) k p1) p2)) p3) p4), (.Name x p5)] pos) (tLst (tCons (tRevL X.K te) (tCons (tVar i) tNil))) (wDrw we i) :=
  ⟨pe_lst (pa_cons (pe_revL he.pe) (pa_cons (pe_var hN hv hd hcd) pa_nil h2) h1), sim_drw i he.sm⟩
end
/-! ### equality: plain values first -/
def rEqV (K : PySem.W.Frag) : R2 := fun x y H Q => rEq x y H Q ∨ rEqD K x y H Q
def rNeV (K : PySem.W.Frag) : R2 := fun x y H Q => rNe x y H Q ∨ rNeD K x y H Q
theorem op_eqV {X : Cx} {k : Nat} (hr : Room k X.A) : OpR X (compareOp .Eq) (rEqV X.K) := op_eq.or (op_eqG hr)
theorem op_neV {X : Cx} {k : Nat} (hr : Room k X.A) : OpR X (compareOp .NotEq) (rNeV X.K) := op_ne.or (op_neG hr)
def eqS : D → D → Option Bool
  | .int i, .int j => some (decide (i = j))
  | .str i, .str j => some (decide (i = j))
  | .bl i, .bl j => some (decide (i = j))
  | _, _ => none
def eqV (neg : Bool) : F2 := fun d e M Q => match eqS d e with
  | some b => Q (.bl (if neg then !b else b)) M
  | none => eqD2 neg d e M Q
theorem eqS_rep {K : PySem.W.Frag} {H : Hp} {x y : V} {d e : D} {b : Bool} (r1 : Rep K H x d) (r2 : Rep K H y e) (h : eqS d e = some b) : scal x y = true ∧ decide (x = y) = b := by
  unfold eqS at h
  split at h
  · cases r1
    cases r2
    refine ⟨rfl, ?_⟩
    rw [← Option.some.inj h]
    exact decide_eq_decide.mpr ⟨fun z => by cases z; rfl, fun z => by rw [z]⟩
  · cases r1
    cases r2
    refine ⟨rfl, ?_⟩
    rw [← Option.some.inj h]
    exact decide_eq_decide.mpr ⟨fun z => by cases z; rfl, fun z => by rw [z]⟩
  · cases r1
    cases r2
    refine ⟨rfl, ?_⟩
    rw [← Option.some.inj h]
    exact decide_eq_decide.mpr ⟨fun z => by cases z; rfl, fun z => by rw [z]⟩
  · cases h
theorem sim_eqV {K : PySem.W.Frag} : SimR K (rEqV K) (eqV false) := by
  intro Z x y d e H M Q Q' S r1 r2 f q
  unfold eqV at f
  split at f
  · rename_i b h
    obtain ⟨h1, h2⟩ := eqS_rep r1 r2 h
    refine .inl ⟨h1, ?_⟩
    rw [h2]
    exact q _ _ H M (Go.refl S) (.bl _) f
  · exact .inr (sim_eq Z x y d e H M Q Q' S r1 r2 f q)
theorem sim_neV {K : PySem.W.Frag} : SimR K (rNeV K) (eqV true) := by
  intro Z x y d e H M Q Q' S r1 r2 f q
  unfold eqV at f
  split at f
  · rename_i b h
    obtain ⟨h1, h2⟩ := eqS_rep r1 r2 h
    refine .inl ⟨h1, ?_⟩
    rw [h2]
    exact q _ _ H M (Go.refl S) (.bl _) f
  · exact .inr (sim_ne Z x y d e H M Q Q' S r1 r2 f q)
end L3
namespace L3
open PySem L2
theorem max_stepK {prog : Program} {w : World} {A : Around} {R : Result → Shared → Prop} {I : Addr} {fp wr : List Addr} {n : Nat} {P : Nat → Value → Prop} {St : Nat → Heap → Prop} {kw : List (Str × Value)}
    (W : Walks prog w A.in1 I fp wr n P St) (bt : Nat → Nat → Bool) (C : CmpOf prog w A.in1 .Gt P bt) (S : Addr) (hS : S ∉ fp) :
    ∀ (k j : Nat) (s : Shared) (vb : Value) (c : Nat), n - (j + 1) = k → j + 1 ≤ n → St (j + 1) s.heap → P (argBest bt j) vb → s.heap.get? S = some { cls := .type "list", data := .seq #[vb, vb] c } →
      (∀ (v : Value) (h' : Heap) (tk : Nat), P (argBest bt (n - 1)) v → (∀ (b : Addr) (o : Obj), b ∉ wr → b ≠ S → s.heap.get? b = some o → h'.get? b = some o) → R (.ok (.ret v)) { heap := h', gens := s.gens, drawn := s.drawn, toks := tk, os := s.os }) →
      codeAny (model prog w) A (.builtin "max.loop" { pos := [.ref I, .none, .ref S], kw := kw }) R s := by
  have hSw : S ∉ wr := fun z => hS (W.sub S z)
  intro k
  induction k with
  | zero =>
    intro j s vb c hk hj hSt hP hget q
    obtain rfl : n = j + 1 := by omega
    refine codeAny_builtin PySem.F.entry_max_loop ?_
    refine wpAny_bind (wpAny_seqItems hget rfl ?_)
    refine wpAny_bind ?_
    refine wpAny_tryCatch (W.done s _ _ hSt fun h' tk keep => ?_)
    refine wpAny_bind (wpAny_updateSeq (keep S _ hSw hget) rfl ?_)
    refine wpAny_bind (wpAny_letGo ?_)
    refine wpAny_pure ?_
    exact q vb _ tk hP fun b o hb hbs e => by
      show (Heap.update h' S _).get? b = some o
      rw [Heap.get?_update_ne _ _ _ _ hbs]
      exact keep b o hb e
  | succ k ih =>
    intro j s vb c hk hj hSt hP hget q
    refine codeAny_builtin PySem.F.entry_max_loop ?_
    refine wpAny_bind (wpAny_seqItems hget rfl ?_)
    refine wpAny_bind ?_
    refine wpAny_tryCatch (W.item (j + 1) s _ _ (by omega) hSt fun v h' tk hv hSt' keep => ?_)
    refine wpAny_bind (wpAny_pure ?_)
    refine wpAny_bind ?_
    refine wpAny_tryCatch (wpAny_holding (wpAny_bind (C (j + 1) (argBest bt j) v vb _ _ _ hv hP ?_)))
    refine wpAny_bind (wpAny_holding (wpAny_truthy_bool ?_))
    refine wpAny_bind (wpAny_letGo ?_)
    refine wpAny_pure ?_
    have eb : argBest bt (j + 1) = if bt (j + 1) (argBest bt j) then j + 1 else argBest bt j := rfl
    cases hb : bt (j + 1) (argBest bt j) with
    | true =>
      rw [hb, if_pos rfl] at eb
      refine wpAny_bind (wpAny_updateSeq (keep S _ hSw hget) rfl ?_)
      refine wpAny_bind (wpAny_letGo ?_)
      refine wpAny_pure ⟨rfl, ?_⟩
      refine ih (j + 1) _ v _ (by omega) (by omega) (W.frame _ _ _ hSt' fun b hbf o e => ?_) (by rw [eb]; exact hv) (Heap.get?_update_self _ (keep S _ hSw hget) rfl) fun v2 h2 tk2 hp2 keep2 => ?_
      · rw [Heap.get?_update_ne _ _ _ _ (fun z : b = S => hS (by rw [← z]; exact hbf))]
        exact e
      · exact q v2 h2 tk2 hp2 fun b o hbw hbs e => keep2 b o hbw hbs (by
          show (Heap.update h' S _).get? b = some o
          rw [Heap.get?_update_ne _ _ _ _ hbs]
          exact keep b o hbw e)
    | false =>
      rw [hb, if_neg Bool.false_ne_true] at eb
      refine wpAny_bind (wpAny_letGo ?_)
      refine wpAny_pure ⟨rfl, ?_⟩
      exact ih (j + 1) _ vb _ (by omega) (by omega) hSt' (by rw [eb]; exact hP) (keep S _ hSw hget) fun v2 h2 tk2 hp2 keep2 => q v2 h2 tk2 hp2 fun b o hbw hbs e => keep2 b o hbw hbs (keep b o hbw e)
/-- the first turn: something is there -/
theorem max_firstK {prog : Program} {w : World} {A : Around} {R : Result → Shared → Prop} {I : Addr} {fp wr : List Addr} {n : Nat} {P : Nat → Value → Prop} {St : Nat → Heap → Prop} {kw : List (Str × Value)}
    (W : Walks prog w A.in1 I fp wr n P St) (bt : Nat → Nat → Bool) (C : CmpOf prog w A.in1 .Gt P bt) (S : Addr) (hS : S ∉ fp) (hn : 0 < n) {s : Shared} {c : Nat} (hSt : St 0 s.heap)
    (hget : s.heap.get? S = some { cls := .type "list", data := .seq #[] c })
    (q : ∀ (v : Value) (h' : Heap) (tk : Nat), P (argBest bt (n - 1)) v → (∀ (b : Addr) (o : Obj), b ∉ wr → b ≠ S → s.heap.get? b = some o → h'.get? b = some o) → R (.ok (.ret v)) { heap := h', gens := s.gens, drawn := s.drawn, toks := tk, os := s.os }) :
    codeAny (model prog w) A (.builtin "max.loop" { pos := [.ref I, .none, .ref S], kw := kw }) R s := by
  have hSw : S ∉ wr := fun z => hS (W.sub S z)
  refine codeAny_builtin PySem.F.entry_max_loop ?_
  refine wpAny_bind (wpAny_seqItems hget rfl ?_)
  refine wpAny_bind ?_
  refine wpAny_tryCatch (W.item 0 s _ _ hn hSt fun v h' tk hv hSt' keep => ?_)
  refine wpAny_bind (wpAny_pure ?_)
  refine wpAny_bind (wpAny_updateSeq (keep S _ hSw hget) rfl ?_)
  refine wpAny_pure ⟨rfl, ?_⟩
  refine max_stepK W bt C S hS _ 0 _ v _ rfl hn (W.frame _ _ _ hSt' fun b hbf o e => ?_) hv (Heap.get?_update_self _ (keep S _ hSw hget) rfl) fun v2 h2 tk2 hp2 keep2 => ?_
  · rw [Heap.get?_update_ne _ _ _ _ (fun z : b = S => hS (by rw [← z]; exact hbf))]
    exact e
  · exact q v2 h2 tk2 hp2 fun b o hbw hbs e => keep2 b o hbw hbs (by
      show (Heap.update h' S _).get? b = some o
      rw [Heap.get?_update_ne _ _ _ _ hbs]
      exact keep b o hbw e)
/-- nothing is there: the default -/
theorem max_noneK {prog : Program} {w : World} {A : Around} {R : Result → Shared → Prop} {I : Addr} {fp wr : List Addr} {P : Nat → Value → Prop} {St : Nat → Heap → Prop} {x : Str} {d : Value} {kw : List (Str × Value)}
    (W : Walks prog w A.in1 I fp wr 0 P St) (S : Addr) {s : Shared} {c : Nat} (hSt : St 0 s.heap) (hget : s.heap.get? S = some { cls := .type "list", data := .seq #[] c })
    (q : ∀ (h' : Heap) (tk : Nat), (∀ (b : Addr) (o : Obj), b ∉ wr → s.heap.get? b = some o → h'.get? b = some o) → R (.ok (.ret d)) { heap := h', gens := s.gens, drawn := s.drawn, toks := tk, os := s.os }) :
    codeAny (model prog w) A (.builtin "max.loop" { pos := [.ref I, .none, .ref S], kw := (x, d) :: kw }) R s := by
  refine codeAny_builtin PySem.F.entry_max_loop ?_
  refine wpAny_bind (wpAny_seqItems hget rfl ?_)
  refine wpAny_bind ?_
  refine wpAny_tryCatch (W.done s _ _ hSt fun h' tk keep => ?_)
  refine wpAny_bind (wpAny_rule ?_)
  exact wpAny_pure (q h' tk keep)
theorem best_le (bt : Nat → Nat → Bool) : ∀ m, argBest bt m ≤ m
  | 0 => Nat.le_refl 0
  | m + 1 => by
    have ih := best_le bt m
    have e : argBest bt (m + 1) = if bt (m + 1) (argBest bt m) then m + 1 else argBest bt m := rfl
    rw [e]
    split <;> omega
theorem best_gt (f : Nat → Int) : ∀ m i, i ≤ m → f i ≤ f (argBest (fun i j => decide (f i > f j)) m)
  | 0, i, h => by
    obtain rfl : i = 0 := by omega
    exact Int.le_refl _
  | m + 1, i, h => by
    have e : argBest (fun i j => decide (f i > f j)) (m + 1) = if decide (f (m + 1) > f (argBest (fun i j => decide (f i > f j)) m)) = true then m + 1 else argBest (fun i j => decide (f i > f j)) m := rfl
    rw [e]
    rcases Nat.lt_or_ge i (m + 1) with z | z
    · have ih := best_gt f m i (by omega)
      split
      · rename_i h2
        have := of_decide_eq_true h2
        omega
      · exact ih
    · obtain rfl : i = m + 1 := by omega
      split
      · exact Int.le_refl _
      · rename_i h2
        have h3 : ¬ (f (m + 1) > f (argBest (fun i j => decide (f i > f j)) m)) := fun z => h2 (decide_eq_true z)
        omega
theorem aok_max (a d : Value) : argsOk "max" { pos := [a], kw := [("default", d)] } := by
  unfold argsOk
  rfl
theorem bind_max (d : Value) : Builtin.Builtins.bindParams "max" ["key", "default"] 0 { kw := [("default", d)] } = pure [none, some d] := by
  rfl
/-- max(xs, default=d) of a list of ints -/
def rMaxDf (K : PySem.W.Frag) : List V → List V → Hp → VK → Prop := fun xs zs H Q => ∃ (a : Addr) (ns : List Int) (d : V), xs = [.ref a] ∧ zs = [d] ∧ SqL K H a (ns.map V.int) ∧ (ns = [] → Q d H) ∧ ∀ m, m ∈ ns → (∀ y ∈ ns, y ≤ m) → Q (.int m) H
theorem cr_maxDf {X : Cx} (hc : X.calm = true) : CallRK X (.builtin "max") ["default"] (rMaxDf X.K) := by
  intro pins s σ H xs zs us ws Q I r1 r2 h
  obtain ⟨a, ns, d, rfl, rfl, hS, q0, q1⟩ := h
  cases r1 with
  | cons ra r1 =>
  cases r1
  cases r2 with
  | cons rd r2 =>
  cases r2
  rename_i ua ud
  cases ra
  obtain ⟨its, rv, pl, hz⟩ := I.list hS
  have hd : X.A.handled = none := I.ok.hd hc
  have il := pl.isList
  refine PyProof.Rows.kmb_tree PySem.F.kind_max PySem.F.plain_max PySem.F.entry_max (aok_max _ _) ?_
  refine wpAny_bind ?_
  rw [show Builtin.Builtins.bindParams "max" ["key", "default"] 0 { kw := ({ pos := [Value.ref a], kw := [Str.ofString "default"].zip [ud] } : Args).kw } = pure [none, some ud] from rfl]
  refine wpAny_pure ?_
  refine wpAny_bind (wpAny_pure ?_)
  refine wpAny_bind (wpAny_pyIter_list il ?_)
  refine wpAny_bind (wpAny_newList ?_)
  refine wpAny_pure ⟨rfl, ?_⟩
  have fr : ∀ b o, s.heap.get? b = some o → b ≠ s.heap.objs.size := fun b o e z => by
    subst z
    simp [Heap.get?] at e
  obtain ⟨o, eo, co, no, dd⟩ := il
  have il : s.heap.IsList a its.toArray := ⟨o, eo, co, no, dd⟩
  have fr1 : ∀ (h : Heap) b o, h.get? b = some o → b ≠ h.objs.size := fun h b o e z => by
    subst z
    simp [Heap.get?] at e
  have sI : a ≠ s.heap.objs.size := fr a o eo
  have g1 : ∀ b u, s.heap.get? b = some u → (s.heap.push { cls := .type "list_iterator", data := .fields #[.ref a, .int 0 0] }).get? b = some u := fun b u e => Heap.get?_push_of_some _ e
  have eI1 : (s.heap.push { cls := .type "list_iterator", data := .fields #[.ref a, .int 0 0] }).get? s.heap.objs.size = some { cls := .type "list_iterator", data := .fields #[.ref a, .int 0 0] } := Heap.get?_push_size _ rfl
  obtain ⟨h1, eh1⟩ : ∃ h1, h1 = s.heap.push { cls := .type "list_iterator", data := .fields #[.ref a, .int 0 0] } := ⟨_, rfl⟩
  rw [← eh1] at g1 eI1
  have g2 : ∀ b u, s.heap.get? b = some u → (h1.push { cls := .type "list", data := .seq #[] }).get? b = some u := fun b u e => Heap.get?_push_of_some _ (g1 b u e)
  have eI : (h1.push { cls := .type "list", data := .seq #[] }).get? s.heap.objs.size = some { cls := .type "list_iterator", data := .fields #[.ref a, .int 0 0] } := Heap.get?_push_of_some _ eI1
  have eS : (h1.push { cls := .type "list", data := .seq #[] }).get? h1.objs.size = some { cls := .type "list", data := .seq #[] } := Heap.get?_push_size _ rfl
  have nSI : h1.objs.size ≠ s.heap.objs.size := fun z => fr1 h1 _ _ eI1 z.symm
  have nSa : h1.objs.size ≠ a := fun z => fr1 h1 _ _ (g1 a o eo) z.symm
  have nin : h1.objs.size ∉ [s.heap.objs.size, a] := fun z => by
    rcases List.mem_cons.mp z with z | z
    · exact nSI z
    · exact nSa (List.mem_singleton.mp z)
  have W := Walks.list (prog := X.prog) (w := X.w) (A := X.A.in1) hd s.heap.objs.size a sI its.toArray
  have st0 : (h1.push { cls := .type "list", data := .seq #[] }).IsListIter s.heap.objs.size a 0 ∧ (h1.push { cls := .type "list", data := .seq #[] }).IsList a its.toArray := ⟨⟨_, eI, rfl, rfl⟩, ⟨o, g2 a o eo, co, no, dd⟩⟩
  have hl := rv.length
  rw [List.length_map] at hl
  show codeAny (model X.prog X.w) X.A (.builtin "max.loop" { pos := [.ref s.heap.objs.size, .none, .ref (s.heap.push { cls := .type "list_iterator", data := .fields #[.ref a, .int 0 0] }).objs.size], kw := [("default", ud)] }) _
    { heap := (s.heap.push { cls := .type "list_iterator", data := .fields #[.ref a, .int 0 0] }).push { cls := .type "list", data := .seq #[] }, gens := s.gens, drawn := s.drawn, toks := s.toks, os := s.os }
  rw [← eh1]
  by_cases hn : its = []
  · subst hn
    have hns : ns = [] := List.length_eq_zero_iff.mp hl
    refine max_noneK W _ st0 eS fun h' tk keep => ⟨d, H, I.kept fun b u e => ?_, rd, q0 hns⟩
    exact keep b u (fun z => fr b u e (List.mem_singleton.mp z)) (g2 b u e)
  · have hpos : 0 < its.toArray.size := by
      rw [List.size_toArray]
      exact List.length_pos_iff.mpr hn
    have val : ∀ i v, its.toArray[i]? = some v → ∃ m t, ns[i]? = some m ∧ v = Value.int m t := fun i v e => by
      rw [List.getElem?_toArray] at e
      have li := (List.getElem?_eq_some_iff.mp e).1
      have li2 : i < ns.length := by omega
      have e1 : (ns.map V.int)[i]? = some (V.int ns[i]) := by rw [List.getElem?_map, List.getElem?_eq_getElem li2]; rfl
      obtain ⟨u, e2, ru⟩ := rv.get e1
      obtain ⟨t, et⟩ := ru
      rw [e] at e2
      exact ⟨ns[i], t, List.getElem?_eq_getElem li2, (Option.some.inj e2).trans et⟩
    have C := CmpOf.ints_gt (prog := X.prog) (w := X.w) (A := X.A.in1) (P := fun i v => its.toArray[i]? = some v) (fun i => ns.getD i 0) fun i v e => by
      obtain ⟨m, t, e1, e2⟩ := val i v e
      refine ⟨t, ?_⟩
      rw [e2, List.getD_eq_getElem?_getD, e1]
      rfl
    refine max_firstK W _ C _ nin hpos st0 eS fun v h' tk hp keep => ?_
    obtain ⟨m, t, e1, e2⟩ := val _ v hp
    subst e2
    refine ⟨.int m, H, I.kept fun b u e => ?_, ⟨t, rfl⟩, q1 m (List.mem_of_getElem? e1) fun y hy => ?_⟩
    · exact keep b u (fun z => fr b u e (List.mem_singleton.mp z)) (fun z => fr1 h1 b u (g1 b u e) z) (g2 b u e)
    · obtain ⟨i, hi, ei⟩ := List.getElem_of_mem hy
      have b1 := best_gt (fun i => ns.getD i 0) (its.toArray.size - 1) i (by rw [List.size_toArray, ← hl]; omega)
      have b2 : ns.getD i 0 = y := by
        rw [List.getD_eq_getElem?_getD, List.getElem?_eq_getElem hi, ei]
        rfl
      have b3 : ns.getD (argBest (fun i j => decide (ns.getD i 0 > ns.getD j 0)) (its.toArray.size - 1)) 0 = m := by
        rw [List.getD_eq_getElem?_getD, e1]
        rfl
      rw [← b2, ← b3]
      exact b1
end L3
namespace L3
open PySem L2
/-- max(xs, default=d) of a tuple of ints -/
def rMaxDfT (K : PySem.W.Frag) : List V → List V → Hp → VK → Prop := fun xs zs H Q => ∃ (a : Addr) (ns : List Int) (d : V), xs = [.ref a] ∧ zs = [d] ∧ SqT K H a (ns.map V.int) ∧ (ns = [] → Q d H) ∧ ∀ m, m ∈ ns → (∀ y ∈ ns, y ≤ m) → Q (.int m) H
theorem cr_maxDfT {X : Cx} (hc : X.calm = true) : CallRK X (.builtin "max") ["default"] (rMaxDfT X.K) := by
  intro pins s σ H xs zs us ws Q I r1 r2 h
  obtain ⟨a, ns, d, rfl, rfl, hS, q0, q1⟩ := h
  cases r1 with
  | cons ra r1 =>
  cases r1
  cases r2 with
  | cons rd r2 =>
  cases r2
  rename_i ua ud
  cases ra
  obtain ⟨its, rv, pl, hz⟩ := I.tuple hS
  have hd : X.A.handled = none := I.ok.hd hc
  have il : s.heap.IsTuple a its.toArray := pl
  refine PyProof.Rows.kmb_tree PySem.F.kind_max PySem.F.plain_max PySem.F.entry_max (aok_max _ _) ?_
  refine wpAny_bind ?_
  rw [show Builtin.Builtins.bindParams "max" ["key", "default"] 0 { kw := ({ pos := [Value.ref a], kw := [Str.ofString "default"].zip [ud] } : Args).kw } = pure [none, some ud] from rfl]
  refine wpAny_pure ?_
  refine wpAny_bind (wpAny_pure ?_)
  refine wpAny_bind (wpAny_pyIter_tuple il ?_)
  refine wpAny_bind (wpAny_newList ?_)
  refine wpAny_pure ⟨rfl, ?_⟩
  have fr : ∀ b o, s.heap.get? b = some o → b ≠ s.heap.objs.size := fun b o e z => by
    subst z
    simp [Heap.get?] at e
  obtain ⟨o, eo, co, no, dd⟩ := il
  have il : s.heap.IsTuple a its.toArray := ⟨o, eo, co, no, dd⟩
  have fr1 : ∀ (h : Heap) b o, h.get? b = some o → b ≠ h.objs.size := fun h b o e z => by
    subst z
    simp [Heap.get?] at e
  have sI : a ≠ s.heap.objs.size := fr a o eo
  have g1 : ∀ b u, s.heap.get? b = some u → (s.heap.push { cls := .type "tuple_iterator", data := .fields #[.ref a, .int 0 0] }).get? b = some u := fun b u e => Heap.get?_push_of_some _ e
  have eI1 : (s.heap.push { cls := .type "tuple_iterator", data := .fields #[.ref a, .int 0 0] }).get? s.heap.objs.size = some { cls := .type "tuple_iterator", data := .fields #[.ref a, .int 0 0] } := Heap.get?_push_size _ rfl
  obtain ⟨h1, eh1⟩ : ∃ h1, h1 = s.heap.push { cls := .type "tuple_iterator", data := .fields #[.ref a, .int 0 0] } := ⟨_, rfl⟩
  rw [← eh1] at g1 eI1
  have g2 : ∀ b u, s.heap.get? b = some u → (h1.push { cls := .type "list", data := .seq #[] }).get? b = some u := fun b u e => Heap.get?_push_of_some _ (g1 b u e)
  have eI : (h1.push { cls := .type "list", data := .seq #[] }).get? s.heap.objs.size = some { cls := .type "tuple_iterator", data := .fields #[.ref a, .int 0 0] } := Heap.get?_push_of_some _ eI1
  have eS : (h1.push { cls := .type "list", data := .seq #[] }).get? h1.objs.size = some { cls := .type "list", data := .seq #[] } := Heap.get?_push_size _ rfl
  have nSI : h1.objs.size ≠ s.heap.objs.size := fun z => fr1 h1 _ _ eI1 z.symm
  have nSa : h1.objs.size ≠ a := fun z => fr1 h1 _ _ (g1 a o eo) z.symm
  have nin : h1.objs.size ∉ [s.heap.objs.size, a] := fun z => by
    rcases List.mem_cons.mp z with z | z
    · exact nSI z
    · exact nSa (List.mem_singleton.mp z)
  have W := Walks.tuple (prog := X.prog) (w := X.w) (A := X.A.in1) hd s.heap.objs.size a sI its.toArray
  have st0 : (h1.push { cls := .type "list", data := .seq #[] }).IsTupleIter s.heap.objs.size a 0 ∧ (h1.push { cls := .type "list", data := .seq #[] }).IsTuple a its.toArray := ⟨⟨_, eI, rfl, rfl⟩, ⟨o, g2 a o eo, co, no, dd⟩⟩
  have hl := rv.length
  rw [List.length_map] at hl
  show codeAny (model X.prog X.w) X.A (.builtin "max.loop" { pos := [.ref s.heap.objs.size, .none, .ref (s.heap.push { cls := .type "tuple_iterator", data := .fields #[.ref a, .int 0 0] }).objs.size], kw := [("default", ud)] }) _
    { heap := (s.heap.push { cls := .type "tuple_iterator", data := .fields #[.ref a, .int 0 0] }).push { cls := .type "list", data := .seq #[] }, gens := s.gens, drawn := s.drawn, toks := s.toks, os := s.os }
  rw [← eh1]
  by_cases hn : its = []
  · subst hn
    have hns : ns = [] := List.length_eq_zero_iff.mp hl
    refine max_noneK W _ st0 eS fun h' tk keep => ⟨d, H, I.kept fun b u e => ?_, rd, q0 hns⟩
    exact keep b u (fun z => fr b u e (List.mem_singleton.mp z)) (g2 b u e)
  · have hpos : 0 < its.toArray.size := by
      rw [List.size_toArray]
      exact List.length_pos_iff.mpr hn
    have val : ∀ i v, its.toArray[i]? = some v → ∃ m t, ns[i]? = some m ∧ v = Value.int m t := fun i v e => by
      rw [List.getElem?_toArray] at e
      have li := (List.getElem?_eq_some_iff.mp e).1
      have li2 : i < ns.length := by omega
      have e1 : (ns.map V.int)[i]? = some (V.int ns[i]) := by rw [List.getElem?_map, List.getElem?_eq_getElem li2]; rfl
      obtain ⟨u, e2, ru⟩ := rv.get e1
      obtain ⟨t, et⟩ := ru
      rw [e] at e2
      exact ⟨ns[i], t, List.getElem?_eq_getElem li2, (Option.some.inj e2).trans et⟩
    have C := CmpOf.ints_gt (prog := X.prog) (w := X.w) (A := X.A.in1) (P := fun i v => its.toArray[i]? = some v) (fun i => ns.getD i 0) fun i v e => by
      obtain ⟨m, t, e1, e2⟩ := val i v e
      refine ⟨t, ?_⟩
      rw [e2, List.getD_eq_getElem?_getD, e1]
      rfl
    refine max_firstK W _ C _ nin hpos st0 eS fun v h' tk hp keep => ?_
    obtain ⟨m, t, e1, e2⟩ := val _ v hp
    subst e2
    refine ⟨.int m, H, I.kept fun b u e => ?_, ⟨t, rfl⟩, q1 m (List.mem_of_getElem? e1) fun y hy => ?_⟩
    · exact keep b u (fun z => fr b u e (List.mem_singleton.mp z)) (fun z => fr1 h1 b u (g1 b u e) z) (g2 b u e)
    · obtain ⟨i, hi, ei⟩ := List.getElem_of_mem hy
      have b1 := best_gt (fun i => ns.getD i 0) (its.toArray.size - 1) i (by rw [List.size_toArray, ← hl]; omega)
      have b2 : ns.getD i 0 = y := by
        rw [List.getD_eq_getElem?_getD, List.getElem?_eq_getElem hi, ei]
        rfl
      have b3 : ns.getD (argBest (fun i j => decide (ns.getD i 0 > ns.getD j 0)) (its.toArray.size - 1)) 0 = m := by
        rw [List.getD_eq_getElem?_getD, e1]
        rfl
      rw [← b2, ← b3]
      exact b1
/-- .. of either -/
def rMaxDfA (K : PySem.W.Frag) : List V → List V → Hp → VK → Prop := fun xs zs H Q => rMaxDf K xs zs H Q ∨ rMaxDfT K xs zs H Q
theorem cr_maxDfA {X : Cx} (hc : X.calm = true) : CallRK X (.builtin "max") ["default"] (rMaxDfA X.K) := fun pins s σ H xs zs us ws Q I r1 r2 h => h.elim (cr_maxDf hc pins s σ H xs zs us ws Q I r1 r2) (cr_maxDfT hc pins s σ H xs zs us ws Q I r1 r2)
def fMaxDf (ds es : List D) (M : Mp) (Q : KD) : Prop := match ds, es with
  | [d], [e] => ∃ ns : List Int, seqD M d = some (ns.map .int) ∧ (ns = [] → Q e M) ∧ ∀ m, m ∈ ns → (∀ y ∈ ns, y ≤ m) → Q (.int m) M
  | _, _ => False
def wKw (f : List D → List D → Mp → KD → Prop) (r rk : WA) : WE := fun ρ M Q => r ρ M fun ds M1 => rk ρ M1 fun es M2 => f ds es M2 Q
section
variable {X : Cx} {e : Expr} {es : List Expr} {kws : List Keyword} {pos p : Pos} {tr tk : TA} {wr wk : WA}
theorem sim_maxDf {K : PySem.W.Frag} (ha : SimA K tr wr) (hk : SimA K tk wk) : SimE K (tCKw (rMaxDfA K) tr tk) (wKw fMaxDf wr wk) := by
  intro Z ρ M σ H Q Q' s h q
  refine ha Z ρ M σ H _ _ s h fun xs ds H1 M1 g1 r1 q1 => ?_
  refine hk Z ρ M1 σ H1 _ _ (s.go g1) q1 fun ys es H2 M2 g2 r2 q2 => ?_
  unfold fMaxDf at q2
  split at q2
  · cases r1 with
    | cons ra r1 =>
    cases r1
    cases r2 with
    | cons rd r2 =>
    cases r2
    obtain ⟨ns, hs, q0, q3⟩ := q2
    obtain ⟨a, vs, rfl, hv, rl⟩ := seq_of g2.sat (ra.up g2.ex) hs
    obtain rfl := rl.ints
    have g := g1.trans g2
    rcases hv with hv | hv
    · exact .inl ⟨a, ns, _, rfl, rfl, hv, fun e => q _ _ H2 M2 g rd (q0 e), fun m h1 h2 => q _ _ H2 M2 g (.int m) (q3 m h1 h2)⟩
    · exact .inr ⟨a, ns, _, rfl, rfl, hv, fun e => q _ _ H2 M2 g rd (q0 e), fun m h1 h2 => q _ _ H2 M2 g (.int m) (q3 m h1 h2)⟩
  · exact q2.elim
theorem de_maxDf (hc : X.calm = true) (hm : X.mg "max" = none) (ha : DA X (e :: es) tr wr) (hk : DK X kws tk wk) (hg : Gl X "max" := by rfl)
    (h1 : backTo pos (starEach (e :: es) X.env) = (false, eval e X.env) :: backTo pos (starEach es X.env) := by rfl) (h2 : (backTo pos (starEach (e :: es) X.env)).any (·.1) = false := by rfl)
    (h3 : (backToKw pos (keywordEach kws X.env)).all (·.1.isSome) = true := by rfl) (h4 : (backToKw pos (keywordEach kws X.env)).any (·.1.isNone) = false := by rfl) (h5 : (backToKw pos (keywordEach kws X.env)).filterMap (·.1) = [("default" : Str)] := by rfl) :
    DE X (.Call (.Name "max" p) (e :: es) kws pos) (tCKw (rMaxDfA X.K) tr tk) (wKw fMaxDf wr wk) :=
  ⟨pe_callBK (cr_maxDfA hc) hg hm (show bootBuiltins "max" = some (.builtin "max") from rfl) ha.pe hk.pe (by decide) (by decide) h1 h2 h3 h4 h5, sim_maxDf ha.sm hk.sm⟩
end
end L3
namespace L3
open PySem L2
theorem pre_sum (ns : List Int) : ∀ m, m ≤ ns.length → preSum (fun i => ns.getD i 0) m = (ns.take m).sum
  | 0, _ => by
    rw [List.take_zero]
    rfl
  | m + 1, h => by
    have e : preSum (fun i => ns.getD i 0) (m + 1) = preSum (fun i => ns.getD i 0) m + ns.getD m 0 := rfl
    rw [e, pre_sum ns m (by omega), List.take_succ, List.sum_append, List.getD_eq_getElem?_getD, List.getElem?_eq_getElem (by omega)]
    simp
/-- sum of a tuple of ints, none of whose beginnings is too great -/
def rSumT (K : PySem.W.Frag) : List V → Hp → VK → Prop := fun xs H Q => ∃ (a : Addr) (ns : List Int), xs = [.ref a] ∧ SqT K H a (ns.map V.int) ∧ (∀ j, j < ns.length → InLong (ns.getD j 0) ∧ InLong ((ns.take (j + 1)).sum)) ∧ Q (.int ns.sum) H
theorem cr_sumT {X : Cx} (hc : X.calm = true) : CallR X (.builtin "sum") (rSumT X.K) := by
  intro pins s σ H xs us Q I r1 h
  obtain ⟨a, ns, rfl, hS, hb, q1⟩ := h
  cases r1 with
  | cons ra r1 =>
  cases r1
  rename_i ua
  cases ra
  obtain ⟨its, rv, pl, hz⟩ := I.tuple hS
  have hd : X.A.handled = none := I.ok.hd hc
  have il : s.heap.IsTuple a its.toArray := pl
  refine PySem.call_function_tree PySem.F.kind_sum PySem.F.plain_sum PySem.F.entry_sum (PySem.F.args_sum1 _) ?_
  refine wpAny_bind ?_
  rw [show Builtin.Builtins.bindParams "sum" ["start"] 0 { pos := [], kw := ({ pos := [Value.ref a] } : Args).kw } = pure [none] from rfl]
  refine wpAny_pure ?_
  refine wpAny_bind (wpAny_pyIter_tuple il ?_)
  refine wpAny_bind (wpAny_mkInt ?_)
  refine wpAny_bind (wpAny_pure ?_)
  refine wpAny_bind ?_
  simp only [List.forIn_cons, List.forIn_nil]
  have st1 : isSubtype (Value.type "int") (Value.type "str") = pure false := by rfl
  have st2 : isSubtype (Value.type "int") (Value.type "bytes") = pure false := by rfl
  have st3 : isSubtype (Value.type "int") (Value.type "bytearray") = pure false := by rfl
  refine wpAny_bind (wpAny_bind (wpAny_isInstance_val (T := "int") rfl st1 ?_))
  refine wpAny_pure ?_
  refine wpAny_bind (wpAny_bind (wpAny_isInstance_val (T := "int") rfl st2 ?_))
  refine wpAny_pure ?_
  refine wpAny_bind (wpAny_bind (wpAny_isInstance_val (T := "int") rfl st3 ?_))
  refine wpAny_pure ?_
  refine wpAny_pure ?_
  refine wpAny_bind (wpAny_newList ?_)
  refine wpAny_pure ⟨rfl, ?_⟩
  obtain ⟨o, eo, co, no, dd⟩ := il
  have fr1 : ∀ (h : Heap) b o, h.get? b = some o → b ≠ h.objs.size := fun h b o e z => by
    subst z
    simp [Heap.get?] at e
  have sI : a ≠ s.heap.objs.size := fr1 _ a o eo
  have g1 : ∀ b u, s.heap.get? b = some u → (s.heap.push { cls := .type "tuple_iterator", data := .fields #[.ref a, .int 0 0] }).get? b = some u := fun b u e => Heap.get?_push_of_some _ e
  have eI1 : (s.heap.push { cls := .type "tuple_iterator", data := .fields #[.ref a, .int 0 0] }).get? s.heap.objs.size = some { cls := .type "tuple_iterator", data := .fields #[.ref a, .int 0 0] } := Heap.get?_push_size _ rfl
  obtain ⟨h1, eh1⟩ : ∃ h1, h1 = s.heap.push { cls := .type "tuple_iterator", data := .fields #[.ref a, .int 0 0] } := ⟨_, rfl⟩
  rw [← eh1] at g1 eI1
  have g2 : ∀ b u, s.heap.get? b = some u → (h1.push { cls := .type "list", data := .seq #[.int 0 s.toks] }).get? b = some u := fun b u e => Heap.get?_push_of_some _ (g1 b u e)
  have eI : (h1.push { cls := .type "list", data := .seq #[.int 0 s.toks] }).get? s.heap.objs.size = some { cls := .type "tuple_iterator", data := .fields #[.ref a, .int 0 0] } := Heap.get?_push_of_some _ eI1
  have eS : (h1.push { cls := .type "list", data := .seq #[.int 0 s.toks] }).get? h1.objs.size = some { cls := .type "list", data := .seq #[.int 0 s.toks] } := Heap.get?_push_size _ rfl
  have nSI : h1.objs.size ≠ s.heap.objs.size := fun z => fr1 h1 _ _ eI1 z.symm
  have nSa : h1.objs.size ≠ a := fun z => fr1 h1 _ _ (g1 a o eo) z.symm
  have nin : h1.objs.size ∉ [s.heap.objs.size, a] := fun z => by
    rcases List.mem_cons.mp z with z | z
    · exact nSI z
    · exact nSa (List.mem_singleton.mp z)
  have W := Walks.tuple (prog := X.prog) (w := X.w) (A := X.A.in1) hd s.heap.objs.size a sI its.toArray
  have st0 : (h1.push { cls := .type "list", data := .seq #[.int 0 s.toks] }).IsTupleIter s.heap.objs.size a 0 ∧ (h1.push { cls := .type "list", data := .seq #[.int 0 s.toks] }).IsTuple a its.toArray := ⟨⟨_, eI, rfl, rfl⟩, ⟨o, g2 a o eo, co, no, dd⟩⟩
  have hl := rv.length
  rw [List.length_map] at hl
  have sz : its.toArray.size = ns.length := by rw [List.size_toArray, hl]
  show codeAny (model X.prog X.w) X.A (.builtin "sum.loop" { pos := [.ref s.heap.objs.size, .ref (s.heap.push { cls := .type "tuple_iterator", data := .fields #[.ref a, .int 0 0] }).objs.size, rawInt 0, rawInt 0] }) _
    { heap := (s.heap.push { cls := .type "tuple_iterator", data := .fields #[.ref a, .int 0 0] }).push { cls := .type "list", data := .seq #[.int 0 s.toks] }, gens := s.gens, drawn := s.drawn, toks := s.toks + 1, os := s.os }
  rw [← eh1]
  have val : ∀ i v, its.toArray[i]? = some v → ∃ t, v = Value.int (ns.getD i 0) t := fun i v e => by
    rw [List.getElem?_toArray] at e
    have li := (List.getElem?_eq_some_iff.mp e).1
    have li2 : i < ns.length := by omega
    have e1 : (ns.map V.int)[i]? = some (V.int ns[i]) := by rw [List.getElem?_map, List.getElem?_eq_getElem li2]; rfl
    obtain ⟨u, e2, ru⟩ := rv.get e1
    obtain ⟨t, et⟩ := ru
    rw [e] at e2
    refine ⟨t, (Option.some.inj e2).trans ?_⟩
    rw [et, List.getD_eq_getElem?_getD, List.getElem?_eq_getElem li2]
    rfl
  refine codeAny_sum_loop W (fun i => ns.getD i 0) val (fun j hj => ?_) _ nin _ 0 _ s.toks _ rfl (Nat.zero_le _) st0 eS fun h' tk t' keep => ?_
  · have hj2 : j < ns.length := by omega
    rw [pre_sum ns (j + 1) hj2]
    exact hb j hj2
  · rw [sz, pre_sum ns _ (Nat.le_refl _), List.take_length]
    exact ⟨.int ns.sum, H, I.kept fun b u e => keep b u (fun z => fr1 s.heap b u e (List.mem_singleton.mp z)) (fun z => fr1 h1 b u (g1 b u e) z) (g2 b u e), ⟨t', rfl⟩, q1⟩
/-- sum of a list, or of a tuple -/
def rSumA (K : PySem.W.Frag) : List V → Hp → VK → Prop := fun xs H Q => rSum K xs H Q ∨ rSumT K xs H Q
theorem cr_sumA {X : Cx} (hc : X.calm = true) : CallR X (.builtin "sum") (rSumA X.K) := (cr_sum hc).or (cr_sumT hc)
def fSumA : FC := fun ds M Q => match ds with
  | [d] => ∃ ns : List Int, seqD M d = some (ns.map .int) ∧ (∀ j, j < ns.length → InLong (ns.getD j 0) ∧ InLong ((ns.take (j + 1)).sum)) ∧ Q (.int ns.sum) M
  | _ => False
theorem sim_sumA {K : PySem.W.Frag} : SimC K (rSumA K) fSumA := by
  intro Z xs ds H M Q Q' S r f q
  unfold fSumA at f
  split at f
  · cases r with
    | cons r1 r2 =>
      cases r2
      obtain ⟨ns, hs, hb, z⟩ := f
      obtain ⟨p, vs, rfl, hv, rl⟩ := seq_of S r1 hs
      obtain rfl := rl.ints
      rcases hv with hv | hv
      · exact .inl ⟨p, ns, rfl, hv, q _ _ H M (Go.refl S) (.int _) z⟩
      · exact .inr ⟨p, ns, rfl, hv, hb, q _ _ H M (Go.refl S) (.int _) z⟩
  · exact f.elim
end L3
namespace L3
open PySem L2
section
variable {X : Cx} {E : XK} {e e2 o a b : Expr} {es : List Expr} {pos p p2 tpos apos cpos : Pos} {elts : List Expr} {kk : Nat} {te to ta tb : TE} {we wo wa wb : WE} {tr : TA} {wr : WA}
/-! ### zip of two tuples, or of two lists -/
def zipD (xs ys : List D) : List D := List.zipWith (fun x y => D.tup [x, y]) xs ys
def wiZip (w : WA) : WI := fun ρ M R => w ρ M fun ds M1 => match ds with
  | [.tup xs, .tup ys] => R (zipD xs ys) AnyM M1
  | [.lst xs, .lst ys] => R (zipD xs ys) AnyM M1
  | _ => False
theorem zip_get {xs ys : List D} {i : Nat} {d : D} (h : (zipD xs ys)[i]? = some d) : ∃ x y, xs[i]? = some x ∧ ys[i]? = some y ∧ d = .tup [x, y] := by
  unfold zipD at h
  rw [List.getElem?_zipWith] at h
  cases q1 : xs[i]? with
  | none =>
    rw [q1] at h
    cases h
  | some x =>
    cases q2 : ys[i]? with
    | none =>
      rw [q1, q2] at h
      cases h
    | some y =>
      rw [q1, q2] at h
      exact ⟨x, y, rfl, rfl, (Option.some.inj h).symm⟩
theorem walks_zt {K : PySem.W.Frag} {Z H : Hp} {M : Mp} {p q : Addr} {vs ws : List V} {ds es : List D} (h1 : SqT K (fz Z H M) p vs) (r1 : RepL K (fz Z H M) vs ds) (h2 : SqT K (fz Z H M) q ws) (r2 : RepL K (fz Z H M) ws es) : Walks3 K Z H M (RZ.ItzT K p q) (zipD ds es) AnyM := by
  intro Z2 H2 M2 S ex _
  have k1 : SqT K H2 p vs := sqt_mono (ex.trans fz_sub) h1
  have k2 : SqT K H2 q ws := sqt_mono (ex.trans fz_sub) h2
  refine ⟨fun i d e => ?_, fun i hi => ⟨vs, ws, k1, k2, ?_⟩⟩
  · obtain ⟨x, y, e1, e2, rfl⟩ := zip_get e
    obtain ⟨v, a1, b1⟩ := r1.get e1
    obtain ⟨u, a2, b2⟩ := r2.get e2
    refine ⟨⟨vs, ws, v, u, k1, k2, a1, a2⟩, fun z H3 ⟨T, x', y', ez, hT, eH, y1, y2⟩ => ?_⟩
    obtain rfl : v = x' := Option.some.inj (a1.symm.trans (y1 vs k1))
    obtain rfl : u = y' := Option.some.inj (a2.symm.trans (y2 ws k2))
    subst ez
    subst eH
    obtain ⟨g, n⟩ := Go.laid (o := .tup [v, u]) S hT
    exact ⟨g, .tup (.inl (.inl n)) (.cons ((b1.up ex).up g.ex) (.cons ((b2.up ex).up g.ex) .nil))⟩
  · rw [r1.len, r2.len]
    unfold zipD at hi
    rw [List.length_zipWith] at hi
    omega
theorem walks_zl {K : PySem.W.Frag} {Z H : Hp} {M : Mp} {p q : Addr} {vs ws : List V} {ds es : List D} (h1 : SqL K (fz Z H M) p vs) (r1 : RepL K (fz Z H M) vs ds) (h2 : SqL K (fz Z H M) q ws) (r2 : RepL K (fz Z H M) ws es) : Walks3 K Z H M (Itz K p q) (zipD ds es) AnyM := by
  intro Z2 H2 M2 S ex _
  have k1 : SqL K H2 p vs := (ex.trans fz_sub).seq h1
  have k2 : SqL K H2 q ws := (ex.trans fz_sub).seq h2
  refine ⟨fun i d e => ?_, fun i hi => ⟨vs, ws, k1, k2, ?_⟩⟩
  · obtain ⟨x, y, e1, e2, rfl⟩ := zip_get e
    obtain ⟨v, a1, b1⟩ := r1.get e1
    obtain ⟨u, a2, b2⟩ := r2.get e2
    refine ⟨⟨vs, ws, v, u, k1, k2, a1, a2⟩, fun z H3 ⟨T, x', y', ez, hT, eH, y1, y2⟩ => ?_⟩
    obtain rfl : v = x' := Option.some.inj (a1.symm.trans (y1 vs k1))
    obtain rfl : u = y' := Option.some.inj (a2.symm.trans (y2 ws k2))
    subst ez
    subst eH
    obtain ⟨g, n⟩ := Go.laid (o := .tup [v, u]) S hT
    exact ⟨g, .tup (.inl (.inl n)) (.cons ((b1.up ex).up g.ex) (.cons ((b2.up ex).up g.ex) .nil))⟩
  · rw [r1.len, r2.len]
    unfold zipD at hi
    rw [List.length_zipWith] at hi
    omega
theorem di_zip (hm : X.mg "zip" = none) (ha : DA X [e, e2] tr wr) (hg : Gl X "zip" := by rfl) (hs : starEach [e, e2] X.env = (false, eval e X.env) :: starEach [e2] X.env := by rfl) (hs2 : (backTo pos (starEach [e2] X.env)).any (·.1) = false := by rfl) :
    DI X (.Tuple elts kk tpos) (.Call (.Name "zip" p) [e, e2] [] pos) (RZ.iZipA X.K tr) (wiZip wr) := by
  refine ⟨RZ.pi_zipA hg hm ha.pe hs hs2, fun Z ρ M σ H R R' s hw q => ?_⟩
  refine ha.sm Z ρ M σ H _ _ s hw fun xs ds H1 M1 g1 r1 q1 => ?_
  split at q1
  · cases r1 with
    | cons r1 r2 =>
      cases r2 with
      | cons r2 r3 =>
        cases r3
        cases r1 with
        | tup h1 l1 =>
          cases r2 with
          | tup h2 l2 => exact ⟨_, _, _, _, rfl, .inr ⟨sqt_mono fz_sub h1, sqt_mono fz_sub h2, q _ _ _ H1 M1 g1 (walks_zt h1 l1 h2 l2) q1⟩⟩
  · cases r1 with
    | cons r1 r2 =>
      cases r2 with
      | cons r2 r3 =>
        cases r3
        cases r1 with
        | lst h1 l1 =>
          cases r2 with
          | lst h2 l2 => exact ⟨_, _, _, _, rfl, .inl ⟨fz_sub.seq h1, fz_sub.seq h2, q _ _ _ H1 M1 g1 (walks_zl h1 l1 h2 l2) q1⟩⟩
  · exact q1.elim
/-! ### methods of a list of the store -/
def wApp (wo : WE) (r : WA) : WE := fun ρ M Q => wo ρ M fun d M1 => match d with
  | .tok a => (∃ es, M1 a = some (.lst es)) ∧ r ρ M1 fun ds M2 => match ds with
    | [x] => ∃ es, M2 a = some (.lst es) ∧ es.length < sizeLine ∧ Q .non (setM M2 a (.lst (es ++ [x])))
    | _ => False
  | _ => False
theorem de_append (ho : DE X o to wo) (ha : DA X (e :: es) tr wr) (hs : attributeBase o "append" X.env (eval o X.env) = eval o X.env := by rfl)
    (h2 : (((backTo cpos (starEach (e :: es) X.env)).all fun x => !x.1) && ((backToKw cpos (keywordEach [] X.env)).all fun x => x.1.isSome) && decide (((e :: es).length + ([] : List Keyword).length + if ([] : List Keyword).isEmpty = true then 0 else 1) < 30)) = true := by rfl)
    (h3 : (apos.endLine == cpos.line) = true := by rfl) (h4 : starEach (e :: es) X.env = (false, eval e X.env) :: starEach es X.env := by rfl) (h5 : (backTo cpos (starEach es X.env)).any (·.1) = false := by rfl) :
    DE X (.Call (.Attribute o "append" apos) (e :: es) [] cpos) (tBM X.K "list" rAppend to tr) (wApp wo wr) := by
  refine ⟨pe_bm PySem.F.plainAttrs_list PySem.F.slot_list_append PySem.F.type_list_append mt_append ho.pe ha.pe hs h2 h3 h4 h5, fun Z ρ M σ H Q Q' s h q => ?_⟩
  refine ho.sm Z ρ M σ H _ _ s h fun x d H1 M1 g1 r1 q1 => ?_
  cases d with
  | tok a =>
    cases r1
    obtain ⟨⟨es0, hm⟩, q1⟩ := q1
    obtain ⟨vs0, e0, _⟩ := g1.sat.cell a _ hm
    refine ⟨.inl ⟨rfl, _, .inl (.inl e0)⟩, ?_⟩
    refine ha.sm Z ρ M1 σ H1 _ _ (s.go g1) q1 fun ys ds H2 M2 g2 r2 q2 => ?_
    cases r2 with
    | nil => exact q2.elim
    | cons ra rb =>
      cases rb with
      | nil =>
        obtain ⟨es, hm2, hl, q3⟩ := q2
        obtain ⟨vs, e1, rl⟩ := g2.sat.cell a _ hm2
        refine ⟨a, vs, _, rfl, rfl, e1, by rw [rl.len]; exact hl, ?_⟩
        have g3 := Go.putL (p := a) g2.sat (.inr ⟨es, hm2⟩) (rl.app (.cons ra .nil))
        exact q _ _ _ _ ((g1.trans g2).trans g3) .non q3
      | cons _ _ => exact q2.elim
  | _ => exact q1.elim
/-- list(range(n)), a list that is to change -/
def wRg1 (w : WE) : En → Mp → (Int → Int → Mp → Prop) → Prop := fun ρ M Q => w ρ M fun d M1 => match d with
  | .int n => Q 0 n M1
  | _ => False
def wListRg (w : WE) : WE := fun ρ M Q => w ρ M fun d M1 => match d with
  | .int n => RgOk 0 n ∧ ∀ p, M1 p = none → Q (.tok p) (setM M1 p (.lst (intsD 0 n.toNat)))
  | _ => False
theorem de_listRg (hc : X.calm = true) (hm : X.mg "list" = none) (hm2 : X.mg "range" = none) (ha : DE X a ta wa) (hg : Gl X "list" := by rfl) (hg2 : Gl X "range" := by rfl)
    (hs : starEach [(.Call (.Name "range" p2) [a] [] tpos)] X.env = (false, eval (.Call (.Name "range" p2) [a] [] tpos) X.env) :: starEach [] X.env := by rfl) (hs2 : starEach [a] X.env = [(false, eval a X.env)] := by rfl) :
    DE X (.Call (.Name "list" p) [(.Call (.Name "range" p2) [a] [] tpos)] [] pos) (tLstRg (tRg1 ta)) (wListRg wa) := by
  refine ⟨pe_listRg hc hg hm (prg_1 hg2 hm2 ha.pe hs2) hs, fun Z ρ M σ H Q Q' s h q => ?_⟩
  refine ha.sm Z ρ M σ H _ _ s h fun x d H1 M1 g1 r1 q1 => ?_
  cases d with
  | int n =>
    cases r1
    obtain ⟨ok, q2⟩ := q1
    refine ⟨n, rfl, ok, fun l hl => ?_⟩
    have er : RepL X.K (fz Z H1 M1) (rgV 0 n) (intsD 0 n.toNat) := by
      have e1 : rgV 0 n = ((List.range n.toNat).map fun (i : Nat) => (0 : Int) + (i : Int)).map V.int := by
        unfold rgV
        rw [List.map_map, Int.sub_zero]
        rfl
      have e2 : intsD 0 n.toNat = ((List.range n.toNat).map fun (i : Nat) => (0 : Int) + (i : Int)).map D.int := by
        unfold intsD
        rw [List.map_map]
        rfl
      rw [e1, e2]
      exact .ofInts _
    exact q _ _ _ _ (g1.trans (Go.putL g1.sat (.inl hl) er)) (.tok l) (q2 l (g1.sat.free hl))
  | _ => exact q1.elim
/-- tuple * int -/
def tmulD : F2 := fun d e M Q => match d, e with
  | .tup ds, .int k => ds ≠ [] ∧ 2 ≤ k ∧ k ≤ 1000 ∧ ds.length ≤ 1000 ∧ Q (.tup (List.replicate k.toNat ds).flatten) M
  | _, _ => False
theorem rep_flat {K : PySem.W.Frag} {H : Hp} {vs : List V} {ds : List D} (r : RepL K H vs ds) : ∀ k : Nat, RepL K H (List.replicate k vs).flatten (List.replicate k ds).flatten
  | 0 => .nil
  | k + 1 => by
    rw [List.replicate_succ, List.replicate_succ, List.flatten_cons, List.flatten_cons]
    exact r.app (rep_flat r k)
theorem sim_tmul {K : PySem.W.Frag} : SimR K (rRepT K) tmulD := by
  intro Z x y d e H M Q Q' S r1 r2 f q
  unfold tmulD at f
  split at f
  · cases r1 with
    | tup h1 l1 =>
      cases r2
      obtain ⟨f0, f1, f2, f3, f4⟩ := f
      refine ⟨_, _, _, rfl, rfl, sqt_mono fz_sub h1, fun z => f0 ?_, f1, f2, by rw [l1.len]; exact f3, fun p hp => ?_⟩
      · subst z
        cases l1
        rfl
      · obtain ⟨g, n⟩ := Go.laid (o := .tup (List.replicate _ _).flatten) S hp
        exact q _ _ _ _ g (.tup (.inl (.inl n)) ((rep_flat l1 _).up g.ex)) f4
  · exact f.elim
theorem de_tmul (ha : DE X a ta wa) (hb : DE X b tb wb) : DE X (.BinOp a .Mult b pos) (tOp (rRepT X.K) ta tb) (wOp tmulD wa wb) := de_op op_repT sim_tmul ha hb
end
end L3
namespace L3
open PySem L2
/-! ### how readings are walked, a statement at a time -/
theorem seq_gen {u1 u2 : WS} {D : Ends3} {ρ : En} {M : Mp} (h : ∀ K : En → Mp → Prop, K = u2 D → u1 { D with nx := K } ρ M) : wSeq u1 u2 D ρ M := h _ rfl
theorem for_gen {wi : WI} {g : WG} {wb : WS} {D : Ends3} {ρ : En} {M : Mp} (h : ∀ B : WS, B = wb → wFor wi g B D ρ M) : wFor wi g wb D ρ M := h _ rfl
theorem loop_ix {g : WG} {wb : WS} {Ok : Mp → Prop} {D3 : Ends3} {ds : List D} (P : Nat → En → Mp → Prop)
    (hs : ∀ i d ρ M, ds[i]? = some d → P i ρ M → Ok M ∧ ∀ K : En → Mp → Prop, (∀ ρ' M', P (i + 1) ρ' M' → K ρ' M') → g d ρ M fun ρ1 M1 => wb { D3 with nx := K, ct := K, bk := D3.nx } ρ1 M1)
    (he : ∀ ρ M, P ds.length ρ M → Ok M ∧ D3.nx ρ M) : ∀ {ρ M}, P 0 ρ M → wLoop g wb Ok D3 ds ρ M := by
  have main : ∀ (es : List D) (i : Nat), i ≤ ds.length → ds.drop i = es → ∀ ρ M, P i ρ M → wLoop g wb Ok D3 es ρ M := by
    intro es
    induction es with
    | nil =>
      intro i hi e ρ M h
      have l : ds.length ≤ i := List.drop_eq_nil_iff.mp e
      obtain rfl : i = ds.length := Nat.le_antisymm hi l
      exact he ρ M h
    | cons d es ih =>
      intro i hi e ρ M h
      have l : i < ds.length := by
        rcases Nat.lt_or_ge i ds.length with z | z
        · exact z
        · rw [List.drop_eq_nil_of_le z] at e
          cases e
      have e2 := List.drop_eq_getElem_cons l
      rw [e] at e2
      obtain ⟨e3, e4⟩ := List.cons.inj e2
      obtain ⟨ok, k⟩ := hs i d ρ M (by rw [List.getElem?_eq_getElem l, e3]) h
      exact ⟨ok, k _ fun ρ' M' h' => ih (i + 1) l e4.symm ρ' M' h'⟩
  exact fun {ρ M} h => main ds 0 (Nat.zero_le _) rfl ρ M h
theorem intsD_len {lo : Int} {n : Nat} : (intsD lo n).length = n := by
  unfold intsD
  rw [List.length_map, List.length_range]
theorem intsD_get {lo : Int} {n i : Nat} {d : D} (h : (intsD lo n)[i]? = some d) : i < n ∧ d = .int (lo + (i : Int)) := by
  have hi : i < n := by
    have z := (List.getElem?_eq_some_iff.mp h).1
    rw [intsD_len] at z
    exact z
  refine ⟨hi, ?_⟩
  unfold intsD at h
  rw [List.getElem?_map, List.getElem?_range hi] at h
  exact (Option.some.inj h).symm
/-- a comprehension each of whose values is known -/
theorem lc_pure {g : WG} {we : WE} {Ok : Mp → Prop} {ρ : En} {M : Mp} {Q : KD} (f : D → D) (ok : Ok M) : ∀ (ds acc : List D), acc.length + ds.length ≤ 1000000 → (∀ d ∈ ds, ∀ K : KD, K (f d) M → g d ρ M fun ρ1 M1 => we ρ1 M1 K) →
    Q (.lst (acc ++ ds.map f)) M → wLcL g wYes we Ok ρ ds acc M Q
  | [], acc, _, _, q => ⟨ok, by rw [List.map_nil, List.append_nil] at q; exact q⟩
  | d :: ds, acc, hl, hs, q => by
    rw [List.length_cons] at hl
    refine ⟨ok, Nat.lt_of_lt_of_le (by omega : acc.length < 1000000) (by decide), ?_⟩
    have z := hs d List.mem_cons_self (fun y M3 => wLcL g wYes we Ok ρ ds (acc ++ [y]) M3 Q)
      (lc_pure f ok ds (acc ++ [f d]) (by rw [List.length_append, List.length_singleton]; omega) (fun d' h' => hs d' (List.mem_cons_of_mem _ h')) (by rw [List.append_assoc]; exact q))
    exact z
/-- .. each of whose values is one of those that P tells -/
theorem lc_any {g : WG} {we : WE} {Ok : Mp → Prop} {ρ : En} {M : Mp} {Q : KD} (P : D → D → Prop) (ok : Ok M) : ∀ (ds acc : List D), acc.length + ds.length ≤ 1000000 → (∀ d ∈ ds, ∀ K : KD, (∀ y, P d y → K y M) → g d ρ M fun ρ1 M1 => we ρ1 M1 K) →
    (∀ ys : List D, ys.length = ds.length → (∀ (i : Nat) (y : D), ys[i]? = some y → ∃ d, ds[i]? = some d ∧ P d y) → Q (.lst (acc ++ ys)) M) → wLcL g wYes we Ok ρ ds acc M Q
  | [], acc, _, _, q => ⟨ok, by have z := q [] rfl (fun i y h => by rw [List.getElem?_nil] at h; cases h); rw [List.append_nil] at z; exact z⟩
  | d :: ds, acc, hl, hs, q => by
    rw [List.length_cons] at hl
    refine ⟨ok, Nat.lt_of_lt_of_le (by omega : acc.length < 1000000) (by decide), ?_⟩
    have z := hs d List.mem_cons_self (fun y M3 => wLcL g wYes we Ok ρ ds (acc ++ [y]) M3 Q) fun y hy =>
      lc_any P ok ds (acc ++ [y]) (by rw [List.length_append, List.length_singleton]; omega) (fun d' h' => hs d' (List.mem_cons_of_mem _ h')) fun ys hy1 hy2 => by
        rw [List.append_assoc]
        refine q (y :: ys) (by rw [List.length_cons, List.length_cons, hy1]) fun i u hu => ?_
        cases i with
        | zero =>
          rw [List.getElem?_cons_zero] at hu
          exact ⟨d, rfl, (Option.some.inj hu) ▸ hy⟩
        | succ i =>
          rw [List.getElem?_cons_succ] at hu
          rw [List.getElem?_cons_succ]
          exact hy2 i u hu
    exact z
theorem eqV_int {M : Mp} {neg : Bool} {x y : Int} {Q : KD} : eqV neg (.int x) (.int y) M Q ↔ Q (.bl (if neg then !decide (x = y) else decide (x = y))) M := Iff.rfl
theorem eqV_str {M : Mp} {neg : Bool} {x y : Str} {Q : KD} : eqV neg (.str x) (.str y) M Q ↔ Q (.bl (if neg then !decide (x = y) else decide (x = y))) M := Iff.rfl
theorem eqV_bl {M : Mp} {neg : Bool} {x y : Bool} {Q : KD} : eqV neg (.bl x) (.bl y) M Q ↔ Q (.bl (if neg then !decide (x = y) else decide (x = y))) M := Iff.rfl
theorem cm_of {a b : Int} (h1 : -2 ^ 60 ≤ a) (h2 : a ≤ 2 ^ 60) : CM a b := .inl (.inl ⟨by omega, by omega⟩)
theorem cm_of' {a b : Int} (h1 : -2 ^ 60 ≤ b) (h2 : b ≤ 2 ^ 60) : CM a b := .inl (.inr ⟨by omega, by omega⟩)
theorem draw_i {M : Mp} {a a0 : Addr} {n : Int} {Q : KD} {R} (hm : M a = some (.drw a0)) (h0 : 0 < n) (h1 : n.natAbs.log2 < 9000) : drawF [.tok a, .int n] M Q R ↔ ∀ k, 0 ≤ k → k < n → Q (.int k) M := by
  constructor
  · rintro ⟨_, _, _, h, _, _, _, q⟩
    cases h
    exact q
  · exact fun q => ⟨a, a0, n, rfl, hm, h0, h1, q⟩
theorem log_of {n : Int} (h0 : 0 ≤ n) (h : n < 2 ^ 60) : n.natAbs.log2 < 9000 := by
  by_cases z : n.natAbs = 0
  · rw [z]
    decide
  · have e : n.natAbs.log2 < 60 := (Nat.log2_lt z).mpr (by omega)
    omega
theorem pick_i {M : Mp} {a a0 : Addr} {es : List D} {Q : KD} {R} (hm : M a = some (.drw a0)) (h0 : 0 < es.length) (h1 : es.length ≤ 1000000) : pickF [.tok a, .lst es] M Q R ↔ ∀ x ∈ es, Q x M := by
  constructor
  · rintro ⟨_, _, _, _, h, _, hs, _, _, q⟩
    cases h
    cases hs
    exact q
  · exact fun q => ⟨a, a0, _, es, rfl, hm, rfl, h0, h1, q⟩
theorem pick_q {M : Mp} {a a0 : Addr} {d : D} {es : List D} {Q : KD} {R} (hm : M a = some (.drw a0)) (hs : seqD M d = some es) (h0 : 0 < es.length) (h1 : es.length ≤ 1000000) (q : ∀ x ∈ es, Q x M) : pickF [.tok a, d] M Q R := ⟨a, a0, _, es, rfl, hm, hs, h0, h1, q⟩
/-- the largest of some numbers, 0 if there are none -/
def mxI : List Int → Int
  | [] => 0
  | n :: ns => if mxI ns ≤ n then n else mxI ns
theorem mxI_ge : ∀ {ns : List Int} {n : Int}, n ∈ ns → n ≤ mxI ns
  | m :: ns, n, h => by
    unfold mxI
    rcases List.mem_cons.mp h with rfl | h
    · split <;> omega
    · have := mxI_ge h
      split <;> omega
theorem mxI_pos : ∀ (ns : List Int), 0 ≤ mxI ns
  | [] => Int.le_refl 0
  | n :: ns => by
    have := mxI_pos ns
    unfold mxI
    split <;> omega
theorem mxI_mem : ∀ {ns : List Int}, (∀ n ∈ ns, 0 ≤ n) → ns ≠ [] → mxI ns ∈ ns
  | [], _, h => absurd rfl h
  | n :: ns, hp, _ => by
    unfold mxI
    split
    · exact List.mem_cons_self
    · rename_i h
      by_cases e : ns = []
      · subst e
        have := hp n List.mem_cons_self
        unfold mxI at h
        omega
      · exact List.mem_cons_of_mem _ (mxI_mem (fun m hm => hp m (List.mem_cons_of_mem _ hm)) e)
theorem mxI_is {ns : List Int} {m : Int} (hp : ∀ n ∈ ns, 0 ≤ n) (h1 : m ∈ ns) (h2 : ∀ y ∈ ns, y ≤ m) : mxI ns = m := by
  have a := mxI_ge h1
  have b := h2 _ (mxI_mem hp (fun e => by rw [e] at h1; cases h1))
  omega
theorem sum_bound {B : Int} (hB : 0 ≤ B) : ∀ {ns : List Int}, (∀ n ∈ ns, 0 ≤ n ∧ n ≤ B) → 0 ≤ ns.sum ∧ ns.sum ≤ B * (ns.length : Int)
  | [], _ => by simp
  | n :: ns, h => by
    have ih := sum_bound hB (ns := ns) fun m hm => h m (List.mem_cons_of_mem _ hm)
    have h0 := h n List.mem_cons_self
    rw [List.sum_cons, List.length_cons]
    have e : B * ((ns.length + 1 : Nat) : Int) = B * (ns.length : Int) + B := by
      rw [Int.natCast_add, Int.mul_add]
      simp
    omega
end L3
set_option maxHeartbeats 0
namespace K03
open PySem L2 L3
open PyProof.Rows (envOfC)
def top (i : Nat) : Stmt := PySem.Challenge.pw_nonearer_k03_whole_distances.main.body.getD i (.Pass ⟨0, 0, 0, 0⟩)
abbrev s_differences : Stmt := top 1
abbrev s_at_places : Stmt := top 2
abbrev s_part_of : Stmt := top 5
abbrev s_joined_parts : Stmt := top 6
abbrev s_distance : Stmt := top 7
abbrev s_distance_at : Stmt := top 8
abbrev s_is_within : Stmt := top 9
abbrev s__law_heap : Stmt := top 11
abbrev s__law_draw : Stmt := top 12
abbrev s__law_pick : Stmt := top 13
abbrev s__law_vectors : Stmt := top 14
abbrev s__law_part : Stmt := top 15
abbrev s__law_distance : Stmt := top 16
abbrev s__law_lots : Stmt := top 17
abbrev s__law_pair_right : Stmt := top 18
abbrev s_law : Stmt := top 19
def c_KINDS : D := (.tup [.str "square", .str "sum", .str "most", .str "unlike"])
structure Txt (K : PySem.W.Frag) (mg : Str → Option Value) (aKINDS : Addr) : Prop where
  z_abs : mg "abs" = none
  z_int : mg "int" = none
  z_len : mg "len" = none
  z_list : mg "list" = none
  z_max : mg "max" = none
  z_min : mg "min" = none
  z_range : mg "range" = none
  z_repr : mg "repr" = none
  z_sum : mg "sum" = none
  z_tuple : mg "tuple" = none
  z_zip : mg "zip" = none
  m_KINDS : mg "KINDS" = some (.ref aKINDS)
  r_KINDS : ∀ H : Hp, Rep K H (.ref aKINDS) c_KINDS
/-! ### contracts -/
def vec (v : List Int) : D := .tup (v.map .int)
def partI (k : Str) (d : Int) : Int := if k = "square" then d * d else if k = "unlike" then (if d = 0 then 0 else 1) else if d < 0 then -d else d
def joinI (k : Str) (ns : List Int) : Int := if k = "most" then mxI ns else ns.sum
def subI (v u : List Int) : List Int := List.zipWith (fun a b => a - b) v u
def distI (k : Str) (v u : List Int) : Int := joinI k ((subI v u).map (partI k))
/-- small numbers -/
def sm (v : List Int) : Prop := v.length ≤ 64 ∧ ∀ a ∈ v, -1000000 ≤ a ∧ a ≤ 1000000
def atI' (v : List Int) (ps : List Nat) : List Int := ps.map fun p => v.getD p 0
def nums (ps : List Nat) : List D := ps.map fun (p : Nat) => D.int (p : Int)
def F_differences : Fs := fun ds M Q _ => ∃ (v u : List Int), ds = [vec v, vec u] ∧ sm v ∧ sm u ∧ Q (vec (subI v u)) M
def F_at_places : Fs := fun ds M Q _ => ∃ (v : List Int) (ps : List Nat), ds = [vec v, .tup (nums ps)] ∧ sm v ∧ ps.length ≤ 64 ∧ (∀ p ∈ ps, p < v.length) ∧ Q (vec (atI' v ps)) M
def F_part_of : Fs := fun ds M Q _ => ∃ (k : Str) (d : Int), ds = [.str k, .int d] ∧ -10000000 ≤ d ∧ d ≤ 10000000 ∧ Q (.int (partI k d)) M
def small (ns : List Int) : Prop := ns.length ≤ 64 ∧ ∀ n ∈ ns, 0 ≤ n ∧ n ≤ 100000000000000
def F_joined_parts : Fs := fun ds M Q _ => ∃ (k : Str) (d : D) (ns : List Int), ds = [.str k, d] ∧ seqD M d = some (ns.map .int) ∧ small ns ∧ Q (.int (joinI k ns)) M
def F_distance : Fs := fun ds M Q _ => ∃ (k : Str) (v u : List Int), ds = [.str k, vec v, vec u] ∧ sm v ∧ sm u ∧ Q (.int (distI k v u)) M
def F_distance_at : Fs := fun ds M Q _ => ∃ (k : Str) (v u : List Int) (ps : List Nat), ds = [.str k, vec v, vec u, .tup (nums ps)] ∧ sm v ∧ sm u ∧ ps.length ≤ 64 ∧ (∀ p ∈ ps, p < v.length ∧ p < u.length) ∧ Q (.int (distI k (atI' v ps) (atI' u ps))) M
def F_is_within : Fs := fun ds M Q _ => ∃ (k : Str) (v u : List Int) (r : Int), ds = [.str k, vec v, vec u, .int r] ∧ sm v ∧ sm u ∧ Q (.bl (decide (distI k v u ≤ r))) M
def F__law_heap : Fs := fun ds M Q _ => ∃ ns : List Int, ds = [.lst (ns.map .int)] ∧ ns.length ≤ 63 ∧ ∀ (M' : Mp) (a a0 : Addr), M' a = some (.drw a0) → Q (.tok a) M'
abbrev F__law_draw : Fs := drawF
abbrev F__law_pick : Fs := pickF
def F__law_vectors : Fs := fun ds M Q _ => ∃ (a a0 : Addr) (p m : Nat), ds = [.tok a, .int (p : Int), .int (m : Int)] ∧ M a = some (.drw a0) ∧ p ≤ 8 ∧ m ≤ 12 ∧ ∀ vs : List (List Int), vs.length = m → (∀ v ∈ vs, v.length = p ∧ ∀ b ∈ v, -9900 ≤ b ∧ b ≤ 9900) → Q (.lst (vs.map vec)) M
def F__law_part : Fs := fun ds M Q _ => ∃ (k : Str) (a b : Int), ds = [.str k, .int a, .int b] ∧ -2000000 ≤ a ∧ a ≤ 2000000 ∧ -2000000 ≤ b ∧ b ≤ 2000000 ∧ Q (.int (partI k (a - b))) M
def F__law_distance : Fs := fun ds M Q _ => ∃ (k : Str) (d e : D) (v u : List Int), ds = [.str k, d, e] ∧ seqD M d = some (v.map .int) ∧ seqD M e = some (u.map .int) ∧ v.length = u.length ∧ sm v ∧ sm u ∧ Q (.int (distI k v u)) M
def F__law_lots : Fs := fun ds M Q _ => ∃ (a a0 : Addr) (p : Nat), ds = [.tok a, .int (p : Int)] ∧ M a = some (.drw a0) ∧ 1 ≤ p ∧ p ≤ 8 ∧ ∀ (M' : Mp) (order : List Nat) (lots : List (List Nat)), M' a = some (.drw a0) → order.Perm (List.range p) → lots.flatten.Perm (List.range p) → lots.length ≤ 3 → Q (.tup [.tup (nums order), .lst (lots.map fun l => .tup (nums l))]) M'
def F__law_pair_right : Fs := fun ds M Q _ => ∃ (a a0 : Addr) (k : Str) (v u : List Int) (p : Nat), ds = [.tok a, .str k, vec v, vec u] ∧ M a = some (.drw a0) ∧ v.length = p ∧ u.length = p ∧ 1 ≤ p ∧ p ≤ 8 ∧ (∀ b ∈ v, -9900 ≤ b ∧ b ≤ 9900) ∧ (∀ b ∈ u, -9900 ≤ b ∧ b ≤ 9900) ∧ ∀ M', M' a = some (.drw a0) → Q (.bl true) M'
def F_law : Fs := fun ds M Q _ => ∃ ns : List Int, ds = [.lst (ns.map .int)] ∧ ns.length ≤ 63 ∧ ∀ M', Q (.bl true) M'
section
variable {P : Program} {w : World} {K : PySem.W.Frag} {mg : Str → Option Value} {base : Heap} {aKINDS : Addr}
theorem sc_differences : FnScope ["one", "other", "first", "second"] ["one", "other"] (defScope s_differences) := ⟨rfl, rfl, rfl, by decide +kernel, rfl, by decide +kernel, by decide +kernel⟩
abbrev W_differences : WS := (wRet (wCB fTuple (wCons (wLc (wiZip (wCons (wVar 0) (wCons (wVar 1) wNil))) (wgTup 2 (wgCons (wgName 2) (wgCons (wgName 3) wgNil))) wYes (wOp (fI0 fun i j => .int (i - j)) (wVar 2) (wVar 3)) [2, 3]) wNil)))
theorem dv_differences {f : Addr} (T : Txt K mg aKINDS) (cdv : Value) (A : Around) (outer : List Env) (s : Shared) (H : Hp) (E : XK) (gd : A.guards = some []) (hr : Room 0 (A.deeper (envOfC "differences" (defScope s_differences) s.heap.objs.size f cdv))) :
    ∃ t, DSs (cxOf (L2.CX P w) P w K mg base ["one", "other", "first", "second"] "differences" (defScope s_differences) f cdv A outer s H E) E (defBody s_differences) t W_differences := ⟨_, (dss_one (ds_ret (de_callTy call_tuple_of sim_tuple T.z_tuple (show bootBuiltins "tuple" = some (.type "tuple") from rfl) (da_cons (de_lc (own := [("first", 2), ("second", 3)]) rfl sc_differences.nd (di_zip T.z_zip (da_cons (de_var 0) (da_cons (de_var 1) da_nil))) (show BlkOk ["one", "other", "first", "second"] (defScope s_differences) _ [("first", 2), ("second", 3)] from ⟨rfl, by decide +kernel, by decide +kernel, by decide +kernel, by decide +kernel⟩) (fun _ _ _ _ _ => (dg_tup rfl (dgs_cons (dg_name 2 sc_differences.nd) (dgs_cons (dg_name 3 sc_differences.nd) dgs_nil)))) (fun _ _ _ _ _ => dts_nil) (fun _ _ _ _ _ => (de_sub (de_var 2) (de_var 3))) (keep_tup (keep_cons keep_name (keep_cons keep_name keep_nil (fun _ _ _ _ _ h1 h2 => h1 _ _ h2)) (fun _ _ _ _ _ h1 h2 => h1 _ _ h2)))) da_nil))))⟩
theorem ok_differences {f : Addr} {fd : FuncData} (Fn : Fun K "differences" "differences" s_differences f fd) (T : Txt K mg aKINDS) (len : ∀ ds M Q E, F_differences ds M Q E → ds.length = 2)
    (body : ∀ ds M Q R, F_differences ds M Q R → W_differences { nx := fun _ M' => Q .non M', rt := Q, xr := R } (startE 4 ds) M) : FnG P w K mg base 1 f fd ["one", "other"] (lift K F_differences) :=
  ok_fn Fn sc_differences len fun cdv A outer s H E gd hr => (dv_differences T cdv A outer s H E gd hr).elim fun t ht => ⟨t, _, ht, body⟩

theorem sc_at_places : FnScope ["vector", "places", "place"] ["vector", "places"] (defScope s_at_places) := ⟨rfl, rfl, rfl, by decide +kernel, rfl, by decide +kernel, by decide +kernel⟩
abbrev W_at_places : WS := (wRet (wCB fTuple (wCons (wLc (wiSeq (wVar 1)) (wgName 2) wYes (wOp ixD (wVar 0) (wVar 2)) [2]) wNil)))
theorem dv_at_places {f : Addr} (T : Txt K mg aKINDS) (cdv : Value) (A : Around) (outer : List Env) (s : Shared) (H : Hp) (E : XK) (gd : A.guards = some []) (hr : Room 0 (A.deeper (envOfC "at_places" (defScope s_at_places) s.heap.objs.size f cdv))) :
    ∃ t, DSs (cxOf (L2.CX P w) P w K mg base ["vector", "places", "place"] "at_places" (defScope s_at_places) f cdv A outer s H E) E (defBody s_at_places) t W_at_places := ⟨_, (dss_one (ds_ret (de_callTy call_tuple_of sim_tuple T.z_tuple (show bootBuiltins "tuple" = some (.type "tuple") from rfl) (da_cons (de_lc (own := [("place", 2)]) rfl sc_at_places.nd (di_seq (de_var 1)) (show BlkOk ["vector", "places", "place"] (defScope s_at_places) _ [("place", 2)] from ⟨rfl, by decide +kernel, by decide +kernel, by decide +kernel, by decide +kernel⟩) (fun _ _ _ _ _ => (dg_name 2 sc_at_places.nd)) (fun _ _ _ _ _ => dts_nil) (fun _ _ _ _ _ => (de_ix (de_var 0) (de_var 2))) keep_name) da_nil))))⟩
theorem ok_at_places {f : Addr} {fd : FuncData} (Fn : Fun K "at_places" "at_places" s_at_places f fd) (T : Txt K mg aKINDS) (len : ∀ ds M Q E, F_at_places ds M Q E → ds.length = 2)
    (body : ∀ ds M Q R, F_at_places ds M Q R → W_at_places { nx := fun _ M' => Q .non M', rt := Q, xr := R } (startE 3 ds) M) : FnG P w K mg base 1 f fd ["vector", "places"] (lift K F_at_places) :=
  ok_fn Fn sc_at_places len fun cdv A outer s H E gd hr => (dv_at_places T cdv A outer s H E gd hr).elim fun t ht => ⟨t, _, ht, body⟩

theorem sc_part_of : FnScope ["kind", "difference"] ["kind", "difference"] (defScope s_part_of) := ⟨rfl, rfl, rfl, by decide +kernel, rfl, by decide +kernel, by decide +kernel⟩
abbrev W_part_of : WS := (wSeq (wIfS (wB (wOp (eqV false) (wVar 0) (wC (.str "square")))) (wRet (wOp (fI CM fun i j => .int (i * j)) (wVar 1) (wVar 1))) wNext) (wSeq (wIfS (wB (wOp (eqV false) (wVar 0) (wC (.str "unlike")))) (wRet (wIf (wB (wOp (eqV false) (wVar 1) (wC (.int 0)))) (wC (.int 0)) (wC (.int 1)))) wNext) (wRet (wCB fAbs (wCons (wVar 1) wNil)))))
theorem dv_part_of {f : Addr} (T : Txt K mg aKINDS) (cdv : Value) (A : Around) (outer : List Env) (s : Shared) (H : Hp) (E : XK) (gd : A.guards = some []) (hr : Room 0 (A.deeper (envOfC "part_of" (defScope s_part_of) s.heap.objs.size f cdv))) :
    ∃ t, DSs (cxOf (L2.CX P w) P w K mg base ["kind", "difference"] "part_of" (defScope s_part_of) f cdv A outer s H E) E (defBody s_part_of) t W_part_of := ⟨_, (dss_cons (ds_if (dt_cmp (op_eqV hr) sim_eqV (de_var 0) de_str) (dss_one (ds_ret (de_mul (de_var 1) (de_var 1)))) dss_nil) (dss_cons (ds_if (dt_cmp (op_eqV hr) sim_eqV (de_var 0) de_str) (dss_one (ds_ret (de_if (dt_cmp (op_eqV hr) sim_eqV (de_var 1) de_int) de_int de_int))) dss_nil) (dss_one (ds_ret (de_callB call_abs sim_abs T.z_abs (show bootBuiltins "abs" = some (.builtin "abs") from rfl) (da_cons (de_var 1) da_nil))))))⟩
theorem ok_part_of {f : Addr} {fd : FuncData} (Fn : Fun K "part_of" "part_of" s_part_of f fd) (T : Txt K mg aKINDS) (len : ∀ ds M Q E, F_part_of ds M Q E → ds.length = 2)
    (body : ∀ ds M Q R, F_part_of ds M Q R → W_part_of { nx := fun _ M' => Q .non M', rt := Q, xr := R } (startE 2 ds) M) : FnG P w K mg base 1 f fd ["kind", "difference"] (lift K F_part_of) :=
  ok_fn Fn sc_part_of len fun cdv A outer s H E gd hr => (dv_part_of T cdv A outer s H E gd hr).elim fun t ht => ⟨t, _, ht, body⟩

theorem sc_joined_parts : FnScope ["kind", "parts"] ["kind", "parts"] (defScope s_joined_parts) := ⟨rfl, rfl, rfl, by decide +kernel, rfl, by decide +kernel, by decide +kernel⟩
abbrev W_joined_parts : WS := (wSeq (wIfS (wB (wOp (eqV false) (wVar 0) (wC (.str "most")))) (wRet (wKw fMaxDf (wCons (wVar 1) wNil) (wCons (wC (.int 0)) wNil))) wNext) (wRet (wCB fSumA (wCons (wVar 1) wNil))))
theorem dv_joined_parts {f : Addr} (T : Txt K mg aKINDS) (cdv : Value) (A : Around) (outer : List Env) (s : Shared) (H : Hp) (E : XK) (gd : A.guards = some []) (hr : Room 0 (A.deeper (envOfC "joined_parts" (defScope s_joined_parts) s.heap.objs.size f cdv))) :
    ∃ t, DSs (cxOf (L2.CX P w) P w K mg base ["kind", "parts"] "joined_parts" (defScope s_joined_parts) f cdv A outer s H E) E (defBody s_joined_parts) t W_joined_parts := ⟨_, (dss_cons (ds_if (dt_cmp (op_eqV hr) sim_eqV (de_var 0) de_str) (dss_one (ds_ret (de_maxDf rfl T.z_max (da_cons (de_var 1) da_nil) (dk_cons de_int dk_nil)))) dss_nil) (dss_one (ds_ret (de_callB (cr_sumA rfl) sim_sumA T.z_sum (show bootBuiltins "sum" = some (.builtin "sum") from rfl) (da_cons (de_var 1) da_nil)))))⟩
theorem ok_joined_parts {f : Addr} {fd : FuncData} (Fn : Fun K "joined_parts" "joined_parts" s_joined_parts f fd) (T : Txt K mg aKINDS) (len : ∀ ds M Q E, F_joined_parts ds M Q E → ds.length = 2)
    (body : ∀ ds M Q R, F_joined_parts ds M Q R → W_joined_parts { nx := fun _ M' => Q .non M', rt := Q, xr := R } (startE 2 ds) M) : FnG P w K mg base 1 f fd ["kind", "parts"] (lift K F_joined_parts) :=
  ok_fn Fn sc_joined_parts len fun cdv A outer s H E gd hr => (dv_joined_parts T cdv A outer s H E gd hr).elim fun t ht => ⟨t, _, ht, body⟩

theorem sc_distance : FnScope ["kind", "one", "other", "difference"] ["kind", "one", "other"] (defScope s_distance) := ⟨rfl, rfl, rfl, by decide +kernel, rfl, by decide +kernel, by decide +kernel⟩
abbrev W_distance : WS := (wRet (wCall F_joined_parts (wCons (wVar 0) (wCons (wLc (wiSeq (wCall F_differences (wCons (wVar 1) (wCons (wVar 2) wNil)))) (wgName 3) wYes (wCall F_part_of (wCons (wVar 0) (wCons (wVar 3) wNil))) [3]) wNil))))
theorem dv_distance {f : Addr} (T : Txt K mg aKINDS) (h_differences : Has P w K mg base 1 "differences" s_differences ["one", "other"] F_differences) (h_part_of : Has P w K mg base 1 "part_of" s_part_of ["kind", "difference"] F_part_of) (h_joined_parts : Has P w K mg base 1 "joined_parts" s_joined_parts ["kind", "parts"] F_joined_parts) (cdv : Value) (A : Around) (outer : List Env) (s : Shared) (H : Hp) (E : XK) (gd : A.guards = some []) (hr : Room 1 (A.deeper (envOfC "distance" (defScope s_distance) s.heap.objs.size f cdv))) :
    ∃ t, DSs (cxOf (L2.CX P w) P w K mg base ["kind", "one", "other", "difference"] "distance" (defScope s_distance) f cdv A outer s H E) E (defBody s_distance) t W_distance := ⟨_, (dss_one (ds_ret (de_h h_joined_parts (hr.mono (by decide)) gd (da_cons (de_var 0) (da_cons (de_lc (own := [("difference", 3)]) rfl sc_distance.nd (di_seq (de_h h_differences (hr.mono (by decide)) gd (da_cons (de_var 1) (da_cons (de_var 2) da_nil)))) (show BlkOk ["kind", "one", "other", "difference"] (defScope s_distance) _ [("difference", 3)] from ⟨rfl, by decide +kernel, by decide +kernel, by decide +kernel, by decide +kernel⟩) (fun _ _ _ _ _ => (dg_name 3 sc_distance.nd)) (fun _ _ _ _ _ => dts_nil) (fun _ _ _ _ _ => (de_h h_part_of (hr.mono (by decide)) gd (da_cons (de_var 0) (da_cons (de_var 3) da_nil)))) keep_name) da_nil)))))⟩
theorem ok_distance {f : Addr} {fd : FuncData} (Fn : Fun K "distance" "distance" s_distance f fd) (T : Txt K mg aKINDS) (h_differences : Has P w K mg base 1 "differences" s_differences ["one", "other"] F_differences) (h_part_of : Has P w K mg base 1 "part_of" s_part_of ["kind", "difference"] F_part_of) (h_joined_parts : Has P w K mg base 1 "joined_parts" s_joined_parts ["kind", "parts"] F_joined_parts) (len : ∀ ds M Q E, F_distance ds M Q E → ds.length = 3)
    (body : ∀ ds M Q R, F_distance ds M Q R → W_distance { nx := fun _ M' => Q .non M', rt := Q, xr := R } (startE 4 ds) M) : FnG P w K mg base 2 f fd ["kind", "one", "other"] (lift K F_distance) :=
  ok_fn Fn sc_distance len fun cdv A outer s H E gd hr => (dv_distance T h_differences h_part_of h_joined_parts cdv A outer s H E gd hr).elim fun t ht => ⟨t, _, ht, body⟩

theorem sc_distance_at : FnScope ["kind", "one", "other", "places"] ["kind", "one", "other", "places"] (defScope s_distance_at) := ⟨rfl, rfl, rfl, by decide +kernel, rfl, by decide +kernel, by decide +kernel⟩
abbrev W_distance_at : WS := (wRet (wCall F_distance (wCons (wVar 0) (wCons (wCall F_at_places (wCons (wVar 1) (wCons (wVar 3) wNil))) (wCons (wCall F_at_places (wCons (wVar 2) (wCons (wVar 3) wNil))) wNil)))))
theorem dv_distance_at {f : Addr} (T : Txt K mg aKINDS) (h_at_places : Has P w K mg base 1 "at_places" s_at_places ["vector", "places"] F_at_places) (h_distance : Has P w K mg base 2 "distance" s_distance ["kind", "one", "other"] F_distance) (cdv : Value) (A : Around) (outer : List Env) (s : Shared) (H : Hp) (E : XK) (gd : A.guards = some []) (hr : Room 2 (A.deeper (envOfC "distance_at" (defScope s_distance_at) s.heap.objs.size f cdv))) :
    ∃ t, DSs (cxOf (L2.CX P w) P w K mg base ["kind", "one", "other", "places"] "distance_at" (defScope s_distance_at) f cdv A outer s H E) E (defBody s_distance_at) t W_distance_at := ⟨_, (dss_one (ds_ret (de_h h_distance (hr.mono (by decide)) gd (da_cons (de_var 0) (da_cons (de_h h_at_places (hr.mono (by decide)) gd (da_cons (de_var 1) (da_cons (de_var 3) da_nil))) (da_cons (de_h h_at_places (hr.mono (by decide)) gd (da_cons (de_var 2) (da_cons (de_var 3) da_nil))) da_nil))))))⟩
theorem ok_distance_at {f : Addr} {fd : FuncData} (Fn : Fun K "distance_at" "distance_at" s_distance_at f fd) (T : Txt K mg aKINDS) (h_at_places : Has P w K mg base 1 "at_places" s_at_places ["vector", "places"] F_at_places) (h_distance : Has P w K mg base 2 "distance" s_distance ["kind", "one", "other"] F_distance) (len : ∀ ds M Q E, F_distance_at ds M Q E → ds.length = 4)
    (body : ∀ ds M Q R, F_distance_at ds M Q R → W_distance_at { nx := fun _ M' => Q .non M', rt := Q, xr := R } (startE 4 ds) M) : FnG P w K mg base 3 f fd ["kind", "one", "other", "places"] (lift K F_distance_at) :=
  ok_fn Fn sc_distance_at len fun cdv A outer s H E gd hr => (dv_distance_at T h_at_places h_distance cdv A outer s H E gd hr).elim fun t ht => ⟨t, _, ht, body⟩

theorem sc_is_within : FnScope ["kind", "one", "other", "reach"] ["kind", "one", "other", "reach"] (defScope s_is_within) := ⟨rfl, rfl, rfl, by decide +kernel, rfl, by decide +kernel, by decide +kernel⟩
abbrev W_is_within : WS := (wRet (wOp fLe (wCall F_distance (wCons (wVar 0) (wCons (wVar 1) (wCons (wVar 2) wNil)))) (wVar 3)))
theorem dv_is_within {f : Addr} (T : Txt K mg aKINDS) (h_distance : Has P w K mg base 2 "distance" s_distance ["kind", "one", "other"] F_distance) (cdv : Value) (A : Around) (outer : List Env) (s : Shared) (H : Hp) (E : XK) (gd : A.guards = some []) (hr : Room 2 (A.deeper (envOfC "is_within" (defScope s_is_within) s.heap.objs.size f cdv))) :
    ∃ t, DSs (cxOf (L2.CX P w) P w K mg base ["kind", "one", "other", "reach"] "is_within" (defScope s_is_within) f cdv A outer s H E) E (defBody s_is_within) t W_is_within := ⟨_, (dss_one (ds_ret (de_cmp op_le sim_le (de_h h_distance (hr.mono (by decide)) gd (da_cons (de_var 0) (da_cons (de_var 1) (da_cons (de_var 2) da_nil)))) (de_var 3))))⟩
theorem ok_is_within {f : Addr} {fd : FuncData} (Fn : Fun K "is_within" "is_within" s_is_within f fd) (T : Txt K mg aKINDS) (h_distance : Has P w K mg base 2 "distance" s_distance ["kind", "one", "other"] F_distance) (len : ∀ ds M Q E, F_is_within ds M Q E → ds.length = 4)
    (body : ∀ ds M Q R, F_is_within ds M Q R → W_is_within { nx := fun _ M' => Q .non M', rt := Q, xr := R } (startE 4 ds) M) : FnG P w K mg base 3 f fd ["kind", "one", "other", "reach"] (lift K F_is_within) :=
  ok_fn Fn sc_is_within len fun cdv A outer s H E gd hr => (dv_is_within T h_distance cdv A outer s H E gd hr).elim fun t ht => ⟨t, _, ht, body⟩

theorem sc__law_heap : FnScope ["script", "cell", "cells", "stir"] ["script"] (defScope s__law_heap) := ⟨rfl, rfl, rfl, by decide +kernel, rfl, by decide +kernel, by decide +kernel⟩
abbrev W__law_heap : WS := (wSeq (wPar 2 3 (wCons (wLc (wiSeq (wSl (wVar 0) wNoP (wPart (wC (.int 60))))) (wgName 1) wYes (wOp addD (wOp (fI CM fun i j => .int (i * j)) (wC (.int 2)) (wCB fAbs (wCons (wVar 1) wNil))) (wCB fInt (wCons (wOp fLt (wVar 1) (wC (.int 0))) wNil))) [1]) (wCons (wC (.int 30727)) wNil))) (wSeq (wFor (wiSeq (wVar 2)) (wgName 1) (wAsg (wOp (fI (fun _ j => 0 < j) fun i j => .int (i % j)) (wCB fInt (wCons (wOp addD (wOp addD (wOp (fI CM fun i j => .int (i * j)) (wVar 3) (wC (.int 69621))) (wOp (fI (fun _ j => 0 < j) fun i j => .int (i % j)) (wCB fInt (wCons (wVar 1) wNil)) (wC (.int 2147483543)))) (wC (.int 29))) wNil)) (wC (.int 2147483647))) (wgName 3))) (wRet (wDrw (wLc (wiSeq (wVar 2)) (wgName 1) (wB (wOp fGe (wVar 1) (wOp (fI CPow fun i j => .int (i ^ j.toNat)) (wC (.int 10)) (wC (.int 18))))) (wVar 1) [1]) 3))))
theorem dv__law_heap {f : Addr} (T : Txt K mg aKINDS) (cdv : Value) (A : Around) (outer : List Env) (s : Shared) (H : Hp) (E : XK) (gd : A.guards = some []) (hr : Room 0 (A.deeper (envOfC "_law_heap" (defScope s__law_heap) s.heap.objs.size f cdv))) :
    ∃ t, DSs (cxOf (L2.CX P w) P w K mg base ["script", "cell", "cells", "stir"] "_law_heap" (defScope s__law_heap) f cdv A outer s H E) E (defBody s__law_heap) t W__law_heap := ⟨_, (dss_cons (ds_par 2 3 rfl sc__law_heap.nd (da_cons (de_lc (own := [("cell", 1)]) rfl sc__law_heap.nd (di_seq (de_slice (de_var 0) do_none (do_some de_int))) (show BlkOk ["script", "cell", "cells", "stir"] (defScope s__law_heap) _ [("cell", 1)] from ⟨rfl, by decide +kernel, by decide +kernel, by decide +kernel, by decide +kernel⟩) (fun _ _ _ _ _ => (dg_name 1 sc__law_heap.nd)) (fun _ _ _ _ _ => dts_nil) (fun _ _ _ _ _ => (de_add (de_mul de_int (de_callB call_abs sim_abs T.z_abs (show bootBuiltins "abs" = some (.builtin "abs") from rfl) (da_cons (de_var 1) da_nil))) (de_callTy call_int1 sim_int T.z_int (show bootBuiltins "int" = some (.type "int") from rfl) (da_cons (de_cmp op_lt sim_lt (de_var 1) de_int) da_nil)))) keep_name) (da_cons de_int da_nil))) (dss_cons (ds_for (passes_of rfl) rfl (di_seq (de_var 2)) (dg_name 1 sc__law_heap.nd) (dss_one (ds_set 3 sc__law_heap.nd (de_mod (de_callTy call_int1 sim_int T.z_int (show bootBuiltins "int" = some (.type "int") from rfl) (da_cons (de_add (de_add (de_mul (de_var 3) de_int) (de_mod (de_callTy call_int1 sim_int T.z_int (show bootBuiltins "int" = some (.type "int") from rfl) (da_cons (de_var 1) da_nil)) de_int)) de_int) da_nil)) de_int)))) (dss_one (ds_ret (de_drw 3 (de_lc (own := [("cell", 1)]) rfl sc__law_heap.nd (di_seq (de_var 2)) (show BlkOk ["script", "cell", "cells", "stir"] (defScope s__law_heap) _ [("cell", 1)] from ⟨rfl, by decide +kernel, by decide +kernel, by decide +kernel, by decide +kernel⟩) (fun _ _ _ _ _ => (dg_name 1 sc__law_heap.nd)) (fun _ _ _ _ _ => (dts_one (dt_cmp op_ge sim_ge (de_var 1) (de_pow de_int de_int)))) (fun _ _ _ _ _ => (de_var 1)) keep_name))))))⟩
theorem ok__law_heap {f : Addr} {fd : FuncData} (Fn : Fun K "_law_heap" "_law_heap" s__law_heap f fd) (T : Txt K mg aKINDS) (len : ∀ ds M Q E, F__law_heap ds M Q E → ds.length = 1)
    (body : ∀ ds M Q R, F__law_heap ds M Q R → W__law_heap { nx := fun _ M' => Q .non M', rt := Q, xr := R } (startE 4 ds) M) : FnG P w K mg base 1 f fd ["script"] (lift K F__law_heap) :=
  ok_fn Fn sc__law_heap len fun cdv A outer s H E gd hr => (dv__law_heap T cdv A outer s H E gd hr).elim fun t ht => ⟨t, _, ht, body⟩

theorem sc__law_draw : FnScope ["heap", "many", "rest"] ["heap", "many"] (defScope s__law_draw) := ⟨rfl, rfl, rfl, by decide +kernel, rfl, by decide +kernel, by decide +kernel⟩

theorem sc__law_pick : FnScope ["heap", "some"] ["heap", "some"] (defScope s__law_pick) := ⟨rfl, rfl, rfl, by decide +kernel, rfl, by decide +kernel, by decide +kernel⟩
abbrev W__law_pick : WS := (wRet (wOp ixD (wVar 1) (wCall F__law_draw (wCons (wVar 0) (wCons (wCB fLen (wCons (wVar 1) wNil)) wNil)))))
theorem dv__law_pick {f : Addr} (T : Txt K mg aKINDS) (h__law_draw : Has P w K mg base 1 "_law_draw" s__law_draw ["heap", "many"] F__law_draw) (cdv : Value) (A : Around) (outer : List Env) (s : Shared) (H : Hp) (E : XK) (gd : A.guards = some []) (hr : Room 1 (A.deeper (envOfC "_law_pick" (defScope s__law_pick) s.heap.objs.size f cdv))) :
    ∃ t, DSs (cxOf (L2.CX P w) P w K mg base ["heap", "some"] "_law_pick" (defScope s__law_pick) f cdv A outer s H E) E (defBody s__law_pick) t W__law_pick := ⟨_, (dss_one (ds_ret (de_ix (de_var 1) (de_h h__law_draw (hr.mono (by decide)) gd (da_cons (de_var 0) (da_cons (de_callB call_lenA sim_len T.z_len (show bootBuiltins "len" = some (.builtin "len") from rfl) (da_cons (de_var 1) da_nil)) da_nil))))))⟩
theorem ok__law_pick {f : Addr} {fd : FuncData} (Fn : Fun K "_law_pick" "_law_pick" s__law_pick f fd) (T : Txt K mg aKINDS) (h__law_draw : Has P w K mg base 1 "_law_draw" s__law_draw ["heap", "many"] F__law_draw) (len : ∀ ds M Q E, F__law_pick ds M Q E → ds.length = 2)
    (body : ∀ ds M Q R, F__law_pick ds M Q R → W__law_pick { nx := fun _ M' => Q .non M', rt := Q, xr := R } (startE 2 ds) M) : FnG P w K mg base 2 f fd ["heap", "some"] (lift K F__law_pick) :=
  ok_fn Fn sc__law_pick len fun cdv A outer s H E gd hr => (dv__law_pick T h__law_draw cdv A outer s H E gd hr).elim fun t ht => ⟨t, _, ht, body⟩

theorem sc__law_vectors : FnScope ["heap", "places", "many", "middle", "turn", "far", "found", "near", "vector", "place", "part"] ["heap", "places", "many"] (defScope s__law_vectors) := ⟨rfl, rfl, rfl, by decide +kernel, rfl, by decide +kernel, by decide +kernel⟩
abbrev W__law_vectors : WS := (wSeq (wAsg (wTup (wCons (wCall F__law_pick (wCons (wVar 0) (wCons (wLst (wCons (wC (.int 3)) (wCons (wC (.int 3)) (wCons (wC (.int 9)) (wCons (wC (.int 100)) (wCons (wC (.int 9900)) wNil)))))) wNil))) (wCons (wLstM wNil) wNil))) (wgTup 2 (wgCons (wgName 5) (wgCons (wgName 6) wgNil)))) (wSeq (wAsg (wLc (wiRange1 (wCons (wVar 1) wNil)) (wgName 9) wYes (wCall F__law_pick (wCons (wVar 0) (wCons (wLst (wCons (wC (.int 0)) (wCons (wC (.int 0)) (wCons (wOp (fI0 fun i j => .int (i - j)) (wC (.int 1)) (wVar 5)) (wCons (wVar 5) (wCons (wOp (fI0 fun i j => .int (i - j)) (wCall F__law_draw (wCons (wVar 0) (wCons (wOp addD (wOp (fI CM fun i j => .int (i * j)) (wC (.int 2)) (wVar 5)) (wC (.int 1))) wNil))) (wVar 5)) wNil)))))) wNil))) [9]) (wgName 3)) (wSeq (wFor (wiRange1 (wCons (wVar 2) wNil)) (wgName 4) (wSeq (wAsg (wCall F__law_pick (wCons (wVar 0) (wCons (wLst (wCons (wVar 5) (wCons (wC (.int 2)) (wCons (wC (.int 1)) wNil)))) wNil))) (wgName 7)) (wSeq (wAsg (wLc (wiSeq (wVar 3)) (wgName 10) wYes (wCB (f2I fun i j => if j > i then j else i) (wCons (wNeg (wVar 5)) (wCons (wCB (f2I fun i j => if j < i then j else i) (wCons (wVar 5) (wCons (wOp (fI0 fun i j => .int (i - j)) (wOp addD (wVar 10) (wCall F__law_draw (wCons (wVar 0) (wCons (wOp addD (wOp (fI CM fun i j => .int (i * j)) (wC (.int 2)) (wVar 7)) (wC (.int 1))) wNil)))) (wVar 7)) wNil))) wNil))) [10]) (wgName 8)) (wDrop (wApp (wVar 6) (wCons (wIf (wOr (wB (wOp (eqV false) (wVar 6) (wLst wNil))) (wB (wOp fGt (wCall F__law_draw (wCons (wVar 0) (wCons (wC (.int 6)) wNil))) (wC (.int 0))))) (wCB fTuple (wCons (wVar 8) wNil)) (wCall F__law_pick (wCons (wVar 0) (wCons (wVar 6) wNil)))) wNil)))))) (wRetF (wVar 6)))))
theorem dv__law_vectors {f : Addr} (T : Txt K mg aKINDS) (h__law_draw : Has P w K mg base 1 "_law_draw" s__law_draw ["heap", "many"] F__law_draw) (h__law_pick : Has P w K mg base 2 "_law_pick" s__law_pick ["heap", "some"] F__law_pick) (cdv : Value) (A : Around) (outer : List Env) (s : Shared) (H : Hp) (E : XK) (gd : A.guards = some []) (hr : Room 2 (A.deeper (envOfC "_law_vectors" (defScope s__law_vectors) s.heap.objs.size f cdv))) :
    ∃ t, DSs (cxOf (L2.CX P w) P w K mg base ["heap", "places", "many", "middle", "turn", "far", "found", "near", "vector", "place", "part"] "_law_vectors" (defScope s__law_vectors) f cdv A outer s H E) E (defBody s__law_vectors) t W__law_vectors := ⟨_, (dss_cons (ds_asg (de_tup (da_cons (de_h h__law_pick (hr.mono (by decide)) gd (da_cons (de_var 0) (da_cons (de_lst (da_cons de_int (da_cons de_int (da_cons de_int (da_cons de_int (da_cons de_int da_nil)))))) da_nil))) (da_cons (de_lstM da_nil) da_nil))) (dg_tup rfl (dgs_cons (dg_name 5 sc__law_vectors.nd) (dgs_cons (dg_name 6 sc__law_vectors.nd) dgs_nil)))) (dss_cons (ds_setLc 3 (own := [("place", 9)]) rfl sc__law_vectors.nd (di_range1 T.z_range (da_cons (de_var 1) da_nil)) (show BlkOk ["heap", "places", "many", "middle", "turn", "far", "found", "near", "vector", "place", "part"] (defScope s__law_vectors) _ [("place", 9)] from ⟨rfl, by decide +kernel, by decide +kernel, by decide +kernel, by decide +kernel⟩) (fun _ _ _ _ _ => (dg_name 9 sc__law_vectors.nd)) (fun _ _ _ _ _ => dts_nil) (fun _ _ _ _ _ => (de_h h__law_pick (hr.mono (by decide)) gd (da_cons (de_var 0) (da_cons (de_lst (da_cons de_int (da_cons de_int (da_cons (de_sub de_int (de_var 5)) (da_cons (de_var 5) (da_cons (de_sub (de_h h__law_draw (hr.mono (by decide)) gd (da_cons (de_var 0) (da_cons (de_add (de_mul de_int (de_var 5)) de_int) da_nil))) (de_var 5)) da_nil)))))) da_nil)))) keep_name (by rfl)) (dss_cons (ds_for (passes_of rfl) rfl (di_range1 T.z_range (da_cons (de_var 2) da_nil)) (dg_name 4 sc__law_vectors.nd) (dss_cons (ds_set 7 sc__law_vectors.nd (de_h h__law_pick (hr.mono (by decide)) gd (da_cons (de_var 0) (da_cons (de_lst (da_cons (de_var 5) (da_cons de_int (da_cons de_int da_nil)))) da_nil)))) (dss_cons (ds_setLc 8 (own := [("part", 10)]) rfl sc__law_vectors.nd (di_seq (de_var 3)) (show BlkOk ["heap", "places", "many", "middle", "turn", "far", "found", "near", "vector", "place", "part"] (defScope s__law_vectors) _ [("part", 10)] from ⟨rfl, by decide +kernel, by decide +kernel, by decide +kernel, by decide +kernel⟩) (fun _ _ _ _ _ => (dg_name 10 sc__law_vectors.nd)) (fun _ _ _ _ _ => dts_nil) (fun _ _ _ _ _ => (de_callB (call_max2 rfl) sim_2I T.z_max (show bootBuiltins "max" = some (.builtin "max") from rfl) (da_cons (de_neg (de_var 5)) (da_cons (de_callB (call_min2 rfl) sim_2I T.z_min (show bootBuiltins "min" = some (.builtin "min") from rfl) (da_cons (de_var 5) (da_cons (de_sub (de_add (de_var 10) (de_h h__law_draw (hr.mono (by decide)) gd (da_cons (de_var 0) (da_cons (de_add (de_mul de_int (de_var 7)) de_int) da_nil)))) (de_var 7)) da_nil))) da_nil)))) keep_name (by rfl)) (dss_one (ds_expr (de_append (de_var 6) (da_cons (de_if (DW.dt (dw_or (dt_cmp (op_eqV hr) sim_eqV (de_var 6) (de_lst da_nil)) (dw_or1 (dt_cmp op_gt sim_gt (de_h h__law_draw (hr.mono (by decide)) gd (da_cons (de_var 0) (da_cons de_int da_nil))) de_int)))) (de_callTy call_tuple_of sim_tuple T.z_tuple (show bootBuiltins "tuple" = some (.type "tuple") from rfl) (da_cons (de_var 8) da_nil)) (de_h h__law_pick (hr.mono (by decide)) gd (da_cons (de_var 0) (da_cons (de_var 6) da_nil)))) da_nil))))))) (dss_one (ds_retF (de_var 6))))))⟩
theorem ok__law_vectors {f : Addr} {fd : FuncData} (Fn : Fun K "_law_vectors" "_law_vectors" s__law_vectors f fd) (T : Txt K mg aKINDS) (h__law_draw : Has P w K mg base 1 "_law_draw" s__law_draw ["heap", "many"] F__law_draw) (h__law_pick : Has P w K mg base 2 "_law_pick" s__law_pick ["heap", "some"] F__law_pick) (len : ∀ ds M Q E, F__law_vectors ds M Q E → ds.length = 3)
    (body : ∀ ds M Q R, F__law_vectors ds M Q R → W__law_vectors { nx := fun _ M' => Q .non M', rt := Q, xr := R } (startE 11 ds) M) : FnG P w K mg base 3 f fd ["heap", "places", "many"] (lift K F__law_vectors) :=
  ok_fn Fn sc__law_vectors len fun cdv A outer s H E gd hr => (dv__law_vectors T h__law_draw h__law_pick cdv A outer s H E gd hr).elim fun t ht => ⟨t, _, ht, body⟩

theorem sc__law_part : FnScope ["kind", "one", "other", "size"] ["kind", "one", "other"] (defScope s__law_part) := ⟨rfl, rfl, rfl, by decide +kernel, rfl, by decide +kernel, by decide +kernel⟩
abbrev W__law_part : WS := (wSeq (wAsg (wIf (wB (wOp fGt (wVar 1) (wVar 2))) (wOp (fI0 fun i j => .int (i - j)) (wVar 1) (wVar 2)) (wOp (fI0 fun i j => .int (i - j)) (wVar 2) (wVar 1))) (wgName 3)) (wRet (wIf (wB (wOp (eqV false) (wVar 0) (wC (.str "square")))) (wOp (fI CM fun i j => .int (i * j)) (wVar 3) (wVar 3)) (wIf (wB (wOp (eqV false) (wVar 0) (wC (.str "unlike")))) (wCB fInt (wCons (wOp fGt (wVar 3) (wC (.int 0))) wNil)) (wVar 3)))))
theorem dv__law_part {f : Addr} (T : Txt K mg aKINDS) (cdv : Value) (A : Around) (outer : List Env) (s : Shared) (H : Hp) (E : XK) (gd : A.guards = some []) (hr : Room 0 (A.deeper (envOfC "_law_part" (defScope s__law_part) s.heap.objs.size f cdv))) :
    ∃ t, DSs (cxOf (L2.CX P w) P w K mg base ["kind", "one", "other", "size"] "_law_part" (defScope s__law_part) f cdv A outer s H E) E (defBody s__law_part) t W__law_part := ⟨_, (dss_cons (ds_set 3 sc__law_part.nd (de_if (dt_cmp op_gt sim_gt (de_var 1) (de_var 2)) (de_sub (de_var 1) (de_var 2)) (de_sub (de_var 2) (de_var 1)))) (dss_one (ds_ret (de_if (dt_cmp (op_eqV hr) sim_eqV (de_var 0) de_str) (de_mul (de_var 3) (de_var 3)) (de_if (dt_cmp (op_eqV hr) sim_eqV (de_var 0) de_str) (de_callTy call_int1 sim_int T.z_int (show bootBuiltins "int" = some (.type "int") from rfl) (da_cons (de_cmp op_gt sim_gt (de_var 3) de_int) da_nil)) (de_var 3))))))⟩
theorem ok__law_part {f : Addr} {fd : FuncData} (Fn : Fun K "_law_part" "_law_part" s__law_part f fd) (T : Txt K mg aKINDS) (len : ∀ ds M Q E, F__law_part ds M Q E → ds.length = 3)
    (body : ∀ ds M Q R, F__law_part ds M Q R → W__law_part { nx := fun _ M' => Q .non M', rt := Q, xr := R } (startE 4 ds) M) : FnG P w K mg base 1 f fd ["kind", "one", "other"] (lift K F__law_part) :=
  ok_fn Fn sc__law_part len fun cdv A outer s H E gd hr => (dv__law_part T cdv A outer s H E gd hr).elim fun t ht => ⟨t, _, ht, body⟩

theorem sc__law_distance : FnScope ["kind", "one", "other", "found", "place", "part"] ["kind", "one", "other"] (defScope s__law_distance) := ⟨rfl, rfl, rfl, by decide +kernel, rfl, by decide +kernel, by decide +kernel⟩
abbrev W__law_distance : WS := (wSeq (wAsg (wC (.int 0)) (wgName 3)) (wSeq (wFor (wiRange1 (wCons (wCB fLen (wCons (wVar 1) wNil)) wNil)) (wgName 4) (wSeq (wAsg (wCall F__law_part (wCons (wVar 0) (wCons (wOp ixD (wVar 1) (wVar 4)) (wCons (wOp ixD (wVar 2) (wVar 4)) wNil)))) (wgName 5)) (wAsg (wIf (wB (wOp (eqV false) (wVar 0) (wC (.str "most")))) (wIf (wB (wOp fGt (wVar 5) (wVar 3))) (wVar 5) (wVar 3)) (wOp addD (wVar 3) (wVar 5))) (wgName 3)))) (wRet (wVar 3))))
theorem dv__law_distance {f : Addr} (T : Txt K mg aKINDS) (h__law_part : Has P w K mg base 1 "_law_part" s__law_part ["kind", "one", "other"] F__law_part) (cdv : Value) (A : Around) (outer : List Env) (s : Shared) (H : Hp) (E : XK) (gd : A.guards = some []) (hr : Room 1 (A.deeper (envOfC "_law_distance" (defScope s__law_distance) s.heap.objs.size f cdv))) :
    ∃ t, DSs (cxOf (L2.CX P w) P w K mg base ["kind", "one", "other", "found", "place", "part"] "_law_distance" (defScope s__law_distance) f cdv A outer s H E) E (defBody s__law_distance) t W__law_distance := ⟨_, (dss_cons (ds_set 3 sc__law_distance.nd de_int) (dss_cons (ds_for (passes_of rfl) rfl (di_range1 T.z_range (da_cons (de_callB call_lenA sim_len T.z_len (show bootBuiltins "len" = some (.builtin "len") from rfl) (da_cons (de_var 1) da_nil)) da_nil)) (dg_name 4 sc__law_distance.nd) (dss_cons (ds_set 5 sc__law_distance.nd (de_h h__law_part (hr.mono (by decide)) gd (da_cons (de_var 0) (da_cons (de_ix (de_var 1) (de_var 4)) (da_cons (de_ix (de_var 2) (de_var 4)) da_nil))))) (dss_one (ds_set 3 sc__law_distance.nd (de_if (dt_cmp (op_eqV hr) sim_eqV (de_var 0) de_str) (de_if (dt_cmp op_gt sim_gt (de_var 5) (de_var 3)) (de_var 5) (de_var 3)) (de_add (de_var 3) (de_var 5))))))) (dss_one (ds_ret (de_var 3)))))⟩
theorem ok__law_distance {f : Addr} {fd : FuncData} (Fn : Fun K "_law_distance" "_law_distance" s__law_distance f fd) (T : Txt K mg aKINDS) (h__law_part : Has P w K mg base 1 "_law_part" s__law_part ["kind", "one", "other"] F__law_part) (len : ∀ ds M Q E, F__law_distance ds M Q E → ds.length = 3)
    (body : ∀ ds M Q R, F__law_distance ds M Q R → W__law_distance { nx := fun _ M' => Q .non M', rt := Q, xr := R } (startE 6 ds) M) : FnG P w K mg base 2 f fd ["kind", "one", "other"] (lift K F__law_distance) :=
  ok_fn Fn sc__law_distance len fun cdv A outer s H E gd hr => (dv__law_distance T h__law_part cdv A outer s H E gd hr).elim fun t ht => ⟨t, _, ht, body⟩

theorem sc__law_lots : FnScope ["heap", "places", "order", "turn", "found", "place", "at", "other", "some"] ["heap", "places"] (defScope s__law_lots) := ⟨rfl, rfl, rfl, by decide +kernel, rfl, by decide +kernel, by decide +kernel⟩
abbrev W__law_lots : WS := (wSeq (wAsg (wListRg (wVar 1)) (wgName 2)) (wSeq (wFor (wiRange1 (wCons (wVar 1) wNil)) (wgName 3) (wSeq (wPar 6 7 (wCons (wCall F__law_draw (wCons (wVar 0) (wCons (wVar 1) wNil))) (wCons (wCall F__law_draw (wCons (wVar 0) (wCons (wVar 1) wNil))) wNil))) (wAsg (wTup (wCons (wOp ixD (wVar 2) (wVar 7)) (wCons (wOp ixD (wVar 2) (wVar 6)) wNil))) (wgTup 2 (wgCons (wgSub (wVar 2) (wVar 6)) (wgCons (wgSub (wVar 2) (wVar 7)) wgNil)))))) (wSeq (wAsg (wLc (wiRange1 (wCons (wOp addD (wC (.int 1)) (wCall F__law_draw (wCons (wVar 0) (wCons (wC (.int 3)) wNil)))) wNil)) (wgName 3) wYes (wLstM wNil) [3]) (wgName 4)) (wSeq (wFor (wiSeq (wVar 2)) (wgName 5) (wDrop (wApp (wCall F__law_pick (wCons (wVar 0) (wCons (wVar 4) wNil))) (wCons (wVar 5) wNil)))) (wRet (wTup (wCons (wCB fTuple (wCons (wVar 2) wNil)) (wCons (wLc (wiSeq (wVar 4)) (wgName 8) wYes (wCB fTuple (wCons (wVar 8) wNil)) [8]) wNil))))))))
theorem dv__law_lots {f : Addr} (T : Txt K mg aKINDS) (h__law_draw : Has P w K mg base 1 "_law_draw" s__law_draw ["heap", "many"] F__law_draw) (h__law_pick : Has P w K mg base 2 "_law_pick" s__law_pick ["heap", "some"] F__law_pick) (cdv : Value) (A : Around) (outer : List Env) (s : Shared) (H : Hp) (E : XK) (gd : A.guards = some []) (hr : Room 2 (A.deeper (envOfC "_law_lots" (defScope s__law_lots) s.heap.objs.size f cdv))) :
    ∃ t, DSs (cxOf (L2.CX P w) P w K mg base ["heap", "places", "order", "turn", "found", "place", "at", "other", "some"] "_law_lots" (defScope s__law_lots) f cdv A outer s H E) E (defBody s__law_lots) t W__law_lots := ⟨_, (dss_cons (ds_set 2 sc__law_lots.nd (de_listRg rfl T.z_list T.z_range (de_var 1))) (dss_cons (ds_for (passes_of rfl) rfl (di_range1 T.z_range (da_cons (de_var 1) da_nil)) (dg_name 3 sc__law_lots.nd) (dss_cons (ds_par 6 7 rfl sc__law_lots.nd (da_cons (de_h h__law_draw (hr.mono (by decide)) gd (da_cons (de_var 0) (da_cons (de_var 1) da_nil))) (da_cons (de_h h__law_draw (hr.mono (by decide)) gd (da_cons (de_var 0) (da_cons (de_var 1) da_nil))) da_nil))) (dss_one (ds_asg (de_tup (da_cons (de_ix (de_var 2) (de_var 7)) (da_cons (de_ix (de_var 2) (de_var 6)) da_nil))) (dg_tup rfl (dgs_cons (dg_sub (de_var 2) (de_var 6)) (dgs_cons (dg_sub (de_var 2) (de_var 7)) dgs_nil))))))) (dss_cons (ds_setLc 4 (own := [("turn", 3)]) rfl sc__law_lots.nd (di_range1 T.z_range (da_cons (de_add de_int (de_h h__law_draw (hr.mono (by decide)) gd (da_cons (de_var 0) (da_cons de_int da_nil)))) da_nil)) (show BlkOk ["heap", "places", "order", "turn", "found", "place", "at", "other", "some"] (defScope s__law_lots) _ [("turn", 3)] from ⟨rfl, by decide +kernel, by decide +kernel, by decide +kernel, by decide +kernel⟩) (fun _ _ _ _ _ => (dg_name 3 sc__law_lots.nd)) (fun _ _ _ _ _ => dts_nil) (fun _ _ _ _ _ => (de_lstM da_nil)) keep_name (by rfl)) (dss_cons (ds_for (passes_of rfl) rfl (di_seq (de_var 2)) (dg_name 5 sc__law_lots.nd) (dss_one (ds_expr (de_append (de_h h__law_pick (hr.mono (by decide)) gd (da_cons (de_var 0) (da_cons (de_var 4) da_nil))) (da_cons (de_var 5) da_nil))))) (dss_one (ds_ret (de_tup (da_cons (de_callTy call_tuple_of sim_tuple T.z_tuple (show bootBuiltins "tuple" = some (.type "tuple") from rfl) (da_cons (de_var 2) da_nil)) (da_cons (de_lc (own := [("some", 8)]) rfl sc__law_lots.nd (di_seq (de_var 4)) (show BlkOk ["heap", "places", "order", "turn", "found", "place", "at", "other", "some"] (defScope s__law_lots) _ [("some", 8)] from ⟨rfl, by decide +kernel, by decide +kernel, by decide +kernel, by decide +kernel⟩) (fun _ _ _ _ _ => (dg_name 8 sc__law_lots.nd)) (fun _ _ _ _ _ => dts_nil) (fun _ _ _ _ _ => (de_callTy call_tuple_of sim_tuple T.z_tuple (show bootBuiltins "tuple" = some (.type "tuple") from rfl) (da_cons (de_var 8) da_nil))) keep_name) da_nil)))))))))⟩
theorem ok__law_lots {f : Addr} {fd : FuncData} (Fn : Fun K "_law_lots" "_law_lots" s__law_lots f fd) (T : Txt K mg aKINDS) (h__law_draw : Has P w K mg base 1 "_law_draw" s__law_draw ["heap", "many"] F__law_draw) (h__law_pick : Has P w K mg base 2 "_law_pick" s__law_pick ["heap", "some"] F__law_pick) (len : ∀ ds M Q E, F__law_lots ds M Q E → ds.length = 2)
    (body : ∀ ds M Q R, F__law_lots ds M Q R → W__law_lots { nx := fun _ M' => Q .non M', rt := Q, xr := R } (startE 9 ds) M) : FnG P w K mg base 3 f fd ["heap", "places"] (lift K F__law_lots) :=
  ok_fn Fn sc__law_lots len fun cdv A outer s H E gd hr => (dv__law_lots T h__law_draw h__law_pick cdv A outer s H E gd hr).elim fun t ht => ⟨t, _, ht, body⟩

theorem sc__law_pair_right : FnScope ["heap", "kind", "one", "other", "due", "told", "step", "parts", "at", "kept", "singles", "reach", "order", "lots", "here", "part", "some", "place"] ["heap", "kind", "one", "other"] (defScope s__law_pair_right) := ⟨rfl, rfl, rfl, by decide +kernel, rfl, by decide +kernel, by decide +kernel⟩
abbrev W__law_pair_right : WS := (wSeq (wAsg (wCall F__law_distance (wCons (wVar 1) (wCons (wVar 2) (wCons (wVar 3) wNil)))) (wgName 4)) (wSeq (wAsg (wCall F_distance (wCons (wVar 1) (wCons (wVar 2) (wCons (wVar 3) wNil)))) (wgName 5)) (wSeq (wIfS (wOr (wB (wOp (eqV true) (wCB fRepr (wCons (wVar 5) wNil)) (wCB fRepr (wCons (wVar 4) wNil)))) (wOr (wB (wOp (eqV true) (wCallK 0 3 [2, 1, 0] F_distance wNil (wCons (wVar 3) (wCons (wVar 2) (wCons (wVar 1) wNil)))) (wVar 4))) (wB (wOp (eqV true) (wCall F_distance (wCons (wVar 1) (wCons (wVar 3) (wCons (wVar 2) wNil)))) (wVar 4))))) (wRet (wC (.bl false))) wNext) (wSeq (wIfS (wOr (wB (wOp (eqV true) (wOp (eqV false) (wVar 5) (wC (.int 0))) (wOp (eqV false) (wVar 2) (wVar 3)))) (wB (wOp (eqV true) (wCall F_distance (wCons (wVar 1) (wCons (wVar 2) (wCons (wVar 2) wNil)))) (wC (.int 0))))) (wRet (wC (.bl false))) wNext) (wSeq (wAsg (wLc (wiSeq (wVar 2)) (wgName 15) wYes (wOp (fI0 fun i j => .int (i - j)) (wCall F__law_draw (wCons (wVar 0) (wCons (wC (.int 41)) wNil))) (wC (.int 20))) [15]) (wgName 6)) (wSeq (wIfS (wB (wOp (eqV true) (wCall F_distance (wCons (wVar 1) (wCons (wCB fTuple (wCons (wLc (wiRange1 (wCons (wCB fLen (wCons (wVar 2) wNil)) wNil)) (wgName 8) wYes (wOp addD (wOp ixD (wVar 2) (wVar 8)) (wOp ixD (wVar 6) (wVar 8))) [8]) wNil)) (wCons (wCB fTuple (wCons (wLc (wiRange1 (wCons (wCB fLen (wCons (wVar 2) wNil)) wNil)) (wgName 8) wYes (wOp addD (wOp ixD (wVar 3) (wVar 8)) (wOp ixD (wVar 6) (wVar 8))) [8]) wNil)) wNil)))) (wVar 4))) (wRet (wC (.bl false))) wNext) (wSeq (wAsg (wCall F__law_lots (wCons (wVar 0) (wCons (wCB fLen (wCons (wVar 2) wNil)) wNil))) (wgTup 2 (wgCons (wgName 12) (wgCons (wgName 13) wgNil)))) (wSeq (wIfS (wB (wOp (eqV true) (wCall F_distance (wCons (wVar 1) (wCons (wCB fTuple (wCons (wLc (wiSeq (wVar 12)) (wgName 8) wYes (wOp ixD (wVar 2) (wVar 8)) [8]) wNil)) (wCons (wCB fTuple (wCons (wLc (wiSeq (wVar 12)) (wgName 8) wYes (wOp ixD (wVar 3) (wVar 8)) [8]) wNil)) wNil)))) (wVar 4))) (wRet (wC (.bl false))) wNext) (wSeq (wAsg (wLc (wiSeq (wVar 13)) (wgName 16) wYes (wCall F_distance_at (wCons (wVar 1) (wCons (wVar 2) (wCons (wVar 3) (wCons (wVar 16) wNil))))) [16]) (wgName 7)) (wSeq (wFor (wiRange1 (wCons (wCB fLen (wCons (wVar 13) wNil)) wNil)) (wgName 8) (wSeq (wAsg (wCall F__law_distance (wCons (wVar 1) (wCons (wLc (wiSeq (wOp ixD (wVar 13) (wVar 8))) (wgName 17) wYes (wOp ixD (wVar 2) (wVar 17)) [17]) (wCons (wLc (wiSeq (wOp ixD (wVar 13) (wVar 8))) (wgName 17) wYes (wOp ixD (wVar 3) (wVar 17)) [17]) wNil)))) (wgName 14)) (wIfS (wOr (wB (wOp (eqV true) (wCB fRepr (wCons (wOp ixD (wVar 7) (wVar 8)) wNil)) (wCB fRepr (wCons (wVar 14) wNil)))) (wOr (wB (wOp fGt (wVar 14) (wVar 4))) (wB (wOp (eqV true) (wCallK 0 4 [3, 2, 1, 0] F_distance_at wNil (wCons (wOp ixD (wVar 13) (wVar 8)) (wCons (wVar 3) (wCons (wVar 2) (wCons (wVar 1) wNil))))) (wVar 14))))) (wRet (wC (.bl false))) wNext))) (wSeq (wAsg (wSl (wVar 7) wNoP wNoP) (wgName 9)) (wSeq (wIfS (wOr (wB (wOp (eqV true) (wCB fRepr (wCons (wCall F_joined_parts (wCons (wVar 1) (wCons (wVar 7) wNil))) wNil)) (wCB fRepr (wCons (wVar 4) wNil)))) (wOr (wB (wOp (eqV true) (wCallK 0 2 [1, 0] F_joined_parts wNil (wCons (wCB fTuple (wCons (wVar 7) wNil)) (wCons (wVar 1) wNil))) (wVar 4))) (wB (wOp (eqV true) (wVar 7) (wVar 9))))) (wRet (wC (.bl false))) wNext) (wSeq (wAsg (wLc (wiRange1 (wCons (wCB fLen (wCons (wVar 2) wNil)) wNil)) (wgName 8) wYes (wCall F_part_of (wCons (wVar 1) (wCons (wOp (fI0 fun i j => .int (i - j)) (wOp ixD (wVar 2) (wVar 8)) (wOp ixD (wVar 3) (wVar 8))) wNil))) [8]) (wgName 10)) (wSeq (wIfS (wOr (wB (wOp (eqV true) (wCB fRepr (wCons (wVar 10) wNil)) (wCB fRepr (wCons (wLc (wiRange1 (wCons (wCB fLen (wCons (wVar 2) wNil)) wNil)) (wgName 8) wYes (wCall F__law_part (wCons (wVar 1) (wCons (wOp ixD (wVar 2) (wVar 8)) (wCons (wOp ixD (wVar 3) (wVar 8)) wNil)))) [8]) wNil)))) (wB (wOp (eqV true) (wCall F_joined_parts (wCons (wVar 1) (wCons (wVar 10) wNil))) (wVar 4)))) (wRet (wC (.bl false))) wNext) (wSeq (wIfS (wOr (wB (wOp (eqV true) (wCallK 0 2 [1, 0] F_part_of wNil (wCons (wOp (fI0 fun i j => .int (i - j)) (wOp ixD (wVar 3) (wC (.int 0))) (wOp ixD (wVar 2) (wC (.int 0)))) (wCons (wVar 1) wNil))) (wOp ixD (wVar 10) (wC (.int 0))))) (wB (wOp (eqV true) (wCall F_joined_parts (wCons (wVar 1) (wCons (wTup wNil) wNil))) (wC (.int 0))))) (wRet (wC (.bl false))) wNext) (wSeq (wFor (wiSeq (wLst (wCons (wVar 4) (wCons (wOp (fI0 fun i j => .int (i - j)) (wVar 4) (wC (.int 1))) (wCons (wOp addD (wVar 4) (wC (.int 1))) (wCons (wCall F__law_draw (wCons (wVar 0) (wCons (wOp addD (wOp (fI CM fun i j => .int (i * j)) (wC (.int 2)) (wVar 4)) (wC (.int 2))) wNil))) (wCons (wOp (fI0 fun i j => .int (i - j)) (wNeg (wC (.int 1))) (wCall F__law_draw (wCons (wVar 0) (wCons (wC (.int 9)) wNil)))) wNil))))))) (wgName 11) (wIfS (wB (wOp (eqV true) (wCB fRepr (wCons (wCall F_is_within (wCons (wVar 1) (wCons (wVar 2) (wCons (wVar 3) (wCons (wVar 11) wNil))))) wNil)) (wCB fRepr (wCons (wOp fLe (wVar 4) (wVar 11)) wNil)))) (wRet (wC (.bl false))) wNext)) (wRet (wOp fIsB (wCallK 0 4 [3, 2, 1, 0] F_is_within wNil (wCons (wVar 4) (wCons (wVar 3) (wCons (wVar 2) (wCons (wVar 1) wNil))))) (wC (.bl true))))))))))))))))))))
theorem dv__law_pair_right {f : Addr} (T : Txt K mg aKINDS) (h_part_of : Has P w K mg base 1 "part_of" s_part_of ["kind", "difference"] F_part_of) (h_joined_parts : Has P w K mg base 1 "joined_parts" s_joined_parts ["kind", "parts"] F_joined_parts) (h_distance : Has P w K mg base 2 "distance" s_distance ["kind", "one", "other"] F_distance) (h_distance_at : Has P w K mg base 3 "distance_at" s_distance_at ["kind", "one", "other", "places"] F_distance_at) (h_is_within : Has P w K mg base 3 "is_within" s_is_within ["kind", "one", "other", "reach"] F_is_within) (h__law_draw : Has P w K mg base 1 "_law_draw" s__law_draw ["heap", "many"] F__law_draw) (h__law_part : Has P w K mg base 1 "_law_part" s__law_part ["kind", "one", "other"] F__law_part) (h__law_distance : Has P w K mg base 2 "_law_distance" s__law_distance ["kind", "one", "other"] F__law_distance) (h__law_lots : Has P w K mg base 3 "_law_lots" s__law_lots ["heap", "places"] F__law_lots) (cdv : Value) (A : Around) (outer : List Env) (s : Shared) (H : Hp) (E : XK) (gd : A.guards = some []) (hr : Room 3 (A.deeper (envOfC "_law_pair_right" (defScope s__law_pair_right) s.heap.objs.size f cdv))) :
    ∃ t, DSs (cxOf (L2.CX P w) P w K mg base ["heap", "kind", "one", "other", "due", "told", "step", "parts", "at", "kept", "singles", "reach", "order", "lots", "here", "part", "some", "place"] "_law_pair_right" (defScope s__law_pair_right) f cdv A outer s H E) E (defBody s__law_pair_right) t W__law_pair_right := ⟨_, (dss_cons (ds_set 4 sc__law_pair_right.nd (de_h h__law_distance (hr.mono (by decide)) gd (da_cons (de_var 1) (da_cons (de_var 2) (da_cons (de_var 3) da_nil))))) (dss_cons (ds_set 5 sc__law_pair_right.nd (de_h h_distance (hr.mono (by decide)) gd (da_cons (de_var 1) (da_cons (de_var 2) (da_cons (de_var 3) da_nil))))) (dss_cons (ds_if (DW.dt (dw_or (dt_cmp (op_neV hr) sim_neV (de_callB (call_repr_any hr gd) sim_repr T.z_repr (show bootBuiltins "repr" = some (.builtin "repr") from rfl) (da_cons (de_var 5) da_nil)) (de_callB (call_repr_any hr gd) sim_repr T.z_repr (show bootBuiltins "repr" = some (.builtin "repr") from rfl) (da_cons (de_var 4) da_nil))) (dw_or (dt_cmp (op_neV hr) sim_neV (de_hk0 (ks := ["other", "one", "kind"]) (idx := [2, 1, 0]) h_distance (hr.mono (by decide)) gd (fun _ _ _ _ _ _ us ws h1 h2 => match us, ws, h1, h2 with | [], [_, _, _], _, _ => rfl) (dk_cons (de_var 3) (dk_cons (de_var 2) (dk_cons (de_var 1) dk_nil)))) (de_var 4)) (dw_or1 (dt_cmp (op_neV hr) sim_neV (de_h h_distance (hr.mono (by decide)) gd (da_cons (de_var 1) (da_cons (de_var 3) (da_cons (de_var 2) da_nil)))) (de_var 4)))))) (dss_one (ds_ret de_bl)) dss_nil) (dss_cons (ds_if (DW.dt (dw_or (dt_cmp (op_neV hr) sim_neV (de_cmp (op_eqV hr) sim_eqV (de_var 5) de_int) (de_cmp (op_eqV hr) sim_eqV (de_var 2) (de_var 3))) (dw_or1 (dt_cmp (op_neV hr) sim_neV (de_h h_distance (hr.mono (by decide)) gd (da_cons (de_var 1) (da_cons (de_var 2) (da_cons (de_var 2) da_nil)))) de_int)))) (dss_one (ds_ret de_bl)) dss_nil) (dss_cons (ds_set 6 sc__law_pair_right.nd (de_lc (own := [("part", 15)]) rfl sc__law_pair_right.nd (di_seq (de_var 2)) (show BlkOk ["heap", "kind", "one", "other", "due", "told", "step", "parts", "at", "kept", "singles", "reach", "order", "lots", "here", "part", "some", "place"] (defScope s__law_pair_right) _ [("part", 15)] from ⟨rfl, by decide +kernel, by decide +kernel, by decide +kernel, by decide +kernel⟩) (fun _ _ _ _ _ => (dg_name 15 sc__law_pair_right.nd)) (fun _ _ _ _ _ => dts_nil) (fun _ _ _ _ _ => (de_sub (de_h h__law_draw (hr.mono (by decide)) gd (da_cons (de_var 0) (da_cons de_int da_nil))) de_int)) keep_name)) (dss_cons (ds_if (dt_cmp (op_neV hr) sim_neV (de_h h_distance (hr.mono (by decide)) gd (da_cons (de_var 1) (da_cons (de_callTy call_tuple_of sim_tuple T.z_tuple (show bootBuiltins "tuple" = some (.type "tuple") from rfl) (da_cons (de_lc (own := [("at", 8)]) rfl sc__law_pair_right.nd (di_range1 T.z_range (da_cons (de_callB call_lenA sim_len T.z_len (show bootBuiltins "len" = some (.builtin "len") from rfl) (da_cons (de_var 2) da_nil)) da_nil)) (show BlkOk ["heap", "kind", "one", "other", "due", "told", "step", "parts", "at", "kept", "singles", "reach", "order", "lots", "here", "part", "some", "place"] (defScope s__law_pair_right) _ [("at", 8)] from ⟨rfl, by decide +kernel, by decide +kernel, by decide +kernel, by decide +kernel⟩) (fun _ _ _ _ _ => (dg_name 8 sc__law_pair_right.nd)) (fun _ _ _ _ _ => dts_nil) (fun _ _ _ _ _ => (de_add (de_ix (de_var 2) (de_var 8)) (de_ix (de_var 6) (de_var 8)))) keep_name) da_nil)) (da_cons (de_callTy call_tuple_of sim_tuple T.z_tuple (show bootBuiltins "tuple" = some (.type "tuple") from rfl) (da_cons (de_lc (own := [("at", 8)]) rfl sc__law_pair_right.nd (di_range1 T.z_range (da_cons (de_callB call_lenA sim_len T.z_len (show bootBuiltins "len" = some (.builtin "len") from rfl) (da_cons (de_var 2) da_nil)) da_nil)) (show BlkOk ["heap", "kind", "one", "other", "due", "told", "step", "parts", "at", "kept", "singles", "reach", "order", "lots", "here", "part", "some", "place"] (defScope s__law_pair_right) _ [("at", 8)] from ⟨rfl, by decide +kernel, by decide +kernel, by decide +kernel, by decide +kernel⟩) (fun _ _ _ _ _ => (dg_name 8 sc__law_pair_right.nd)) (fun _ _ _ _ _ => dts_nil) (fun _ _ _ _ _ => (de_add (de_ix (de_var 3) (de_var 8)) (de_ix (de_var 6) (de_var 8)))) keep_name) da_nil)) da_nil)))) (de_var 4)) (dss_one (ds_ret de_bl)) dss_nil) (dss_cons (ds_asg (de_h h__law_lots (hr.mono (by decide)) gd (da_cons (de_var 0) (da_cons (de_callB call_lenA sim_len T.z_len (show bootBuiltins "len" = some (.builtin "len") from rfl) (da_cons (de_var 2) da_nil)) da_nil))) (dg_tup rfl (dgs_cons (dg_name 12 sc__law_pair_right.nd) (dgs_cons (dg_name 13 sc__law_pair_right.nd) dgs_nil)))) (dss_cons (ds_if (dt_cmp (op_neV hr) sim_neV (de_h h_distance (hr.mono (by decide)) gd (da_cons (de_var 1) (da_cons (de_callTy call_tuple_of sim_tuple T.z_tuple (show bootBuiltins "tuple" = some (.type "tuple") from rfl) (da_cons (de_lc (own := [("at", 8)]) rfl sc__law_pair_right.nd (di_seq (de_var 12)) (show BlkOk ["heap", "kind", "one", "other", "due", "told", "step", "parts", "at", "kept", "singles", "reach", "order", "lots", "here", "part", "some", "place"] (defScope s__law_pair_right) _ [("at", 8)] from ⟨rfl, by decide +kernel, by decide +kernel, by decide +kernel, by decide +kernel⟩) (fun _ _ _ _ _ => (dg_name 8 sc__law_pair_right.nd)) (fun _ _ _ _ _ => dts_nil) (fun _ _ _ _ _ => (de_ix (de_var 2) (de_var 8))) keep_name) da_nil)) (da_cons (de_callTy call_tuple_of sim_tuple T.z_tuple (show bootBuiltins "tuple" = some (.type "tuple") from rfl) (da_cons (de_lc (own := [("at", 8)]) rfl sc__law_pair_right.nd (di_seq (de_var 12)) (show BlkOk ["heap", "kind", "one", "other", "due", "told", "step", "parts", "at", "kept", "singles", "reach", "order", "lots", "here", "part", "some", "place"] (defScope s__law_pair_right) _ [("at", 8)] from ⟨rfl, by decide +kernel, by decide +kernel, by decide +kernel, by decide +kernel⟩) (fun _ _ _ _ _ => (dg_name 8 sc__law_pair_right.nd)) (fun _ _ _ _ _ => dts_nil) (fun _ _ _ _ _ => (de_ix (de_var 3) (de_var 8))) keep_name) da_nil)) da_nil)))) (de_var 4)) (dss_one (ds_ret de_bl)) dss_nil) (dss_cons (ds_setLc 7 (own := [("some", 16)]) rfl sc__law_pair_right.nd (di_seq (de_var 13)) (show BlkOk ["heap", "kind", "one", "other", "due", "told", "step", "parts", "at", "kept", "singles", "reach", "order", "lots", "here", "part", "some", "place"] (defScope s__law_pair_right) _ [("some", 16)] from ⟨rfl, by decide +kernel, by decide +kernel, by decide +kernel, by decide +kernel⟩) (fun _ _ _ _ _ => (dg_name 16 sc__law_pair_right.nd)) (fun _ _ _ _ _ => dts_nil) (fun _ _ _ _ _ => (de_h h_distance_at (hr.mono (by decide)) gd (da_cons (de_var 1) (da_cons (de_var 2) (da_cons (de_var 3) (da_cons (de_var 16) da_nil)))))) keep_name (by rfl)) (dss_cons (ds_for (passes_of rfl) rfl (di_range1 T.z_range (da_cons (de_callB call_lenA sim_len T.z_len (show bootBuiltins "len" = some (.builtin "len") from rfl) (da_cons (de_var 13) da_nil)) da_nil)) (dg_name 8 sc__law_pair_right.nd) (dss_cons (ds_set 14 sc__law_pair_right.nd (de_h h__law_distance (hr.mono (by decide)) gd (da_cons (de_var 1) (da_cons (de_lc (own := [("place", 17)]) rfl sc__law_pair_right.nd (di_seq (de_ix (de_var 13) (de_var 8))) (show BlkOk ["heap", "kind", "one", "other", "due", "told", "step", "parts", "at", "kept", "singles", "reach", "order", "lots", "here", "part", "some", "place"] (defScope s__law_pair_right) _ [("place", 17)] from ⟨rfl, by decide +kernel, by decide +kernel, by decide +kernel, by decide +kernel⟩) (fun _ _ _ _ _ => (dg_name 17 sc__law_pair_right.nd)) (fun _ _ _ _ _ => dts_nil) (fun _ _ _ _ _ => (de_ix (de_var 2) (de_var 17))) keep_name) (da_cons (de_lc (own := [("place", 17)]) rfl sc__law_pair_right.nd (di_seq (de_ix (de_var 13) (de_var 8))) (show BlkOk ["heap", "kind", "one", "other", "due", "told", "step", "parts", "at", "kept", "singles", "reach", "order", "lots", "here", "part", "some", "place"] (defScope s__law_pair_right) _ [("place", 17)] from ⟨rfl, by decide +kernel, by decide +kernel, by decide +kernel, by decide +kernel⟩) (fun _ _ _ _ _ => (dg_name 17 sc__law_pair_right.nd)) (fun _ _ _ _ _ => dts_nil) (fun _ _ _ _ _ => (de_ix (de_var 3) (de_var 17))) keep_name) da_nil))))) (dss_one (ds_if (DW.dt (dw_or (dt_cmp (op_neV hr) sim_neV (de_callB (call_repr_any hr gd) sim_repr T.z_repr (show bootBuiltins "repr" = some (.builtin "repr") from rfl) (da_cons (de_ix (de_var 7) (de_var 8)) da_nil)) (de_callB (call_repr_any hr gd) sim_repr T.z_repr (show bootBuiltins "repr" = some (.builtin "repr") from rfl) (da_cons (de_var 14) da_nil))) (dw_or (dt_cmp op_gt sim_gt (de_var 14) (de_var 4)) (dw_or1 (dt_cmp (op_neV hr) sim_neV (de_hk0 (ks := ["places", "other", "one", "kind"]) (idx := [3, 2, 1, 0]) h_distance_at (hr.mono (by decide)) gd (fun _ _ _ _ _ _ us ws h1 h2 => match us, ws, h1, h2 with | [], [_, _, _, _], _, _ => rfl) (dk_cons (de_ix (de_var 13) (de_var 8)) (dk_cons (de_var 3) (dk_cons (de_var 2) (dk_cons (de_var 1) dk_nil))))) (de_var 14)))))) (dss_one (ds_ret de_bl)) dss_nil)))) (dss_cons (ds_set 9 sc__law_pair_right.nd (de_slice (de_var 7) do_none do_none)) (dss_cons (ds_if (DW.dt (dw_or (dt_cmp (op_neV hr) sim_neV (de_callB (call_repr_any hr gd) sim_repr T.z_repr (show bootBuiltins "repr" = some (.builtin "repr") from rfl) (da_cons (de_h h_joined_parts (hr.mono (by decide)) gd (da_cons (de_var 1) (da_cons (de_var 7) da_nil))) da_nil)) (de_callB (call_repr_any hr gd) sim_repr T.z_repr (show bootBuiltins "repr" = some (.builtin "repr") from rfl) (da_cons (de_var 4) da_nil))) (dw_or (dt_cmp (op_neV hr) sim_neV (de_hk0 (ks := ["parts", "kind"]) (idx := [1, 0]) h_joined_parts (hr.mono (by decide)) gd (fun _ _ _ _ _ _ us ws h1 h2 => match us, ws, h1, h2 with | [], [_, _], _, _ => rfl) (dk_cons (de_callTy call_tuple_of sim_tuple T.z_tuple (show bootBuiltins "tuple" = some (.type "tuple") from rfl) (da_cons (de_var 7) da_nil)) (dk_cons (de_var 1) dk_nil))) (de_var 4)) (dw_or1 (dt_cmp (op_neV hr) sim_neV (de_var 7) (de_var 9)))))) (dss_one (ds_ret de_bl)) dss_nil) (dss_cons (ds_setLc 10 (own := [("at", 8)]) rfl sc__law_pair_right.nd (di_range1 T.z_range (da_cons (de_callB call_lenA sim_len T.z_len (show bootBuiltins "len" = some (.builtin "len") from rfl) (da_cons (de_var 2) da_nil)) da_nil)) (show BlkOk ["heap", "kind", "one", "other", "due", "told", "step", "parts", "at", "kept", "singles", "reach", "order", "lots", "here", "part", "some", "place"] (defScope s__law_pair_right) _ [("at", 8)] from ⟨rfl, by decide +kernel, by decide +kernel, by decide +kernel, by decide +kernel⟩) (fun _ _ _ _ _ => (dg_name 8 sc__law_pair_right.nd)) (fun _ _ _ _ _ => dts_nil) (fun _ _ _ _ _ => (de_h h_part_of (hr.mono (by decide)) gd (da_cons (de_var 1) (da_cons (de_sub (de_ix (de_var 2) (de_var 8)) (de_ix (de_var 3) (de_var 8))) da_nil)))) keep_name (by rfl)) (dss_cons (ds_if (DW.dt (dw_or (dt_cmp (op_neV hr) sim_neV (de_callB (call_repr_any hr gd) sim_repr T.z_repr (show bootBuiltins "repr" = some (.builtin "repr") from rfl) (da_cons (de_var 10) da_nil)) (de_callB (call_repr_any hr gd) sim_repr T.z_repr (show bootBuiltins "repr" = some (.builtin "repr") from rfl) (da_cons (de_lc (own := [("at", 8)]) rfl sc__law_pair_right.nd (di_range1 T.z_range (da_cons (de_callB call_lenA sim_len T.z_len (show bootBuiltins "len" = some (.builtin "len") from rfl) (da_cons (de_var 2) da_nil)) da_nil)) (show BlkOk ["heap", "kind", "one", "other", "due", "told", "step", "parts", "at", "kept", "singles", "reach", "order", "lots", "here", "part", "some", "place"] (defScope s__law_pair_right) _ [("at", 8)] from ⟨rfl, by decide +kernel, by decide +kernel, by decide +kernel, by decide +kernel⟩) (fun _ _ _ _ _ => (dg_name 8 sc__law_pair_right.nd)) (fun _ _ _ _ _ => dts_nil) (fun _ _ _ _ _ => (de_h h__law_part (hr.mono (by decide)) gd (da_cons (de_var 1) (da_cons (de_ix (de_var 2) (de_var 8)) (da_cons (de_ix (de_var 3) (de_var 8)) da_nil))))) keep_name) da_nil))) (dw_or1 (dt_cmp (op_neV hr) sim_neV (de_h h_joined_parts (hr.mono (by decide)) gd (da_cons (de_var 1) (da_cons (de_var 10) da_nil))) (de_var 4))))) (dss_one (ds_ret de_bl)) dss_nil) (dss_cons (ds_if (DW.dt (dw_or (dt_cmp (op_neV hr) sim_neV (de_hk0 (ks := ["difference", "kind"]) (idx := [1, 0]) h_part_of (hr.mono (by decide)) gd (fun _ _ _ _ _ _ us ws h1 h2 => match us, ws, h1, h2 with | [], [_, _], _, _ => rfl) (dk_cons (de_sub (de_ix (de_var 3) de_int) (de_ix (de_var 2) de_int)) (dk_cons (de_var 1) dk_nil))) (de_ix (de_var 10) de_int)) (dw_or1 (dt_cmp (op_neV hr) sim_neV (de_h h_joined_parts (hr.mono (by decide)) gd (da_cons (de_var 1) (da_cons (de_tup da_nil) da_nil))) de_int)))) (dss_one (ds_ret de_bl)) dss_nil) (dss_cons (ds_for (passes_of rfl) rfl (di_seq (de_lst (da_cons (de_var 4) (da_cons (de_sub (de_var 4) de_int) (da_cons (de_add (de_var 4) de_int) (da_cons (de_h h__law_draw (hr.mono (by decide)) gd (da_cons (de_var 0) (da_cons (de_add (de_mul de_int (de_var 4)) de_int) da_nil))) (da_cons (de_sub (de_neg de_int) (de_h h__law_draw (hr.mono (by decide)) gd (da_cons (de_var 0) (da_cons de_int da_nil)))) da_nil))))))) (dg_name 11 sc__law_pair_right.nd) (dss_one (ds_if (dt_cmp (op_neV hr) sim_neV (de_callB (call_repr_any hr gd) sim_repr T.z_repr (show bootBuiltins "repr" = some (.builtin "repr") from rfl) (da_cons (de_h h_is_within (hr.mono (by decide)) gd (da_cons (de_var 1) (da_cons (de_var 2) (da_cons (de_var 3) (da_cons (de_var 11) da_nil))))) da_nil)) (de_callB (call_repr_any hr gd) sim_repr T.z_repr (show bootBuiltins "repr" = some (.builtin "repr") from rfl) (da_cons (de_cmp op_le sim_le (de_var 4) (de_var 11)) da_nil))) (dss_one (ds_ret de_bl)) dss_nil))) (dss_one (ds_ret (de_cmp op_isBl sim_isB (de_hk0 (ks := ["reach", "other", "one", "kind"]) (idx := [3, 2, 1, 0]) h_is_within (hr.mono (by decide)) gd (fun _ _ _ _ _ _ us ws h1 h2 => match us, ws, h1, h2 with | [], [_, _, _, _], _, _ => rfl) (dk_cons (de_var 4) (dk_cons (de_var 3) (dk_cons (de_var 2) (dk_cons (de_var 1) dk_nil))))) de_bl)))))))))))))))))))⟩
theorem ok__law_pair_right {f : Addr} {fd : FuncData} (Fn : Fun K "_law_pair_right" "_law_pair_right" s__law_pair_right f fd) (T : Txt K mg aKINDS) (h_part_of : Has P w K mg base 1 "part_of" s_part_of ["kind", "difference"] F_part_of) (h_joined_parts : Has P w K mg base 1 "joined_parts" s_joined_parts ["kind", "parts"] F_joined_parts) (h_distance : Has P w K mg base 2 "distance" s_distance ["kind", "one", "other"] F_distance) (h_distance_at : Has P w K mg base 3 "distance_at" s_distance_at ["kind", "one", "other", "places"] F_distance_at) (h_is_within : Has P w K mg base 3 "is_within" s_is_within ["kind", "one", "other", "reach"] F_is_within) (h__law_draw : Has P w K mg base 1 "_law_draw" s__law_draw ["heap", "many"] F__law_draw) (h__law_part : Has P w K mg base 1 "_law_part" s__law_part ["kind", "one", "other"] F__law_part) (h__law_distance : Has P w K mg base 2 "_law_distance" s__law_distance ["kind", "one", "other"] F__law_distance) (h__law_lots : Has P w K mg base 3 "_law_lots" s__law_lots ["heap", "places"] F__law_lots) (len : ∀ ds M Q E, F__law_pair_right ds M Q E → ds.length = 4)
    (body : ∀ ds M Q R, F__law_pair_right ds M Q R → W__law_pair_right { nx := fun _ M' => Q .non M', rt := Q, xr := R } (startE 18 ds) M) : FnG P w K mg base 4 f fd ["heap", "kind", "one", "other"] (lift K F__law_pair_right) :=
  ok_fn Fn sc__law_pair_right len fun cdv A outer s H E gd hr => (dv__law_pair_right T h_part_of h_joined_parts h_distance h_distance_at h_is_within h__law_draw h__law_part h__law_distance h__law_lots cdv A outer s H E gd hr).elim fun t ht => ⟨t, _, ht, body⟩

theorem sc_law : FnScope ["script", "heap", "turn", "far", "places", "some", "kept", "kind", "one", "other"] ["script"] (defScope s_law) := ⟨rfl, rfl, rfl, by decide +kernel, rfl, by decide +kernel, by decide +kernel⟩
abbrev W_law : WS := (wSeq (wAsg (wCall F__law_heap (wCons (wVar 0) wNil)) (wgName 1)) (wSeq (wFor (wiRange1 (wCons (wOp addD (wC (.int 1)) (wCB fInt (wCons (wOp fGt (wCB fLen (wCons (wVar 0) wNil)) (wC (.int 2))) wNil))) wNil)) (wgName 2) (wSeq (wAsg (wCall F__law_pick (wCons (wVar 1) (wCons (wLst (wCons (wC (.int 2)) (wCons (wC (.int 3)) (wCons (wC (.int 1)) (wCons (wC (.int 4)) (wCons (wC (.int 8)) (wCons (wC (.int 5)) wNil))))))) wNil))) (wgName 4)) (wSeq (wAsg (wCall F__law_vectors (wCons (wVar 1) (wCons (wVar 4) (wCons (wC (.int 3)) wNil)))) (wgName 5)) (wSeq (wAsg (wCB fRepr (wCons (wVar 5) wNil)) (wgName 6)) (wSeq (wFor (wiSeq (wC c_KINDS)) (wgName 7) (wSeq (wPar 8 9 (wCons (wCall F__law_pick (wCons (wVar 1) (wCons (wVar 5) wNil))) (wCons (wCall F__law_pick (wCons (wVar 1) (wCons (wVar 5) wNil))) wNil))) (wIfS (wOr (wNot (wB (wCall F__law_pair_right (wCons (wVar 1) (wCons (wVar 7) (wCons (wVar 8) (wCons (wVar 9) wNil))))))) (wNot (wB (wCall F__law_pair_right (wCons (wVar 1) (wCons (wVar 7) (wCons (wOp ixD (wVar 5) (wC (.int 0))) (wCons (wOp ixD (wVar 5) (wC (.int 1))) wNil)))))))) (wRet (wC (.bl false))) wNext))) (wIfS (wB (wOp (eqV true) (wCB fRepr (wCons (wVar 5) wNil)) (wVar 6))) (wRet (wC (.bl false))) wNext)))))) (wSeq (wIfS (wB (wOp (eqV true) (wLc (wiSeq (wC c_KINDS)) (wgName 7) wYes (wCall F_distance (wCons (wVar 7) (wCons (wTup (wCons (wC (.int 3)) (wCons (wNeg (wC (.int 1))) (wCons (wC (.int 2)) wNil)))) (wCons (wTup (wCons (wC (.int 0)) (wCons (wC (.int 3)) (wCons (wC (.int 2)) wNil)))) wNil)))) [7]) (wLst (wCons (wC (.int 25)) (wCons (wC (.int 7)) (wCons (wC (.int 4)) (wCons (wC (.int 2)) wNil))))))) (wRet (wC (.bl false))) wNext) (wSeq (wAsg (wOp (fI CPow fun i j => .int (i ^ j.toNat)) (wC (.int 10)) (wC (.int 4))) (wgName 3)) (wSeq (wIfS (wB (wOp (eqV true) (wLc (wiSeq (wC c_KINDS)) (wgName 7) wYes (wCall F_distance (wCons (wVar 7) (wCons (wOp tmulD (wTup (wCons (wVar 3) wNil)) (wC (.int 8))) (wCons (wOp tmulD (wTup (wCons (wNeg (wVar 3)) wNil)) (wC (.int 8))) wNil)))) [7]) (wLst (wCons (wOp (fI CM fun i j => .int (i * j)) (wC (.int 32)) (wOp (fI CPow fun i j => .int (i ^ j.toNat)) (wC (.int 10)) (wC (.int 8)))) (wCons (wOp (fI CM fun i j => .int (i * j)) (wC (.int 16)) (wOp (fI CPow fun i j => .int (i ^ j.toNat)) (wC (.int 10)) (wC (.int 4)))) (wCons (wOp (fI CM fun i j => .int (i * j)) (wC (.int 2)) (wOp (fI CPow fun i j => .int (i ^ j.toNat)) (wC (.int 10)) (wC (.int 4)))) (wCons (wC (.int 8)) wNil))))))) (wRet (wC (.bl false))) wNext) (wRet (wAndV (wOp (eqV false) (wLc (wiSeq (wC c_KINDS)) (wgName 7) wYes (wCall F_distance_at (wCons (wVar 7) (wCons (wTup (wCons (wC (.int 1)) (wCons (wC (.int 5)) (wCons (wC (.int 9)) wNil)))) (wCons (wTup (wCons (wC (.int 4)) (wCons (wC (.int 5)) (wCons (wC (.int 1)) wNil)))) (wCons (wTup (wCons (wC (.int 2)) (wCons (wC (.int 0)) wNil))) wNil))))) [7]) (wLst (wCons (wC (.int 73)) (wCons (wC (.int 11)) (wCons (wC (.int 8)) (wCons (wC (.int 2)) wNil)))))) (wOp (eqV false) (wCall F_distance_at (wCons (wC (.str "sum")) (wCons (wTup (wCons (wC (.int 1)) (wCons (wC (.int 2)) wNil))) (wCons (wTup (wCons (wC (.int 3)) (wCons (wC (.int 4)) wNil))) (wCons (wTup wNil) wNil))))) (wC (.int 0))))))))))
theorem dv_law {f : Addr} (T : Txt K mg aKINDS) (h_distance : Has P w K mg base 2 "distance" s_distance ["kind", "one", "other"] F_distance) (h_distance_at : Has P w K mg base 3 "distance_at" s_distance_at ["kind", "one", "other", "places"] F_distance_at) (h__law_heap : Has P w K mg base 1 "_law_heap" s__law_heap ["script"] F__law_heap) (h__law_pick : Has P w K mg base 2 "_law_pick" s__law_pick ["heap", "some"] F__law_pick) (h__law_vectors : Has P w K mg base 3 "_law_vectors" s__law_vectors ["heap", "places", "many"] F__law_vectors) (h__law_pair_right : Has P w K mg base 4 "_law_pair_right" s__law_pair_right ["heap", "kind", "one", "other"] F__law_pair_right) (cdv : Value) (A : Around) (outer : List Env) (s : Shared) (H : Hp) (E : XK) (gd : A.guards = some []) (hr : Room 4 (A.deeper (envOfC "law" (defScope s_law) s.heap.objs.size f cdv))) :
    ∃ t, DSs (cxOf (L2.CX P w) P w K mg base ["script", "heap", "turn", "far", "places", "some", "kept", "kind", "one", "other"] "law" (defScope s_law) f cdv A outer s H E) E (defBody s_law) t W_law := ⟨_, (dss_cons (ds_set 1 sc_law.nd (de_h h__law_heap (hr.mono (by decide)) gd (da_cons (de_var 0) da_nil))) (dss_cons (ds_for (passes_of rfl) rfl (di_range1 T.z_range (da_cons (de_add de_int (de_callTy call_int1 sim_int T.z_int (show bootBuiltins "int" = some (.type "int") from rfl) (da_cons (de_cmp op_gt sim_gt (de_callB call_lenA sim_len T.z_len (show bootBuiltins "len" = some (.builtin "len") from rfl) (da_cons (de_var 0) da_nil)) de_int) da_nil))) da_nil)) (dg_name 2 sc_law.nd) (dss_cons (ds_set 4 sc_law.nd (de_h h__law_pick (hr.mono (by decide)) gd (da_cons (de_var 1) (da_cons (de_lst (da_cons de_int (da_cons de_int (da_cons de_int (da_cons de_int (da_cons de_int (da_cons de_int da_nil))))))) da_nil)))) (dss_cons (ds_set 5 sc_law.nd (de_h h__law_vectors (hr.mono (by decide)) gd (da_cons (de_var 1) (da_cons (de_var 4) (da_cons de_int da_nil))))) (dss_cons (ds_set 6 sc_law.nd (de_callB (call_repr_any hr gd) sim_repr T.z_repr (show bootBuiltins "repr" = some (.builtin "repr") from rfl) (da_cons (de_var 5) da_nil))) (dss_cons (ds_for (passes_of rfl) rfl (di_seq (de_glob (v := .ref aKINDS) (by rfl) T.m_KINDS rfl T.r_KINDS)) (dg_name 7 sc_law.nd) (dss_cons (ds_par 8 9 rfl sc_law.nd (da_cons (de_h h__law_pick (hr.mono (by decide)) gd (da_cons (de_var 1) (da_cons (de_var 5) da_nil))) (da_cons (de_h h__law_pick (hr.mono (by decide)) gd (da_cons (de_var 1) (da_cons (de_var 5) da_nil))) da_nil))) (dss_one (ds_if (DW.dt (dw_or (dt_not (dt_val (de_h h__law_pair_right (hr.mono (by decide)) gd (da_cons (de_var 1) (da_cons (de_var 7) (da_cons (de_var 8) (da_cons (de_var 9) da_nil))))))) (dw_or1 (dt_not (dt_val (de_h h__law_pair_right (hr.mono (by decide)) gd (da_cons (de_var 1) (da_cons (de_var 7) (da_cons (de_ix (de_var 5) de_int) (da_cons (de_ix (de_var 5) de_int) da_nil)))))))))) (dss_one (ds_ret de_bl)) dss_nil)))) (dss_one (ds_if (dt_cmp (op_neV hr) sim_neV (de_callB (call_repr_any hr gd) sim_repr T.z_repr (show bootBuiltins "repr" = some (.builtin "repr") from rfl) (da_cons (de_var 5) da_nil)) (de_var 6)) (dss_one (ds_ret de_bl)) dss_nil))))))) (dss_cons (ds_if (dt_cmp (op_neV hr) sim_neV (de_lc (own := [("kind", 7)]) rfl sc_law.nd (di_seq (de_glob (v := .ref aKINDS) (by rfl) T.m_KINDS rfl T.r_KINDS)) (show BlkOk ["script", "heap", "turn", "far", "places", "some", "kept", "kind", "one", "other"] (defScope s_law) _ [("kind", 7)] from ⟨rfl, by decide +kernel, by decide +kernel, by decide +kernel, by decide +kernel⟩) (fun _ _ _ _ _ => (dg_name 7 sc_law.nd)) (fun _ _ _ _ _ => dts_nil) (fun _ _ _ _ _ => (de_h h_distance (hr.mono (by decide)) gd (da_cons (de_var 7) (da_cons (de_tup (da_cons de_int (da_cons (de_neg de_int) (da_cons de_int da_nil)))) (da_cons (de_tup (da_cons de_int (da_cons de_int (da_cons de_int da_nil)))) da_nil))))) keep_name) (de_lst (da_cons de_int (da_cons de_int (da_cons de_int (da_cons de_int da_nil)))))) (dss_one (ds_ret de_bl)) dss_nil) (dss_cons (ds_set 3 sc_law.nd (de_pow de_int de_int)) (dss_cons (ds_if (dt_cmp (op_neV hr) sim_neV (de_lc (own := [("kind", 7)]) rfl sc_law.nd (di_seq (de_glob (v := .ref aKINDS) (by rfl) T.m_KINDS rfl T.r_KINDS)) (show BlkOk ["script", "heap", "turn", "far", "places", "some", "kept", "kind", "one", "other"] (defScope s_law) _ [("kind", 7)] from ⟨rfl, by decide +kernel, by decide +kernel, by decide +kernel, by decide +kernel⟩) (fun _ _ _ _ _ => (dg_name 7 sc_law.nd)) (fun _ _ _ _ _ => dts_nil) (fun _ _ _ _ _ => (de_h h_distance (hr.mono (by decide)) gd (da_cons (de_var 7) (da_cons (de_tmul (de_tup (da_cons (de_var 3) da_nil)) de_int) (da_cons (de_tmul (de_tup (da_cons (de_neg (de_var 3)) da_nil)) de_int) da_nil))))) keep_name) (de_lst (da_cons (de_mul de_int (de_pow de_int de_int)) (da_cons (de_mul de_int (de_pow de_int de_int)) (da_cons (de_mul de_int (de_pow de_int de_int)) (da_cons de_int da_nil)))))) (dss_one (ds_ret de_bl)) dss_nil) (dss_one (ds_ret (de_and (de_cmp (op_eqV hr) sim_eqV (de_lc (own := [("kind", 7)]) rfl sc_law.nd (di_seq (de_glob (v := .ref aKINDS) (by rfl) T.m_KINDS rfl T.r_KINDS)) (show BlkOk ["script", "heap", "turn", "far", "places", "some", "kept", "kind", "one", "other"] (defScope s_law) _ [("kind", 7)] from ⟨rfl, by decide +kernel, by decide +kernel, by decide +kernel, by decide +kernel⟩) (fun _ _ _ _ _ => (dg_name 7 sc_law.nd)) (fun _ _ _ _ _ => dts_nil) (fun _ _ _ _ _ => (de_h h_distance_at (hr.mono (by decide)) gd (da_cons (de_var 7) (da_cons (de_tup (da_cons de_int (da_cons de_int (da_cons de_int da_nil)))) (da_cons (de_tup (da_cons de_int (da_cons de_int (da_cons de_int da_nil)))) (da_cons (de_tup (da_cons de_int (da_cons de_int da_nil))) da_nil)))))) keep_name) (de_lst (da_cons de_int (da_cons de_int (da_cons de_int (da_cons de_int da_nil)))))) (de_one (de_cmp (op_eqV hr) sim_eqV (de_h h_distance_at (hr.mono (by decide)) gd (da_cons de_str (da_cons (de_tup (da_cons de_int (da_cons de_int da_nil))) (da_cons (de_tup (da_cons de_int (da_cons de_int da_nil))) (da_cons (de_tup da_nil) da_nil))))) de_int))))))))))⟩
theorem ok_law {f : Addr} {fd : FuncData} (Fn : Fun K "law" "law" s_law f fd) (T : Txt K mg aKINDS) (h_distance : Has P w K mg base 2 "distance" s_distance ["kind", "one", "other"] F_distance) (h_distance_at : Has P w K mg base 3 "distance_at" s_distance_at ["kind", "one", "other", "places"] F_distance_at) (h__law_heap : Has P w K mg base 1 "_law_heap" s__law_heap ["script"] F__law_heap) (h__law_pick : Has P w K mg base 2 "_law_pick" s__law_pick ["heap", "some"] F__law_pick) (h__law_vectors : Has P w K mg base 3 "_law_vectors" s__law_vectors ["heap", "places", "many"] F__law_vectors) (h__law_pair_right : Has P w K mg base 4 "_law_pair_right" s__law_pair_right ["heap", "kind", "one", "other"] F__law_pair_right) (len : ∀ ds M Q E, F_law ds M Q E → ds.length = 1)
    (body : ∀ ds M Q R, F_law ds M Q R → W_law { nx := fun _ M' => Q .non M', rt := Q, xr := R } (startE 10 ds) M) : FnG P w K mg base 5 f fd ["script"] (lift K F_law) :=
  ok_fn Fn sc_law len fun cdv A outer s H E gd hr => (dv_law T h_distance h_distance_at h__law_heap h__law_pick h__law_vectors h__law_pair_right cdv A outer s H E gd hr).elim fun t ht => ⟨t, _, ht, body⟩
theorem ok__law_draw {f : Addr} {fd : FuncData} (Fn : Fun K "_law_draw" "_law_draw" s__law_draw f fd) (T : Txt K mg aKINDS) : FnG P w K mg base 1 f fd ["heap", "many"] (lift K drawF) := by
  refine fn_g Fn sc__law_draw (fun vs H Q E h => ?_) (fun cdv A outer s H vs Q E gd hr h => ?_)
  · obtain ⟨Z, ds, M, Qd, Rd, _, r, ⟨a, a0, n, rfl, _⟩, _⟩ := h
    exact r.len
  · obtain ⟨Z, ds, M, Qd, Rd, sat, r, ⟨a, a0, n, rfl, hm, hn, hn2, q⟩, kq, _⟩ := h
    cases r with
    | cons r1 r2 =>
    cases r2 with
    | cons r2 r3 =>
    cases r3
    cases r1
    cases r2
    obtain ⟨m0, cs, st, ea, e0, s0, s1, cl, cn⟩ := sat.cell a _ hm
    have d0 : Dr H a a0 cs st H := ⟨fun _ _ _ _ e => e, ea, e0, s0, s1, cl, cn⟩
    have fin : ∀ (H' : Hp) (cs' : List Int) (st' k : Int), Dr H a a0 cs' st' H' → 0 ≤ k → k < n → Q (.int k) H' := fun H' cs' st' k d h1 h2 => kq _ _ H' M (Go.drawn sat hm d.keep d.ok) (.int k) (q k h1 h2)
    have last : ∀ cs' : List Int, cs' ≠ [] → ∃ cs0 c, cs' = cs0 ++ [c] := fun cs' h => ⟨_, _, (List.dropLast_concat_getLast h).symm⟩
    have tail : ∃ t2, PSs (cxOf (L2.CX P w) P w K mg base ["heap", "many", "rest"] "_law_draw" (defScope s__law_draw) f cdv A outer s H E) (defBody s__law_draw).tail t2 ∧
        ∀ (H2 : Hp) (cs' : List Int), Dr H a a0 cs' st H2 → t2 { nx := fun _ J => Q .non J, rt := Q } [some (.ref a), some (.int n), none] H2 := by
      refine ⟨_, pss_cons (ps_if (dt_cmp (op_neG hr) sim_ne (de_ix (de_var 0) de_int) (de_lst da_nil)).pe
            (pss_cons (ps_set (i := 2) sc__law_draw.nd rfl (Or.inl rfl) (pe_bm0 PySem.F.plainAttrs_list PySem.F.slot_list_pop PySem.F.type_list_pop mt_pop (de_ix (de_var 0) de_int).pe))
              (pss_cons (ps_expr (pe_bm PySem.F.plainAttrs_list PySem.F.slot_list_append PySem.F.type_list_append mt_append (de_ix (de_var 0) de_int).pe (da_cons (de_fdiv (de_var 2) (de_var 1)) da_nil).pe))
                (pss_one (ps_ret (de_mod (de_callTy call_int1 sim_int T.z_int (by rfl) (da_cons (de_var 2) da_nil)) (de_var 1)).pe)))) pss_nil)
          (pss_cons (ds_asg (E := E) (de_mod (de_callTy call_int1 sim_int T.z_int (by rfl) (da_cons (de_add (de_mul (de_ix (de_var 0) de_int) de_int) de_int) da_nil)) de_int) (dg_sub (de_var 0) de_int)).pe
            (pss_one (ps_ret (de_mod (de_callTy call_int1 sim_int T.z_int (by rfl) (da_cons (de_fdiv (de_ix (de_var 0) de_int) de_int) da_nil)) (de_var 1)).pe))), fun H2 cs' d2 => ?_⟩
      refine ⟨_, rfl, ix_l d2.ha rfl ⟨Nat.zero_le _, fun p hp => ?_⟩⟩
      have d3 := d2.new (o := .lst []) hp
      refine ne_nil d3.h0 upd_same ⟨_, rfl, ?_⟩
      refine ite2 (fun hc => ?_) (fun hc => ?_)
      · obtain ⟨cs0, c, rfl⟩ := last cs' (of_decide_eq_true hc)
        have c0 : 0 ≤ c := d3.pos c (List.mem_append_right _ (List.mem_singleton.mpr rfl))
        have d4 := d3.put (cs' := cs0) (by have z := d3.len; rw [List.length_append] at z; omega) (fun x hx => d3.pos x (List.mem_append_left _ hx))
        have l4 : cs0.length < 100 := by
          have z := d3.len
          rw [List.length_append, List.length_singleton] at z
          omega
        refine ⟨_, rfl, ix_l d3.ha rfl ⟨.inl ⟨rfl, _, SqL.of d3.h0⟩, pop_last d3.h0 ?_⟩⟩
        refine ⟨_, rfl, ix_l d4.ha rfl ⟨.inl ⟨rfl, _, SqL.of d4.h0⟩, _, rfl, _, rfl, _, _, rfl, rfl, ⟨hn, hn2⟩, a0, _, _, rfl, rfl, d4.h0, by rw [List.length_map]; exact Nat.lt_of_lt_of_le l4 (by decide), ?_⟩⟩
        have d5 := d4.put (cs' := cs0 ++ [c / n]) (by rw [List.length_append, List.length_singleton]; omega) (fun x hx => by
          rcases List.mem_append.mp hx with z | z
          · exact d4.pos x z
          · rw [List.mem_singleton.mp z]
            exact Int.ediv_nonneg c0 (by omega))
        rw [List.map_append] at d5
        refine ⟨_, rfl, .inl ⟨_, rfl, _, rfl, _, _, rfl, rfl, hn, ?_⟩⟩
        exact fin _ _ _ _ d5 (Int.emod_nonneg _ (by omega)) (Int.emod_lt_of_pos _ hn)
      · refine ⟨_, rfl, ix_l d3.ha rfl ⟨_, _, rfl, rfl, .inl (.inr ⟨by decide, by decide⟩), .inl ⟨_, _, rfl, rfl, .inl ⟨_, rfl, _, _, rfl, rfl, (by show (0 : Int) < 2147483647; decide), _, rfl, a, _, _, _, rfl, rfl, d3.ha, rfl, ?_⟩⟩⟩⟩
        have d5 := d3.stir (s' := (st * 48271 + 13) % 2147483647) (Int.emod_nonneg _ (by decide)) (Int.lt_trans (Int.emod_lt_of_pos _ (by decide)) (by decide))
        exact ⟨_, rfl, ix_l d5.ha rfl ⟨_, _, rfl, rfl, ⟨(by decide), (by decide)⟩, .inl ⟨_, rfl, _, rfl, _, _, rfl, rfl, hn, fin _ _ _ _ d5 (Int.emod_nonneg _ (by omega)) (Int.emod_lt_of_pos _ hn)⟩⟩⟩
    obtain ⟨t2, ht2, out⟩ := tail
    refine ⟨_, pss_cons (ps_while (passes_of rfl) (DW.dt (dw_and (dt_cmp (op_neG hr) sim_ne (de_ix (de_var 0) de_int) (de_lst da_nil)) (dw_and1 (dt_cmp (op_eqG hr) sim_eq (de_ix (de_ix (de_var 0) de_int) (de_neg de_int)) de_int)))).pe
        (pss_one (ps_expr (pe_bm0 PySem.F.plainAttrs_list PySem.F.slot_list_pop PySem.F.type_list_pop mt_pop (de_ix (de_var 0) de_int).pe)))) ht2, ?_⟩
    refine ⟨fun m σ' H' => σ' = [some (.ref a), some (.int n), none] ∧ ∃ cs' : List Int, Dr H a a0 cs' st H' ∧ m = cs'.length, ⟨_, rfl, cs, d0, rfl⟩, ?_⟩
    rintro m σ' H' ⟨rfl, cs', d, rfl⟩
    refine ⟨_, rfl, ix_l d.ha rfl ⟨Nat.zero_le _, fun p hp => ?_⟩⟩
    have d1 := d.new (o := .lst []) hp
    refine ne_nil d1.h0 upd_same ⟨_, rfl, ?_⟩
    refine ite2 (fun hc => ?_) (fun hc => ?_)
    · obtain ⟨cs0, c, rfl⟩ := last cs' (of_decide_eq_true hc)
      refine ⟨_, rfl, ix_l d1.ha rfl ⟨_, rfl, ix_l d1.h0 at_last ?_⟩⟩
      unfold tC
      refine eq_int ⟨_, rfl, ?_⟩
      refine ite2 (fun h0 => ?_) (fun h0 => ?_)
      · have dp := d1.put (cs' := cs0) (by have z := d1.len; rw [List.length_append] at z; omega) (fun x hx => d1.pos x (List.mem_append_left _ hx))
        refine ⟨fun σ2 H2 => σ2 = [some (.ref a), some (.int n), none] ∧ Dr H a a0 cs0 st H2, fun σ2 H2 ⟨e, d2⟩ => ⟨cs0.length, by rw [List.length_append, List.length_singleton]; omega, e, cs0, d2, rfl⟩, ?_⟩
        exact ⟨_, rfl, ix_l d1.ha rfl ⟨.inl ⟨rfl, _, SqL.of d1.h0⟩, pop_last d1.h0 ⟨rfl, dp⟩⟩⟩
      · exact out _ _ d1
    · exact out _ _ d1
end
end K03
namespace K03
open PySem L2 L3
theorem wp_part_of : ∀ ds M Q R, F_part_of ds M Q R → W_part_of { nx := fun _ M' => Q .non M', rt := Q, xr := R } (startE 2 ds) M := by
  rintro ds M Q R ⟨k, d, rfl, d0, d1, q⟩
  have c : CM d d := cm_of (by omega) (by omega)
  unfold W_part_of
  simp (disch := first | assumption | decide) only [wSeq, wNext, wAsg, wgName, wIfS, wB, wOp, wVar, wC, wCall, wCallK, wCons, wNil, wRet, wRetN, wDrop, wTup, wLst, wIf, wAnd, wOr, wNot, wAndV, wOrV, wNotV, wNeg, wChain, fI, fI0, addD, fLt, fLe, fGt, fGe, fIsB, wCB, fAbs, f2I, fInt, fIsq, wPar, wPar3, permD, startE, List.map_cons, List.map_nil, List.cons_append, List.nil_append, List.append_nil, List.length_cons, List.length_nil, List.replicate, List.getElem?_cons_zero, List.getElem?_cons_succ, List.set_cons_zero, List.set_cons_succ, List.getD_cons_zero, List.getD_cons_succ, Nat.reduceAdd, Nat.reduceSub, Nat.zero_add, true_and, and_true, Bool.not_true, Bool.not_false, if_true, if_false, Bool.false_eq_true, reduceIte, decide_eq_true_eq, Bool.not_eq_true', decide_eq_false_iff_not, eqV_int, eqV_str, eqV_bl, decide_true, reduceCtorEq, not_true_eq_false, not_false_eq_true, Bool.not_eq_true, List.not_mem_nil, false_implies, implies_true, Int.reduceNeg, Int.reduceToNat, Int.reducePow, Int.reduceMul, Int.reduceAdd, draw_i]
  unfold partI at q
  split
  · rename_i h
    rw [if_pos h] at q
    exact ⟨c, q⟩
  · rename_i h
    rw [if_neg h] at q
    split
    · rename_i h2
      rw [if_pos h2] at q
      split
      · rename_i h3
        rw [if_pos h3] at q
        exact q
      · rename_i h3
        rw [if_neg h3] at q
        exact q
    · rename_i h2
      rw [if_neg h2] at q
      exact q
theorem mem_zw {v u : List Int} : ∀ {c : Int}, c ∈ subI v u → ∃ a ∈ v, ∃ b ∈ u, c = a - b := by
  unfold subI
  induction v generalizing u with
  | nil => intro c h; simp at h
  | cons a v ih =>
    intro c h
    cases u with
    | nil => simp at h
    | cons b u =>
      rw [List.zipWith_cons_cons] at h
      rcases List.mem_cons.mp h with rfl | h
      · exact ⟨a, List.mem_cons_self, b, List.mem_cons_self, rfl⟩
      · obtain ⟨a', ha, b', hb, e⟩ := ih h
        exact ⟨a', List.mem_cons_of_mem _ ha, b', List.mem_cons_of_mem _ hb, e⟩
theorem part_bound (k : Str) {d : Int} (h1 : -2000000 ≤ d) (h2 : d ≤ 2000000) : 0 ≤ partI k d ∧ partI k d ≤ 4000000000000 := by
  unfold partI
  split
  · constructor
    · rcases Int.le_total 0 d with z | z
      · exact Int.mul_nonneg z z
      · exact Int.mul_nonneg_of_nonpos_of_nonpos z z
    · rcases Int.le_total 0 d with z | z
      · have := Int.mul_le_mul h2 h2 z (by decide)
        omega
      · have := Int.mul_le_mul (a := -d) (b := -d) (c := 2000000) (d := 2000000) (by omega) (by omega) (by omega) (by decide)
        have e : -d * -d = d * d := by grind
        omega
  · split
    · split <;> omega
    · split <;> omega
theorem part_neg (k : Str) (d : Int) : partI k (-d) = partI k d := by
  unfold partI
  split
  · grind
  · split
    · split <;> split <;> omega
    · split <;> split <;> omega
theorem sub_len {v u : List Int} (hv : v.length ≤ 64) : (subI v u).length ≤ 64 := by
  unfold subI
  rw [List.length_zipWith]
  omega
theorem small_parts {k : Str} {v u : List Int} (hv : sm v) (hu : sm u) : small ((subI v u).map (partI k)) := by
  refine ⟨by rw [List.length_map]; exact sub_len hv.1, fun n hn => ?_⟩
  obtain ⟨c, hc, rfl⟩ := List.mem_map.mp hn
  obtain ⟨a, ha, b, hb, rfl⟩ := mem_zw hc
  have h1 := hv.2 a ha
  have h2 := hu.2 b hb
  have := part_bound k (d := a - b) (by omega) (by omega)
  omega
theorem wp__law_part : ∀ ds M Q R, F__law_part ds M Q R → W__law_part { nx := fun _ M' => Q .non M', rt := Q, xr := R } (startE 4 ds) M := by
  rintro ds M Q R ⟨k, a, b, rfl, a0, a1, b0, b1, q⟩
  unfold W__law_part
  refine seq_gen fun K hK => ?_
  simp (disch := first | assumption | decide) only [wSeq, wNext, wAsg, wgName, wIfS, wB, wOp, wVar, wC, wCall, wCallK, wCons, wNil, wRet, wRetN, wDrop, wTup, wLst, wIf, wAnd, wOr, wNot, wAndV, wOrV, wNotV, wNeg, wChain, fI, fI0, addD, fLt, fLe, fGt, fGe, fIsB, wCB, fAbs, f2I, fInt, fIsq, wPar, wPar3, permD, startE, List.map_cons, List.map_nil, List.cons_append, List.nil_append, List.append_nil, List.length_cons, List.length_nil, List.replicate, List.getElem?_cons_zero, List.getElem?_cons_succ, List.set_cons_zero, List.set_cons_succ, List.getD_cons_zero, List.getD_cons_succ, Nat.reduceAdd, Nat.reduceSub, Nat.zero_add, true_and, and_true, Bool.not_true, Bool.not_false, if_true, if_false, Bool.false_eq_true, reduceIte, decide_eq_true_eq, Bool.not_eq_true', decide_eq_false_iff_not, eqV_int, eqV_str, eqV_bl, decide_true, reduceCtorEq, not_true_eq_false, not_false_eq_true, Bool.not_eq_true, List.not_mem_nil, false_implies, implies_true, Int.reduceNeg, Int.reduceToNat, Int.reducePow, Int.reduceMul, Int.reduceAdd, draw_i]
  have main : ∀ z : Int, 0 ≤ z → z ≤ 4000000 → (z = a - b ∨ z = b - a) → K [some (D.str k), some (D.int a), some (D.int b), some (D.int z)] M := fun z z0 z1 zor => by
    have ep : partI k z = partI k (a - b) := by
      rcases zor with h | h
      · rw [h]
      · have e : b - a = -(a - b) := by omega
        rw [h, e, part_neg]
    rw [← ep] at q
    have c : CM z z := cm_of (by omega) (by omega)
    subst hK
    simp (disch := first | assumption | decide) only [wSeq, wNext, wAsg, wgName, wIfS, wB, wOp, wVar, wC, wCall, wCallK, wCons, wNil, wRet, wRetN, wDrop, wTup, wLst, wIf, wAnd, wOr, wNot, wAndV, wOrV, wNotV, wNeg, wChain, fI, fI0, addD, fLt, fLe, fGt, fGe, fIsB, wCB, fAbs, f2I, fInt, fIsq, wPar, wPar3, permD, startE, List.map_cons, List.map_nil, List.cons_append, List.nil_append, List.append_nil, List.length_cons, List.length_nil, List.replicate, List.getElem?_cons_zero, List.getElem?_cons_succ, List.set_cons_zero, List.set_cons_succ, List.getD_cons_zero, List.getD_cons_succ, Nat.reduceAdd, Nat.reduceSub, Nat.zero_add, true_and, and_true, Bool.not_true, Bool.not_false, if_true, if_false, Bool.false_eq_true, reduceIte, decide_eq_true_eq, Bool.not_eq_true', decide_eq_false_iff_not, eqV_int, eqV_str, eqV_bl, decide_true, reduceCtorEq, not_true_eq_false, not_false_eq_true, Bool.not_eq_true, List.not_mem_nil, false_implies, implies_true, Int.reduceNeg, Int.reduceToNat, Int.reducePow, Int.reduceMul, Int.reduceAdd, draw_i]
    unfold partI at q
    split
    · rename_i h
      rw [if_pos h] at q
      exact ⟨c, q⟩
    · rename_i h
      rw [if_neg h] at q
      split
      · rename_i h2
        rw [if_pos h2] at q
        by_cases h3 : z = 0
        · subst h3
          rw [if_pos rfl] at q
          rw [if_neg (by omega)]
          exact q
        · rw [if_neg h3] at q
          rw [if_pos (by omega)]
          exact q
      · rename_i h2
        rw [if_neg h2, if_neg (by omega)] at q
        exact q
  split
  · exact main _ (by omega) (by omega) (.inl rfl)
  · exact main _ (by omega) (by omega) (.inr rfl)
theorem wp_joined_parts : ∀ ds M Q R, F_joined_parts ds M Q R → W_joined_parts { nx := fun _ M' => Q .non M', rt := Q, xr := R } (startE 2 ds) M := by
  rintro ds M Q R ⟨k, d, ns, rfl, hs, hn, q⟩
  unfold W_joined_parts
  simp (disch := first | assumption | decide) only [wSeq, wNext, wAsg, wgName, wIfS, wB, wOp, wVar, wC, wCall, wCallK, wCons, wNil, wRet, wRetN, wDrop, wTup, wLst, wIf, wAnd, wOr, wNot, wAndV, wOrV, wNotV, wNeg, wChain, fI, fI0, addD, fLt, fLe, fGt, fGe, fIsB, wCB, fAbs, f2I, fInt, fIsq, wPar, wPar3, permD, startE, List.map_cons, List.map_nil, List.cons_append, List.nil_append, List.append_nil, List.length_cons, List.length_nil, List.replicate, List.getElem?_cons_zero, List.getElem?_cons_succ, List.set_cons_zero, List.set_cons_succ, List.getD_cons_zero, List.getD_cons_succ, Nat.reduceAdd, Nat.reduceSub, Nat.zero_add, true_and, and_true, Bool.not_true, Bool.not_false, if_true, if_false, Bool.false_eq_true, reduceIte, decide_eq_true_eq, Bool.not_eq_true', decide_eq_false_iff_not, eqV_int, eqV_str, eqV_bl, decide_true, reduceCtorEq, not_true_eq_false, not_false_eq_true, Bool.not_eq_true, List.not_mem_nil, false_implies, implies_true, Int.reduceNeg, Int.reduceToNat, Int.reducePow, Int.reduceMul, Int.reduceAdd, draw_i, wKw, fMaxDf, fSumA]
  unfold joinI at q
  split
  · rename_i h
    rw [if_pos h] at q
    refine ⟨ns, hs, fun e => ?_, fun m h1 h2 => ?_⟩
    · subst e
      exact q
    · rw [← mxI_is (fun n hh => (hn.2 n hh).1) h1 h2]
      exact q
  · rename_i h
    rw [if_neg h] at q
    refine ⟨ns, hs, fun j hj => ?_, q⟩
    have b1 := hn.2 (ns.getD j 0) (by rw [List.getD_eq_getElem?_getD, List.getElem?_eq_getElem hj]; exact List.getElem_mem hj)
    have b2 := sum_bound (B := 100000000000000) (by decide) (ns := ns.take (j + 1)) fun n hh => hn.2 n (List.mem_of_mem_take hh)
    have b3 : (ns.take (j + 1)).length ≤ 64 := by
      rw [List.length_take]
      have := hn.1
      omega
    exact ⟨⟨by omega, by omega⟩, ⟨by omega, by omega⟩⟩
def fSub : D → D := fun d => match d with
  | .tup [.int a, .int b] => .int (a - b)
  | _ => .non
theorem zip_sub (v u : List Int) : (zipD (v.map .int) (u.map .int)).map fSub = (subI v u).map D.int := by
  unfold zipD subI
  induction v generalizing u with
  | nil => rfl
  | cons a v ih =>
    cases u with
    | nil => rfl
    | cons b u =>
      rw [List.map_cons, List.map_cons, List.zipWith_cons_cons, List.zipWith_cons_cons, List.map_cons, List.map_cons, ih]
      rfl
theorem zip_mem {v u : List Int} {d : D} (h : d ∈ zipD (v.map .int) (u.map .int)) : ∃ a b : Int, d = .tup [.int a, .int b] := by
  obtain ⟨i, hi⟩ := List.mem_iff_getElem?.mp h
  obtain ⟨x, y, e1, e2, rfl⟩ := zip_get hi
  have i1 := List.mem_of_getElem? e1
  have i2 := List.mem_of_getElem? e2
  obtain ⟨a, _, rfl⟩ := List.mem_map.mp i1
  obtain ⟨b, _, rfl⟩ := List.mem_map.mp i2
  exact ⟨a, b, rfl⟩
theorem zip_len {xs ys : List D} : (zipD xs ys).length ≤ xs.length := by
  unfold zipD
  rw [List.length_zipWith]
  omega
theorem wp_differences : ∀ ds M Q R, F_differences ds M Q R → W_differences { nx := fun _ M' => Q .non M', rt := Q, xr := R } (startE 4 ds) M := by
  rintro ds M Q R ⟨v, u, rfl, hv, hu, q⟩
  unfold W_differences
  simp (disch := first | assumption | decide) only [wSeq, wNext, wAsg, wgName, wIfS, wB, wOp, wVar, wC, wCall, wCallK, wCons, wNil, wRet, wRetN, wDrop, wTup, wLst, wIf, wAnd, wOr, wNot, wAndV, wOrV, wNotV, wNeg, wChain, fI, fI0, addD, fLt, fLe, fGt, fGe, fIsB, wCB, fAbs, f2I, fInt, fIsq, wPar, wPar3, permD, startE, List.map_cons, List.map_nil, List.cons_append, List.nil_append, List.append_nil, List.length_cons, List.length_nil, List.replicate, List.getElem?_cons_zero, List.getElem?_cons_succ, List.set_cons_zero, List.set_cons_succ, List.getD_cons_zero, List.getD_cons_succ, Nat.reduceAdd, Nat.reduceSub, Nat.zero_add, true_and, and_true, Bool.not_true, Bool.not_false, if_true, if_false, Bool.false_eq_true, reduceIte, decide_eq_true_eq, Bool.not_eq_true', decide_eq_false_iff_not, eqV_int, eqV_str, eqV_bl, decide_true, reduceCtorEq, not_true_eq_false, not_false_eq_true, Bool.not_eq_true, List.not_mem_nil, false_implies, implies_true, Int.reduceNeg, Int.reduceToNat, Int.reducePow, Int.reduceMul, Int.reduceAdd, draw_i, wLc, wiZip, wipeE, vec, fTuple]
  refine lc_pure fSub True.intro _ [] ?_ (fun d hd K hK => ?_) ?_
  · have := zip_len (xs := v.map D.int) (ys := u.map D.int)
    rw [List.length_map] at this
    have := hv.1
    simp only [List.length_nil]
    omega
  · obtain ⟨a, b, rfl⟩ := zip_mem hd
    simp (disch := first | assumption | decide) only [wSeq, wNext, wAsg, wgName, wIfS, wB, wOp, wVar, wC, wCall, wCallK, wCons, wNil, wRet, wRetN, wDrop, wTup, wLst, wIf, wAnd, wOr, wNot, wAndV, wOrV, wNotV, wNeg, wChain, fI, fI0, addD, fLt, fLe, fGt, fGe, fIsB, wCB, fAbs, f2I, fInt, fIsq, wPar, wPar3, permD, startE, List.map_cons, List.map_nil, List.cons_append, List.nil_append, List.append_nil, List.length_cons, List.length_nil, List.replicate, List.getElem?_cons_zero, List.getElem?_cons_succ, List.set_cons_zero, List.set_cons_succ, List.getD_cons_zero, List.getD_cons_succ, Nat.reduceAdd, Nat.reduceSub, Nat.zero_add, true_and, and_true, Bool.not_true, Bool.not_false, if_true, if_false, Bool.false_eq_true, reduceIte, decide_eq_true_eq, Bool.not_eq_true', decide_eq_false_iff_not, eqV_int, eqV_str, eqV_bl, decide_true, reduceCtorEq, not_true_eq_false, not_false_eq_true, Bool.not_eq_true, List.not_mem_nil, false_implies, implies_true, Int.reduceNeg, Int.reduceToNat, Int.reducePow, Int.reduceMul, Int.reduceAdd, draw_i, wgTup, wgCons, wgNil]
    exact hK
  · rw [List.nil_append, zip_sub]
    exact ⟨_, rfl, q⟩
theorem atI_nat {v : List Int} {p : Nat} (h : p < v.length) : atI (v.map D.int) (p : Int) = some (.int (v.getD p 0)) := by
  unfold atI ixN
  rw [List.getD_eq_getElem?_getD, List.getElem?_eq_getElem h]
  simp [h]
theorem wp_at_places : ∀ ds M Q R, F_at_places ds M Q R → W_at_places { nx := fun _ M' => Q .non M', rt := Q, xr := R } (startE 3 ds) M := by
  rintro ds M Q R ⟨v, ps, rfl, hv, hp, hq, q⟩
  unfold W_at_places
  simp (disch := first | assumption | decide) only [wSeq, wNext, wAsg, wgName, wIfS, wB, wOp, wVar, wC, wCall, wCallK, wCons, wNil, wRet, wRetN, wDrop, wTup, wLst, wIf, wAnd, wOr, wNot, wAndV, wOrV, wNotV, wNeg, wChain, fI, fI0, addD, fLt, fLe, fGt, fGe, fIsB, wCB, fAbs, f2I, fInt, fIsq, wPar, wPar3, permD, startE, List.map_cons, List.map_nil, List.cons_append, List.nil_append, List.append_nil, List.length_cons, List.length_nil, List.replicate, List.getElem?_cons_zero, List.getElem?_cons_succ, List.set_cons_zero, List.set_cons_succ, List.getD_cons_zero, List.getD_cons_succ, Nat.reduceAdd, Nat.reduceSub, Nat.zero_add, true_and, and_true, Bool.not_true, Bool.not_false, if_true, if_false, Bool.false_eq_true, reduceIte, decide_eq_true_eq, Bool.not_eq_true', decide_eq_false_iff_not, eqV_int, eqV_str, eqV_bl, decide_true, reduceCtorEq, not_true_eq_false, not_false_eq_true, Bool.not_eq_true, List.not_mem_nil, false_implies, implies_true, Int.reduceNeg, Int.reduceToNat, Int.reducePow, Int.reduceMul, Int.reduceAdd, draw_i, wLc, wiSeq, wipeE, vec, fTuple]
  refine lc_pure (fun d => match d with | .int i => .int (v.getD i.toNat 0) | _ => .non) True.intro _ [] ?_ (fun d hd K hK => ?_) ?_
  · unfold nums
    rw [List.length_map]
    simp only [List.length_nil]
    omega
  · obtain ⟨p, hpm, rfl⟩ := List.mem_map.mp hd
    simp (disch := first | assumption | decide) only [wSeq, wNext, wAsg, wgName, wIfS, wB, wOp, wVar, wC, wCall, wCallK, wCons, wNil, wRet, wRetN, wDrop, wTup, wLst, wIf, wAnd, wOr, wNot, wAndV, wOrV, wNotV, wNeg, wChain, fI, fI0, addD, fLt, fLe, fGt, fGe, fIsB, wCB, fAbs, f2I, fInt, fIsq, wPar, wPar3, permD, startE, List.map_cons, List.map_nil, List.cons_append, List.nil_append, List.append_nil, List.length_cons, List.length_nil, List.replicate, List.getElem?_cons_zero, List.getElem?_cons_succ, List.set_cons_zero, List.set_cons_succ, List.getD_cons_zero, List.getD_cons_succ, Nat.reduceAdd, Nat.reduceSub, Nat.zero_add, true_and, and_true, Bool.not_true, Bool.not_false, if_true, if_false, Bool.false_eq_true, reduceIte, decide_eq_true_eq, Bool.not_eq_true', decide_eq_false_iff_not, eqV_int, eqV_str, eqV_bl, decide_true, reduceCtorEq, not_true_eq_false, not_false_eq_true, Bool.not_eq_true, List.not_mem_nil, false_implies, implies_true, Int.reduceNeg, Int.reduceToNat, Int.reducePow, Int.reduceMul, Int.reduceAdd, draw_i]
    exact ⟨_, _, rfl, atI_nat (hq p hpm), hK⟩
  · rw [List.nil_append]
    refine ⟨_, rfl, ?_⟩
    have e : (nums ps).map (fun d => match d with | .int i => D.int (v.getD i.toNat 0) | _ => .non) = (atI' v ps).map D.int := by
      unfold nums atI'
      rw [List.map_map, List.map_map]
      rfl
    show Q (.tup ((nums ps).map (fun d => match d with | .int i => D.int (v.getD i.toNat 0) | _ => .non))) M
    rw [e]
    exact q
theorem parts_lc {M : Mp} {Q : KD} {k : Str} {v u : List Int} {v1 v2 : Option D} (hv : sm v) (hu : sm u) (q : Q (.lst (((subI v u).map (partI k)).map .int)) M) :
    wLcL (wgName 3) wYes (wCall F_part_of (wCons (wVar 0) (wCons (wVar 3) wNil))) AnyM [some (.str k), v1, v2, none] ((subI v u).map .int) [] M Q := by
  refine lc_pure (fun d => match d with | .int i => .int (partI k i) | _ => .non) True.intro _ [] ?_ (fun d hd K hK => ?_) ?_
  · rw [List.length_map]
    have := sub_len (u := u) hv.1
    simp only [List.length_nil]
    omega
  · obtain ⟨c, hc, rfl⟩ := List.mem_map.mp hd
    obtain ⟨a, ha, b, hb, rfl⟩ := mem_zw hc
    have h1 := hv.2 a ha
    have h2 := hu.2 b hb
    simp (disch := first | assumption | decide) only [wSeq, wNext, wAsg, wgName, wIfS, wB, wOp, wVar, wC, wCall, wCallK, wCons, wNil, wRet, wRetN, wDrop, wTup, wLst, wIf, wAnd, wOr, wNot, wAndV, wOrV, wNotV, wNeg, wChain, fI, fI0, addD, fLt, fLe, fGt, fGe, fIsB, wCB, fAbs, f2I, fInt, fIsq, wPar, wPar3, permD, startE, List.map_cons, List.map_nil, List.cons_append, List.nil_append, List.append_nil, List.length_cons, List.length_nil, List.replicate, List.getElem?_cons_zero, List.getElem?_cons_succ, List.set_cons_zero, List.set_cons_succ, List.getD_cons_zero, List.getD_cons_succ, Nat.reduceAdd, Nat.reduceSub, Nat.zero_add, true_and, and_true, Bool.not_true, Bool.not_false, if_true, if_false, Bool.false_eq_true, reduceIte, decide_eq_true_eq, Bool.not_eq_true', decide_eq_false_iff_not, eqV_int, eqV_str, eqV_bl, decide_true, reduceCtorEq, not_true_eq_false, not_false_eq_true, Bool.not_eq_true, List.not_mem_nil, false_implies, implies_true, Int.reduceNeg, Int.reduceToNat, Int.reducePow, Int.reduceMul, Int.reduceAdd, draw_i]
    exact ⟨k, a - b, rfl, by omega, by omega, hK⟩
  · rw [List.nil_append, List.map_map]
    rw [List.map_map] at q
    exact q
theorem wp_distance : ∀ ds M Q R, F_distance ds M Q R → W_distance { nx := fun _ M' => Q .non M', rt := Q, xr := R } (startE 4 ds) M := by
  rintro ds M Q R ⟨k, v, u, rfl, hv, hu, q⟩
  unfold W_distance
  simp (disch := first | assumption | decide) only [wSeq, wNext, wAsg, wgName, wIfS, wB, wOp, wVar, wC, wCall, wCallK, wCons, wNil, wRet, wRetN, wDrop, wTup, wLst, wIf, wAnd, wOr, wNot, wAndV, wOrV, wNotV, wNeg, wChain, fI, fI0, addD, fLt, fLe, fGt, fGe, fIsB, wCB, fAbs, f2I, fInt, fIsq, wPar, wPar3, permD, startE, List.map_cons, List.map_nil, List.cons_append, List.nil_append, List.append_nil, List.length_cons, List.length_nil, List.replicate, List.getElem?_cons_zero, List.getElem?_cons_succ, List.set_cons_zero, List.set_cons_succ, List.getD_cons_zero, List.getD_cons_succ, Nat.reduceAdd, Nat.reduceSub, Nat.zero_add, true_and, and_true, Bool.not_true, Bool.not_false, if_true, if_false, Bool.false_eq_true, reduceIte, decide_eq_true_eq, Bool.not_eq_true', decide_eq_false_iff_not, eqV_int, eqV_str, eqV_bl, decide_true, reduceCtorEq, not_true_eq_false, not_false_eq_true, Bool.not_eq_true, List.not_mem_nil, false_implies, implies_true, Int.reduceNeg, Int.reduceToNat, Int.reducePow, Int.reduceMul, Int.reduceAdd, draw_i, wLc, wiSeq, wipeE, vec, fTuple]
  refine ⟨v, u, rfl, hv, hu, ?_⟩
  refine parts_lc hv hu ?_
  exact ⟨k, _, _, rfl, rfl, small_parts hv hu, q⟩
theorem at_sm {v : List Int} {ps : List Nat} (hv : sm v) (hp : ps.length ≤ 64) : sm (atI' v ps) := by
  unfold atI'
  refine ⟨by rw [List.length_map]; exact hp, fun a ha => ?_⟩
  obtain ⟨p, _, rfl⟩ := List.mem_map.mp ha
  rw [List.getD_eq_getElem?_getD]
  cases e : v[p]? with
  | none => exact ⟨by decide, by decide⟩
  | some x => exact hv.2 x (List.mem_of_getElem? e)
theorem wp_distance_at : ∀ ds M Q R, F_distance_at ds M Q R → W_distance_at { nx := fun _ M' => Q .non M', rt := Q, xr := R } (startE 4 ds) M := by
  rintro ds M Q R ⟨k, v, u, ps, rfl, hv, hu, hp, hq, q⟩
  unfold W_distance_at
  simp (disch := first | assumption | decide) only [wSeq, wNext, wAsg, wgName, wIfS, wB, wOp, wVar, wC, wCall, wCallK, wCons, wNil, wRet, wRetN, wDrop, wTup, wLst, wIf, wAnd, wOr, wNot, wAndV, wOrV, wNotV, wNeg, wChain, fI, fI0, addD, fLt, fLe, fGt, fGe, fIsB, wCB, fAbs, f2I, fInt, fIsq, wPar, wPar3, permD, startE, List.map_cons, List.map_nil, List.cons_append, List.nil_append, List.append_nil, List.length_cons, List.length_nil, List.replicate, List.getElem?_cons_zero, List.getElem?_cons_succ, List.set_cons_zero, List.set_cons_succ, List.getD_cons_zero, List.getD_cons_succ, Nat.reduceAdd, Nat.reduceSub, Nat.zero_add, true_and, and_true, Bool.not_true, Bool.not_false, if_true, if_false, Bool.false_eq_true, reduceIte, decide_eq_true_eq, Bool.not_eq_true', decide_eq_false_iff_not, eqV_int, eqV_str, eqV_bl, decide_true, reduceCtorEq, not_true_eq_false, not_false_eq_true, Bool.not_eq_true, List.not_mem_nil, false_implies, implies_true, Int.reduceNeg, Int.reduceToNat, Int.reducePow, Int.reduceMul, Int.reduceAdd, draw_i]
  refine ⟨v, ps, rfl, hv, hp, fun p h => (hq p h).1, ?_⟩
  refine ⟨u, ps, rfl, hu, hp, fun p h => (hq p h).2, ?_⟩
  exact ⟨k, _, _, rfl, at_sm hv hp, at_sm hu hp, q⟩
theorem wp_is_within : ∀ ds M Q R, F_is_within ds M Q R → W_is_within { nx := fun _ M' => Q .non M', rt := Q, xr := R } (startE 4 ds) M := by
  rintro ds M Q R ⟨k, v, u, r, rfl, hv, hu, q⟩
  unfold W_is_within
  simp (disch := first | assumption | decide) only [wSeq, wNext, wAsg, wgName, wIfS, wB, wOp, wVar, wC, wCall, wCallK, wCons, wNil, wRet, wRetN, wDrop, wTup, wLst, wIf, wAnd, wOr, wNot, wAndV, wOrV, wNotV, wNeg, wChain, fI, fI0, addD, fLt, fLe, fGt, fGe, fIsB, wCB, fAbs, f2I, fInt, fIsq, wPar, wPar3, permD, startE, List.map_cons, List.map_nil, List.cons_append, List.nil_append, List.append_nil, List.length_cons, List.length_nil, List.replicate, List.getElem?_cons_zero, List.getElem?_cons_succ, List.set_cons_zero, List.set_cons_succ, List.getD_cons_zero, List.getD_cons_succ, Nat.reduceAdd, Nat.reduceSub, Nat.zero_add, true_and, and_true, Bool.not_true, Bool.not_false, if_true, if_false, Bool.false_eq_true, reduceIte, decide_eq_true_eq, Bool.not_eq_true', decide_eq_false_iff_not, eqV_int, eqV_str, eqV_bl, decide_true, reduceCtorEq, not_true_eq_false, not_false_eq_true, Bool.not_eq_true, List.not_mem_nil, false_implies, implies_true, Int.reduceNeg, Int.reduceToNat, Int.reducePow, Int.reduceMul, Int.reduceAdd, draw_i]
  exact ⟨k, v, u, rfl, hv, hu, q⟩
end K03
namespace K03
open PySem L2 L3
theorem wp__law_pick : ∀ ds M Q R, pickF ds M Q R → W__law_pick { nx := fun _ M' => Q .non M', rt := Q, xr := R } (startE 2 ds) M := by
  rintro ds M Q R ⟨a, a0, d, es, rfl, hm, hs, h0, h1, q⟩
  unfold W__law_pick
  simp (disch := first | assumption | decide) only [wSeq, wNext, wAsg, wgName, wIfS, wB, wOp, wVar, wC, wCall, wCallK, wCons, wNil, wRet, wRetN, wDrop, wTup, wLst, wIf, wAnd, wOr, wNot, wAndV, wOrV, wNotV, wNeg, wChain, fI, fI0, addD, fLt, fLe, fGt, fGe, fIsB, wCB, fAbs, f2I, fInt, fIsq, wPar, wPar3, permD, startE, List.map_cons, List.map_nil, List.cons_append, List.nil_append, List.append_nil, List.length_cons, List.length_nil, List.replicate, List.getElem?_cons_zero, List.getElem?_cons_succ, List.set_cons_zero, List.set_cons_succ, List.getD_cons_zero, List.getD_cons_succ, Nat.reduceAdd, Nat.reduceSub, Nat.zero_add, true_and, and_true, Bool.not_true, Bool.not_false, if_true, if_false, Bool.false_eq_true, reduceIte, decide_eq_true_eq, Bool.not_eq_true', decide_eq_false_iff_not, eqV_int, eqV_str, eqV_bl, decide_true, reduceCtorEq, not_true_eq_false, not_false_eq_true, Bool.not_eq_true, List.not_mem_nil, false_implies, implies_true, Int.reduceNeg, Int.reduceToNat, Int.reducePow, Int.reduceMul, Int.reduceAdd, draw_i]
  have fl : ∀ Q' : KD, Q' (.int (es.length : Int)) M → fLen [d] M Q' := fun Q' h => by
    cases d <;> first | exact ⟨es, hs, h⟩ | cases hs
  refine fl _ ?_
  have hl : (0 : Int) < (es.length : Int) := by omega
  have hg : ((es.length : Nat) : Int).natAbs.log2 < 9000 := by
    rw [Int.natAbs_natCast]
    have := Nat.log2_le_self es.length
    have h2 : es.length.log2 < 20 := (Nat.log2_lt (by omega)).mpr (by omega)
    omega
  refine ⟨a, a0, _, rfl, hm, hl, hg, fun k k0 k1 => ?_⟩
  obtain ⟨i, rfl⟩ := Int.eq_ofNat_of_zero_le k0
  have hi : i < es.length := by omega
  have e : atI es (i : Int) = some es[i] := by
    unfold atI ixN
    simp [hi]
  have fx : ∀ Q' : KD, Q' es[i] M → ixD d (.int (i : Int)) M Q' := fun Q' h => by
    cases d <;> first | exact ⟨es, _, hs, e, h⟩ | cases hs
  exact fx _ (q _ (List.getElem_mem hi))
theorem cut_ints (ns : List Int) (lo hi : Option Int) : ∃ ms : List Int, cutD (ns.map .int) lo hi = ms.map .int ∧ ms.length ≤ ns.length := by
  unfold cutD
  refine ⟨(ns.drop (HT.sIx (ns.map D.int).length 0 lo)).take (HT.sIx (ns.map D.int).length (ns.map D.int).length hi - HT.sIx (ns.map D.int).length 0 lo), ?_, ?_⟩
  · rw [← List.map_drop, ← List.map_take]
  · rw [List.length_take, List.length_drop]
    omega
theorem heap_cells {Q : KD} {M : Mp} {sc : Option D} {v2 v3 : Option D} : ∀ (ns acc : List Int), acc.length + ns.length ≤ 63 → (∀ c ∈ acc, 0 ≤ c) → (∀ cs : List Int, cs.length ≤ 63 → (∀ c ∈ cs, 0 ≤ c) → Q (.lst (cs.map .int)) M) →
    wLcL (wgName 1) wYes (wOp addD (wOp (fI CM fun i j => .int (i * j)) (wC (.int 2)) (wCB fAbs (wCons (wVar 1) wNil))) (wCB fInt (wCons (wOp fLt (wVar 1) (wC (.int 0))) wNil))) AnyM [sc, none, v2, v3] (ns.map .int) (acc.map .int) M Q
  | [], acc, hl, hp, q => ⟨True.intro, q acc (by simpa using hl) hp⟩
  | n :: ns, acc, hl, hp, q => by
    refine ⟨True.intro, ?_, ?_⟩
    · rw [List.length_map]
      rw [List.length_cons] at hl
      exact Nat.lt_of_lt_of_le (by omega : acc.length < 63) (by decide)
    · have e : ∀ c : Int, acc.map D.int ++ [.int c] = (acc ++ [c]).map .int := fun c => by rw [List.map_append]; rfl
      simp (disch := first | assumption | decide) only [wSeq, wNext, wAsg, wgName, wIfS, wB, wOp, wVar, wC, wCall, wCallK, wCons, wNil, wRet, wRetN, wDrop, wTup, wLst, wIf, wAnd, wOr, wNot, wAndV, wOrV, wNotV, wNeg, wChain, fI, fI0, addD, fLt, fLe, fGt, fGe, fIsB, wCB, fAbs, f2I, fInt, fIsq, wPar, wPar3, permD, startE, List.map_cons, List.map_nil, List.cons_append, List.nil_append, List.append_nil, List.length_cons, List.length_nil, List.replicate, List.getElem?_cons_zero, List.getElem?_cons_succ, List.set_cons_zero, List.set_cons_succ, List.getD_cons_zero, List.getD_cons_succ, Nat.reduceAdd, Nat.reduceSub, Nat.zero_add, true_and, and_true, Bool.not_true, Bool.not_false, if_true, if_false, Bool.false_eq_true, reduceIte, decide_eq_true_eq, Bool.not_eq_true', decide_eq_false_iff_not, eqV_int, eqV_str, eqV_bl, decide_true, reduceCtorEq, not_true_eq_false, not_false_eq_true, Bool.not_eq_true, List.not_mem_nil, false_implies, implies_true, Int.reduceNeg, Int.reduceToNat, Int.reducePow, Int.reduceMul, Int.reduceAdd, draw_i, wYes]
      refine ⟨.inl (.inl ⟨by decide, by decide⟩), ?_⟩
      rw [e]
      refine heap_cells ns _ (by rw [List.length_append, List.length_singleton]; rw [List.length_cons] at hl; omega) (fun c hc => ?_) q
      rcases List.mem_append.mp hc with z | z
      · exact hp c z
      · rw [List.mem_singleton.mp z]
        split <;> omega
theorem heap_great {Q : KD} {M : Mp} {v0 v2 v3 : Option D} : ∀ (ns acc : List Int), acc.length + ns.length ≤ 63 → (∀ c ∈ acc, 0 ≤ c) → (∀ c ∈ ns, 0 ≤ c) → (∀ cs : List Int, cs.length ≤ 63 → (∀ c ∈ cs, 0 ≤ c) → Q (.lst (cs.map .int)) M) →
    wLcL (wgName 1) (wB (wOp fGe (wVar 1) (wOp (fI CPow fun i j => .int (i ^ j.toNat)) (wC (.int 10)) (wC (.int 18))))) (wVar 1) AnyM [v0, none, v2, v3] (ns.map .int) (acc.map .int) M Q
  | [], acc, hl, hp, hq, q => ⟨True.intro, q acc (by simpa using hl) hp⟩
  | n :: ns, acc, hl, hp, hq, q => by
    rw [List.length_cons] at hl
    refine ⟨True.intro, ?_, ?_⟩
    · rw [List.length_map]
      exact Nat.lt_of_lt_of_le (by omega : acc.length < 63) (by decide)
    · have e : ∀ c : Int, acc.map D.int ++ [.int c] = (acc ++ [c]).map .int := fun c => by rw [List.map_append]; rfl
      simp (disch := first | assumption | decide) only [wSeq, wNext, wAsg, wgName, wIfS, wB, wOp, wVar, wC, wCall, wCallK, wCons, wNil, wRet, wRetN, wDrop, wTup, wLst, wIf, wAnd, wOr, wNot, wAndV, wOrV, wNotV, wNeg, wChain, fI, fI0, addD, fLt, fLe, fGt, fGe, fIsB, wCB, fAbs, f2I, fInt, fIsq, wPar, wPar3, permD, startE, List.map_cons, List.map_nil, List.cons_append, List.nil_append, List.append_nil, List.length_cons, List.length_nil, List.replicate, List.getElem?_cons_zero, List.getElem?_cons_succ, List.set_cons_zero, List.set_cons_succ, List.getD_cons_zero, List.getD_cons_succ, Nat.reduceAdd, Nat.reduceSub, Nat.zero_add, true_and, and_true, Bool.not_true, Bool.not_false, if_true, if_false, Bool.false_eq_true, reduceIte, decide_eq_true_eq, Bool.not_eq_true', decide_eq_false_iff_not, eqV_int, eqV_str, eqV_bl, decide_true, reduceCtorEq, not_true_eq_false, not_false_eq_true, Bool.not_eq_true, List.not_mem_nil, false_implies, implies_true, Int.reduceNeg, Int.reduceToNat, Int.reducePow, Int.reduceMul, Int.reduceAdd, draw_i]
      refine ⟨⟨by decide, by decide, by decide⟩, ?_⟩
      have hq2 : ∀ c ∈ ns, 0 ≤ c := fun c hc => hq c (List.mem_cons_of_mem _ hc)
      split
      · rw [e]
        refine heap_great ns _ (by rw [List.length_append, List.length_singleton]; omega) (fun c hc => ?_) hq2 q
        rcases List.mem_append.mp hc with z | z
        · exact hp c z
        · rw [List.mem_singleton.mp z]
          exact hq n List.mem_cons_self
      · exact heap_great ns acc (by omega) hp hq2 q
theorem wp__law_heap : ∀ ds M Q R, F__law_heap ds M Q R → W__law_heap { nx := fun _ M' => Q .non M', rt := Q, xr := R } (startE 4 ds) M := by
  rintro ds M Q R ⟨ns, rfl, hn, q⟩
  unfold W__law_heap
  refine seq_gen fun K hK => ?_
  simp (disch := first | assumption | decide) only [wSeq, wNext, wAsg, wgName, wIfS, wB, wOp, wVar, wC, wCall, wCallK, wCons, wNil, wRet, wRetN, wDrop, wTup, wLst, wIf, wAnd, wOr, wNot, wAndV, wOrV, wNotV, wNeg, wChain, fI, fI0, addD, fLt, fLe, fGt, fGe, fIsB, wCB, fAbs, f2I, fInt, fIsq, wPar, wPar3, permD, startE, List.map_cons, List.map_nil, List.cons_append, List.nil_append, List.append_nil, List.length_cons, List.length_nil, List.replicate, List.getElem?_cons_zero, List.getElem?_cons_succ, List.set_cons_zero, List.set_cons_succ, List.getD_cons_zero, List.getD_cons_succ, Nat.reduceAdd, Nat.reduceSub, Nat.zero_add, true_and, and_true, Bool.not_true, Bool.not_false, if_true, if_false, Bool.false_eq_true, reduceIte, decide_eq_true_eq, Bool.not_eq_true', decide_eq_false_iff_not, eqV_int, eqV_str, eqV_bl, decide_true, reduceCtorEq, not_true_eq_false, not_false_eq_true, Bool.not_eq_true, List.not_mem_nil, false_implies, implies_true, Int.reduceNeg, Int.reduceToNat, Int.reducePow, Int.reduceMul, Int.reduceAdd, draw_i, wLc, wSl, wNoP, wPart, slD, wiSeq, wipeE]
  obtain ⟨ms, em, lm⟩ := cut_ints ns none (some 60)
  refine ⟨_, ⟨0, .inr rfl⟩, rfl, ?_⟩
  rw [em]
  refine heap_cells ms [] (by simp; omega) (fun c hc => by cases hc) fun cs hc hp => ?_
  subst hK
  refine seq_gen fun K hK => ?_
  refine for_gen fun B hB => ?_
  simp (disch := first | assumption | decide) only [wSeq, wNext, wAsg, wgName, wIfS, wB, wOp, wVar, wC, wCall, wCallK, wCons, wNil, wRet, wRetN, wDrop, wTup, wLst, wIf, wAnd, wOr, wNot, wAndV, wOrV, wNotV, wNeg, wChain, fI, fI0, addD, fLt, fLe, fGt, fGe, fIsB, wCB, fAbs, f2I, fInt, fIsq, wPar, wPar3, permD, startE, List.map_cons, List.map_nil, List.cons_append, List.nil_append, List.append_nil, List.length_cons, List.length_nil, List.replicate, List.getElem?_cons_zero, List.getElem?_cons_succ, List.set_cons_zero, List.set_cons_succ, List.getD_cons_zero, List.getD_cons_succ, Nat.reduceAdd, Nat.reduceSub, Nat.zero_add, true_and, and_true, Bool.not_true, Bool.not_false, if_true, if_false, Bool.false_eq_true, reduceIte, decide_eq_true_eq, Bool.not_eq_true', decide_eq_false_iff_not, eqV_int, eqV_str, eqV_bl, decide_true, reduceCtorEq, not_true_eq_false, not_false_eq_true, Bool.not_eq_true, List.not_mem_nil, false_implies, implies_true, Int.reduceNeg, Int.reduceToNat, Int.reducePow, Int.reduceMul, Int.reduceAdd, draw_i, wFor, wiSeq]
  refine loop_ix (fun i ρ' M' => M' = M ∧ ∃ (v1 : Option D) (s : Int), ρ' = [some (.lst (ns.map .int)), v1, some (.lst (cs.map .int)), some (.int s)] ∧ 0 ≤ s ∧ s < 4294967296) ?_ ?_ ⟨rfl, _, _, rfl, by decide, by decide⟩
  · rintro i d ρ' M' hi ⟨rfl, v1, s, rfl, s0, s1⟩
    refine ⟨True.intro, fun K' hK' => ?_⟩
    obtain ⟨c, rfl⟩ : ∃ c : Int, d = .int c := by
      rw [List.getElem?_map] at hi
      cases e : cs[i]? with
      | none =>
        rw [e] at hi
        cases hi
      | some c =>
        rw [e] at hi
        exact ⟨c, (Option.some.inj hi).symm⟩
    subst hB
    simp (disch := first | assumption | decide) only [wSeq, wNext, wAsg, wgName, wIfS, wB, wOp, wVar, wC, wCall, wCallK, wCons, wNil, wRet, wRetN, wDrop, wTup, wLst, wIf, wAnd, wOr, wNot, wAndV, wOrV, wNotV, wNeg, wChain, fI, fI0, addD, fLt, fLe, fGt, fGe, fIsB, wCB, fAbs, f2I, fInt, fIsq, wPar, wPar3, permD, startE, List.map_cons, List.map_nil, List.cons_append, List.nil_append, List.append_nil, List.length_cons, List.length_nil, List.replicate, List.getElem?_cons_zero, List.getElem?_cons_succ, List.set_cons_zero, List.set_cons_succ, List.getD_cons_zero, List.getD_cons_succ, Nat.reduceAdd, Nat.reduceSub, Nat.zero_add, true_and, and_true, Bool.not_true, Bool.not_false, if_true, if_false, Bool.false_eq_true, reduceIte, decide_eq_true_eq, Bool.not_eq_true', decide_eq_false_iff_not, eqV_int, eqV_str, eqV_bl, decide_true, reduceCtorEq, not_true_eq_false, not_false_eq_true, Bool.not_eq_true, List.not_mem_nil, false_implies, implies_true, Int.reduceNeg, Int.reduceToNat, Int.reducePow, Int.reduceMul, Int.reduceAdd, draw_i]
    refine ⟨.inl (.inr ⟨by decide, by decide⟩), by decide, by decide, ?_⟩
    exact hK' _ _ ⟨rfl, _, _, rfl, Int.emod_nonneg _ (by decide), Int.lt_trans (Int.emod_lt_of_pos _ (by decide)) (by decide)⟩
  · rintro ρ' M' ⟨rfl, v1, s, rfl, s0, s1⟩
    refine ⟨True.intro, ?_⟩
    show K _ _
    subst hK
    simp (disch := first | assumption | decide) only [wSeq, wNext, wAsg, wgName, wIfS, wB, wOp, wVar, wC, wCall, wCallK, wCons, wNil, wRet, wRetN, wDrop, wTup, wLst, wIf, wAnd, wOr, wNot, wAndV, wOrV, wNotV, wNeg, wChain, fI, fI0, addD, fLt, fLe, fGt, fGe, fIsB, wCB, fAbs, f2I, fInt, fIsq, wPar, wPar3, permD, startE, List.map_cons, List.map_nil, List.cons_append, List.nil_append, List.append_nil, List.length_cons, List.length_nil, List.replicate, List.getElem?_cons_zero, List.getElem?_cons_succ, List.set_cons_zero, List.set_cons_succ, List.getD_cons_zero, List.getD_cons_succ, Nat.reduceAdd, Nat.reduceSub, Nat.zero_add, true_and, and_true, Bool.not_true, Bool.not_false, if_true, if_false, Bool.false_eq_true, reduceIte, decide_eq_true_eq, Bool.not_eq_true', decide_eq_false_iff_not, eqV_int, eqV_str, eqV_bl, decide_true, reduceCtorEq, not_true_eq_false, not_false_eq_true, Bool.not_eq_true, List.not_mem_nil, false_implies, implies_true, Int.reduceNeg, Int.reduceToNat, Int.reducePow, Int.reduceMul, Int.reduceAdd, draw_i, wDrw, wLc, wiSeq, wipeE]
    refine heap_great cs [] (by simp; omega) (fun c hc => by cases hc) hp fun cs2 hc2 hp2 => ?_
    refine ⟨cs2, s, rfl, rfl, by omega, hp2, s0, s1, fun p q' _ _ _ => q _ q' p setM_same⟩
theorem mxI_snoc : ∀ (ns : List Int) {n : Int}, 0 ≤ n → mxI (ns ++ [n]) = if n > mxI ns then n else mxI ns
  | [], n, h => by
    show (if mxI [] ≤ n then n else mxI []) = if n > mxI [] then n else mxI []
    have e : mxI [] = 0 := rfl
    rw [e]
    split <;> split <;> omega
  | m :: ns, n, h => by
    have ih := mxI_snoc ns h
    show (if mxI (ns ++ [n]) ≤ m then m else mxI (ns ++ [n])) = if n > (if mxI ns ≤ m then m else mxI ns) then n else (if mxI ns ≤ m then m else mxI ns)
    rw [ih]
    split <;> split <;> (try split) <;> omega
theorem sub_snoc {v u : List Int} {i : Nat} (h1 : i < v.length) (h2 : i < u.length) : subI (v.take (i + 1)) (u.take (i + 1)) = subI (v.take i) (u.take i) ++ [v.getD i 0 - u.getD i 0] := by
  unfold subI
  rw [List.take_succ, List.take_succ, List.zipWith_append (by rw [List.length_take, List.length_take]; omega), List.getElem?_eq_getElem h1, List.getElem?_eq_getElem h2, List.getD_eq_getElem?_getD, List.getD_eq_getElem?_getD, List.getElem?_eq_getElem h1, List.getElem?_eq_getElem h2]
  rfl
theorem ix_seqd {M : Mp} {d : D} {v : List Int} {i : Nat} {Q : KD} (h : seqD M d = some (v.map .int)) (hi : i < v.length) (q : Q (.int (v.getD i 0)) M) : ixD d (.int (i : Int)) M Q := by
  have e := atI_nat hi
  cases d <;> first | exact ⟨_, _, h, e, q⟩ | cases h
theorem get_sm {v : List Int} (hv : sm v) {i : Nat} (hi : i < v.length) : -1000000 ≤ v.getD i 0 ∧ v.getD i 0 ≤ 1000000 := by
  rw [List.getD_eq_getElem?_getD, List.getElem?_eq_getElem hi]
  exact hv.2 _ (List.getElem_mem hi)
theorem wp__law_distance : ∀ ds M Q R, F__law_distance ds M Q R → W__law_distance { nx := fun _ M' => Q .non M', rt := Q, xr := R } (startE 6 ds) M := by
  rintro ds M Q R ⟨k, d, e, v, u, rfl, hd, he, hl, hv, hu, q⟩
  unfold W__law_distance
  refine seq_gen fun K hK => ?_
  simp (disch := first | assumption | decide) only [wSeq, wNext, wAsg, wgName, wIfS, wB, wOp, wVar, wC, wCall, wCallK, wCons, wNil, wRet, wRetN, wDrop, wTup, wLst, wIf, wAnd, wOr, wNot, wAndV, wOrV, wNotV, wNeg, wChain, fI, fI0, addD, fLt, fLe, fGt, fGe, fIsB, wCB, fAbs, f2I, fInt, fIsq, wPar, wPar3, permD, startE, List.map_cons, List.map_nil, List.cons_append, List.nil_append, List.append_nil, List.length_cons, List.length_nil, List.replicate, List.getElem?_cons_zero, List.getElem?_cons_succ, List.set_cons_zero, List.set_cons_succ, List.getD_cons_zero, List.getD_cons_succ, Nat.reduceAdd, Nat.reduceSub, Nat.zero_add, true_and, and_true, Bool.not_true, Bool.not_false, if_true, if_false, Bool.false_eq_true, reduceIte, decide_eq_true_eq, Bool.not_eq_true', decide_eq_false_iff_not, eqV_int, eqV_str, eqV_bl, decide_true, reduceCtorEq, not_true_eq_false, not_false_eq_true, Bool.not_eq_true, List.not_mem_nil, false_implies, implies_true, Int.reduceNeg, Int.reduceToNat, Int.reducePow, Int.reduceMul, Int.reduceAdd, draw_i]
  subst hK
  refine seq_gen fun K hK => ?_
  refine for_gen fun B hB => ?_
  simp (disch := first | assumption | decide) only [wSeq, wNext, wAsg, wgName, wIfS, wB, wOp, wVar, wC, wCall, wCallK, wCons, wNil, wRet, wRetN, wDrop, wTup, wLst, wIf, wAnd, wOr, wNot, wAndV, wOrV, wNotV, wNeg, wChain, fI, fI0, addD, fLt, fLe, fGt, fGe, fIsB, wCB, fAbs, f2I, fInt, fIsq, wPar, wPar3, permD, startE, List.map_cons, List.map_nil, List.cons_append, List.nil_append, List.append_nil, List.length_cons, List.length_nil, List.replicate, List.getElem?_cons_zero, List.getElem?_cons_succ, List.set_cons_zero, List.set_cons_succ, List.getD_cons_zero, List.getD_cons_succ, Nat.reduceAdd, Nat.reduceSub, Nat.zero_add, true_and, and_true, Bool.not_true, Bool.not_false, if_true, if_false, Bool.false_eq_true, reduceIte, decide_eq_true_eq, Bool.not_eq_true', decide_eq_false_iff_not, eqV_int, eqV_str, eqV_bl, decide_true, reduceCtorEq, not_true_eq_false, not_false_eq_true, Bool.not_eq_true, List.not_mem_nil, false_implies, implies_true, Int.reduceNeg, Int.reduceToNat, Int.reducePow, Int.reduceMul, Int.reduceAdd, draw_i, wFor, wiRange1]
  have fl : ∀ Q' : KD, Q' (.int (v.length : Int)) M → fLen [d] M Q' := fun Q' h => by
    have h' : Q' (.int (((v.map D.int).length : Nat) : Int)) M := by rw [List.length_map]; exact h
    cases d <;> first | exact ⟨_, hd, h'⟩ | cases hd
  refine fl _ ?_
  dsimp only
  have v64 := hv.1
  refine ⟨by omega, by omega, ?_⟩
  have ln : (v.length : Int).toNat = v.length := Int.toNat_natCast _
  rw [ln]
  refine loop_ix (fun i ρ' M' => M' = M ∧ ∃ (v4 v5 : Option D), ρ' = [some (.str k), some d, some e, some (.int (joinI k ((subI (v.take i) (u.take i)).map (partI k)))), v4, v5]) ?_ ?_ ⟨rfl, none, none, ?_⟩
  · rintro i dd ρ' M' hi ⟨rfl, v4, v5, rfl⟩
    obtain ⟨li, rfl⟩ := intsD_get hi
    refine ⟨True.intro, fun K' hK' => ?_⟩
    have b1 := get_sm hv li
    have b2 := get_sm hu (i := i) (by omega)
    obtain ⟨f, ef⟩ : ∃ f, f = joinI k ((subI (v.take i) (u.take i)).map (partI k)) := ⟨_, rfl⟩
    obtain ⟨c, ec⟩ : ∃ c, c = partI k (v.getD i 0 - u.getD i 0) := ⟨_, rfl⟩
    have pb := part_bound k (d := v.getD i 0 - u.getD i 0) (by omega) (by omega)
    have ej : joinI k ((subI (v.take (i + 1)) (u.take (i + 1))).map (partI k)) = if k = "most" then (if c > f then c else f) else f + c := by
      rw [sub_snoc li (by omega), List.map_append, List.map_cons, List.map_nil, ← ec, ef]
      unfold joinI
      split
      · exact mxI_snoc _ (by omega)
      · rw [List.sum_append]
        simp
    rw [← ef]
    rw [ej] at hK'
    rw [Int.zero_add]
    simp only [wgName, List.set_cons_succ, List.set_cons_zero]
    subst hB
    refine seq_gen fun K2 hK2 => ?_
    simp (disch := first | assumption | decide) only [wSeq, wNext, wAsg, wgName, wIfS, wB, wOp, wVar, wC, wCall, wCallK, wCons, wNil, wRet, wRetN, wDrop, wTup, wLst, wIf, wAnd, wOr, wNot, wAndV, wOrV, wNotV, wNeg, wChain, fI, fI0, addD, fLt, fLe, fGt, fGe, fIsB, wCB, fAbs, f2I, fInt, fIsq, wPar, wPar3, permD, startE, List.map_cons, List.map_nil, List.cons_append, List.nil_append, List.append_nil, List.length_cons, List.length_nil, List.replicate, List.getElem?_cons_zero, List.getElem?_cons_succ, List.set_cons_zero, List.set_cons_succ, List.getD_cons_zero, List.getD_cons_succ, Nat.reduceAdd, Nat.reduceSub, Nat.zero_add, true_and, and_true, Bool.not_true, Bool.not_false, if_true, if_false, Bool.false_eq_true, reduceIte, decide_eq_true_eq, Bool.not_eq_true', decide_eq_false_iff_not, eqV_int, eqV_str, eqV_bl, decide_true, reduceCtorEq, not_true_eq_false, not_false_eq_true, Bool.not_eq_true, List.not_mem_nil, false_implies, implies_true, Int.reduceNeg, Int.reduceToNat, Int.reducePow, Int.reduceMul, Int.reduceAdd, draw_i]
    refine ix_seqd hd li ?_
    refine ix_seqd he (by omega) ?_
    refine ⟨k, _, _, rfl, by omega, by omega, by omega, by omega, ?_⟩
    rw [← ec]
    subst hK2
    simp (disch := first | assumption | decide) only [wSeq, wNext, wAsg, wgName, wIfS, wB, wOp, wVar, wC, wCall, wCallK, wCons, wNil, wRet, wRetN, wDrop, wTup, wLst, wIf, wAnd, wOr, wNot, wAndV, wOrV, wNotV, wNeg, wChain, fI, fI0, addD, fLt, fLe, fGt, fGe, fIsB, wCB, fAbs, f2I, fInt, fIsq, wPar, wPar3, permD, startE, List.map_cons, List.map_nil, List.cons_append, List.nil_append, List.append_nil, List.length_cons, List.length_nil, List.replicate, List.getElem?_cons_zero, List.getElem?_cons_succ, List.set_cons_zero, List.set_cons_succ, List.getD_cons_zero, List.getD_cons_succ, Nat.reduceAdd, Nat.reduceSub, Nat.zero_add, true_and, and_true, Bool.not_true, Bool.not_false, if_true, if_false, Bool.false_eq_true, reduceIte, decide_eq_true_eq, Bool.not_eq_true', decide_eq_false_iff_not, eqV_int, eqV_str, eqV_bl, decide_true, reduceCtorEq, not_true_eq_false, not_false_eq_true, Bool.not_eq_true, List.not_mem_nil, false_implies, implies_true, Int.reduceNeg, Int.reduceToNat, Int.reducePow, Int.reduceMul, Int.reduceAdd, draw_i]
    split
    · rename_i h
      rw [if_pos h] at hK'
      split
      · rename_i h2
        rw [if_pos h2] at hK'
        exact hK' _ _ ⟨rfl, _, _, rfl⟩
      · rename_i h2
        rw [if_neg h2] at hK'
        exact hK' _ _ ⟨rfl, _, _, rfl⟩
    · rename_i h
      rw [if_neg h] at hK'
      exact hK' _ _ ⟨rfl, _, _, rfl⟩
  · rintro ρ' M' ⟨rfl, v4, v5, rfl⟩
    refine ⟨True.intro, ?_⟩
    show K _ _
    subst hK
    rw [intsD_len, List.take_length]
    have e1 : u.take v.length = u := by rw [hl, List.take_length]
    rw [e1]
    simp (disch := first | assumption | decide) only [wSeq, wNext, wAsg, wgName, wIfS, wB, wOp, wVar, wC, wCall, wCallK, wCons, wNil, wRet, wRetN, wDrop, wTup, wLst, wIf, wAnd, wOr, wNot, wAndV, wOrV, wNotV, wNeg, wChain, fI, fI0, addD, fLt, fLe, fGt, fGe, fIsB, wCB, fAbs, f2I, fInt, fIsq, wPar, wPar3, permD, startE, List.map_cons, List.map_nil, List.cons_append, List.nil_append, List.append_nil, List.length_cons, List.length_nil, List.replicate, List.getElem?_cons_zero, List.getElem?_cons_succ, List.set_cons_zero, List.set_cons_succ, List.getD_cons_zero, List.getD_cons_succ, Nat.reduceAdd, Nat.reduceSub, Nat.zero_add, true_and, and_true, Bool.not_true, Bool.not_false, if_true, if_false, Bool.false_eq_true, reduceIte, decide_eq_true_eq, Bool.not_eq_true', decide_eq_false_iff_not, eqV_int, eqV_str, eqV_bl, decide_true, reduceCtorEq, not_true_eq_false, not_false_eq_true, Bool.not_eq_true, List.not_mem_nil, false_implies, implies_true, Int.reduceNeg, Int.reduceToNat, Int.reducePow, Int.reduceMul, Int.reduceAdd, draw_i]
    exact q
  · have e0 : joinI k ((subI (v.take 0) (u.take 0)).map (partI k)) = 0 := by
      unfold joinI
      split <;> rfl
    rw [e0]
end K03
namespace K03
open PySem L2 L3
theorem eqV_tl {M : Mp} {neg : Bool} {a : Addr} {y : List D} {Q : KD} : eqV neg (.tok a) (.lst y) M Q ↔ eqD2 neg (.tok a) (.lst y) M Q := Iff.rfl
theorem eqV_lst {M : Mp} {neg : Bool} {x y : List D} {Q : KD} : eqV neg (.lst x) (.lst y) M Q ↔ eqD2 neg (.lst x) (.lst y) M Q := Iff.rfl
theorem eqV_tup {M : Mp} {neg : Bool} {x y : List D} {Q : KD} : eqV neg (.tup x) (.tup y) M Q ↔ eqD2 neg (.tup x) (.tup y) M Q := Iff.rfl
theorem del_set {M : Mp} {p : Addr} {c : Cell} (h : M p = none) : delM (setM M p c) p = M := by
  funext b
  unfold delM setM
  split
  · rename_i e
    rw [e, h]
  · rfl
theorem set_set {M : Mp} {p : Addr} {c d : Cell} : setM (setM M p c) p d = setM M p d := by
  funext b
  unfold setM
  split <;> rfl
theorem ints_of {R : Int → Prop} : ∀ {ys : List D}, (∀ y ∈ ys, ∃ b : Int, y = .int b ∧ R b) → ∃ ns : List Int, ys = ns.map .int ∧ ∀ b ∈ ns, R b
  | [], _ => ⟨[], rfl, fun b h => by cases h⟩
  | y :: ys, h => by
    obtain ⟨b, rfl, hb⟩ := h y List.mem_cons_self
    obtain ⟨ns, rfl, hn⟩ := ints_of (fun z hz => h z (List.mem_cons_of_mem _ hz))
    refine ⟨b :: ns, rfl, fun c hc => ?_⟩
    rcases List.mem_cons.mp hc with rfl | hc
    · exact hb
    · exact hn c hc
theorem wp__law_vectors : ∀ ds M Q R, F__law_vectors ds M Q R → W__law_vectors { nx := fun _ M' => Q .non M', rt := Q, xr := R } (startE 11 ds) M := by
  rintro ds M Q R ⟨a, a0, p, m, rfl, hm, hp, hm2, q⟩
  unfold W__law_vectors
  refine seq_gen fun K hK => ?_
  simp (disch := first | assumption | decide) only [wSeq, wNext, wAsg, wgName, wIfS, wB, wOp, wVar, wC, wCall, wCallK, wCons, wNil, wRet, wRetN, wDrop, wTup, wLst, wIf, wAnd, wOr, wNot, wAndV, wOrV, wNotV, wNeg, wChain, fI, fI0, addD, fLt, fLe, fGt, fGe, fIsB, wCB, fAbs, f2I, fInt, fIsq, wPar, wPar3, permD, startE, List.map_cons, List.map_nil, List.cons_append, List.nil_append, List.append_nil, List.length_cons, List.length_nil, List.replicate, List.getElem?_cons_zero, List.getElem?_cons_succ, List.set_cons_zero, List.set_cons_succ, List.getD_cons_zero, List.getD_cons_succ, Nat.reduceAdd, Nat.reduceSub, Nat.zero_add, true_and, and_true, Bool.not_true, Bool.not_false, if_true, if_false, Bool.false_eq_true, reduceIte, decide_eq_true_eq, Bool.not_eq_true', decide_eq_false_iff_not, eqV_int, eqV_str, eqV_bl, decide_true, reduceCtorEq, not_true_eq_false, not_false_eq_true, Bool.not_eq_true, List.not_mem_nil, false_implies, implies_true, Int.reduceNeg, Int.reduceToNat, Int.reducePow, Int.reduceMul, Int.reduceAdd, draw_i, wLstM, wgTup, wgCons, wgNil]
  refine ⟨by decide, pick_q hm rfl (by decide) (by decide) fun x hx => ⟨by decide, fun f hf => ⟨by decide, ?_⟩⟩⟩
  obtain ⟨far, rfl, f0, f1⟩ : ∃ far : Int, x = .int far ∧ 3 ≤ far ∧ far ≤ 9900 := by
    simp only [List.mem_cons, List.not_mem_nil, or_false] at hx
    rcases hx with rfl | rfl | rfl | rfl | rfl
    · exact ⟨_, rfl, by decide, by decide⟩
    · exact ⟨_, rfl, by decide, by decide⟩
    · exact ⟨_, rfl, by decide, by decide⟩
    · exact ⟨_, rfl, by decide, by decide⟩
    · exact ⟨_, rfl, by decide, by decide⟩
  have naf : a ≠ f := fun z => by
    rw [z, hf] at hm
    cases hm
  have hmf : ∀ c, setM M f c a = some (.drw a0) := fun c => by
    rw [setM_ne naf]
    exact hm
  subst hK
  refine seq_gen fun K hK => ?_
  simp (disch := first | assumption | decide) only [wSeq, wNext, wAsg, wgName, wIfS, wB, wOp, wVar, wC, wCall, wCallK, wCons, wNil, wRet, wRetN, wDrop, wTup, wLst, wIf, wAnd, wOr, wNot, wAndV, wOrV, wNotV, wNeg, wChain, fI, fI0, addD, fLt, fLe, fGt, fGe, fIsB, wCB, fAbs, f2I, fInt, fIsq, wPar, wPar3, permD, startE, List.map_cons, List.map_nil, List.cons_append, List.nil_append, List.append_nil, List.length_cons, List.length_nil, List.replicate, List.getElem?_cons_zero, List.getElem?_cons_succ, List.set_cons_zero, List.set_cons_succ, List.getD_cons_zero, List.getD_cons_succ, Nat.reduceAdd, Nat.reduceSub, Nat.zero_add, true_and, and_true, Bool.not_true, Bool.not_false, if_true, if_false, Bool.false_eq_true, reduceIte, decide_eq_true_eq, Bool.not_eq_true', decide_eq_false_iff_not, eqV_int, eqV_str, eqV_bl, decide_true, reduceCtorEq, not_true_eq_false, not_false_eq_true, Bool.not_eq_true, List.not_mem_nil, false_implies, implies_true, Int.reduceNeg, Int.reduceToNat, Int.reducePow, Int.reduceMul, Int.reduceAdd, draw_i, wLc, wiRange1, wipeE]
  refine ⟨by omega, by omega, ?_⟩
  refine lc_any (fun _ y => ∃ b : Int, y = .int b ∧ -9900 ≤ b ∧ b ≤ 9900) True.intro _ [] ?_ (fun d hd K2 hK2 => ?_) fun ys hy1 hy2 => ?_
  · rw [intsD_len]
    simp only [List.length_nil]
    omega
  · simp (disch := first | assumption | decide) only [wSeq, wNext, wAsg, wgName, wIfS, wB, wOp, wVar, wC, wCall, wCallK, wCons, wNil, wRet, wRetN, wDrop, wTup, wLst, wIf, wAnd, wOr, wNot, wAndV, wOrV, wNotV, wNeg, wChain, fI, fI0, addD, fLt, fLe, fGt, fGe, fIsB, wCB, fAbs, f2I, fInt, fIsq, wPar, wPar3, permD, startE, List.map_cons, List.map_nil, List.cons_append, List.nil_append, List.append_nil, List.length_cons, List.length_nil, List.replicate, List.getElem?_cons_zero, List.getElem?_cons_succ, List.set_cons_zero, List.set_cons_succ, List.getD_cons_zero, List.getD_cons_succ, Nat.reduceAdd, Nat.reduceSub, Nat.zero_add, true_and, and_true, Bool.not_true, Bool.not_false, if_true, if_false, Bool.false_eq_true, reduceIte, decide_eq_true_eq, Bool.not_eq_true', decide_eq_false_iff_not, eqV_int, eqV_str, eqV_bl, decide_true, reduceCtorEq, not_true_eq_false, not_false_eq_true, Bool.not_eq_true, List.not_mem_nil, false_implies, implies_true, Int.reduceNeg, Int.reduceToNat, Int.reducePow, Int.reduceMul, Int.reduceAdd, draw_i]
    have hz := hmf (.lst [])
    refine ⟨cm_of (by decide) (by decide), (draw_i hz (by omega) (log_of (by omega) (by omega))).mpr fun j j0 j1 => ⟨by decide, pick_q hz rfl (by show 0 < 5; decide) (by show 5 ≤ 1000000; decide) fun x hx => ?_⟩⟩
    refine hK2 x ?_
    simp only [List.mem_cons, List.not_mem_nil, or_false] at hx
    rcases hx with rfl | rfl | rfl | rfl | rfl
    · exact ⟨_, rfl, by decide, by decide⟩
    · exact ⟨_, rfl, by decide, by decide⟩
    · exact ⟨_, rfl, by omega, by omega⟩
    · exact ⟨_, rfl, by omega, by omega⟩
    · exact ⟨_, rfl, by omega, by omega⟩
  · obtain ⟨mid, rfl, hmid⟩ := ints_of (R := fun b => -9900 ≤ b ∧ b ≤ 9900) (fun y hy => by
      obtain ⟨i, hi⟩ := List.mem_iff_getElem?.mp hy
      obtain ⟨_, _, h⟩ := hy2 i y hi
      exact h)
    rw [intsD_len, List.length_map, Int.toNat_natCast] at hy1
    rw [List.nil_append]
    clear hy2
    subst hK
    refine seq_gen fun K hK => ?_
    refine for_gen fun B hB => ?_
    simp (disch := first | assumption | decide) only [wSeq, wNext, wAsg, wgName, wIfS, wB, wOp, wVar, wC, wCall, wCallK, wCons, wNil, wRet, wRetN, wDrop, wTup, wLst, wIf, wAnd, wOr, wNot, wAndV, wOrV, wNotV, wNeg, wChain, fI, fI0, addD, fLt, fLe, fGt, fGe, fIsB, wCB, fAbs, f2I, fInt, fIsq, wPar, wPar3, permD, startE, List.map_cons, List.map_nil, List.cons_append, List.nil_append, List.append_nil, List.length_cons, List.length_nil, List.replicate, List.getElem?_cons_zero, List.getElem?_cons_succ, List.set_cons_zero, List.set_cons_succ, List.getD_cons_zero, List.getD_cons_succ, Nat.reduceAdd, Nat.reduceSub, Nat.zero_add, true_and, and_true, Bool.not_true, Bool.not_false, if_true, if_false, Bool.false_eq_true, reduceIte, decide_eq_true_eq, Bool.not_eq_true', decide_eq_false_iff_not, eqV_int, eqV_str, eqV_bl, decide_true, reduceCtorEq, not_true_eq_false, not_false_eq_true, Bool.not_eq_true, List.not_mem_nil, false_implies, implies_true, Int.reduceNeg, Int.reduceToNat, Int.reducePow, Int.reduceMul, Int.reduceAdd, draw_i, wFor, wiRange1]
    refine ⟨by omega, by omega, ?_⟩
    rw [Int.toNat_natCast]
    refine loop_ix (fun i ρ' M' => ∃ vs : List (List Int), M' = setM M f (.lst (vs.map vec)) ∧ vs.length = i ∧ (∀ v ∈ vs, v.length = p ∧ ∀ b ∈ v, -9900 ≤ b ∧ b ≤ 9900) ∧ i ≤ m ∧
      ∃ v4 v7 v8 : Option D, ρ' = [some (.tok a), some (.int (p : Int)), some (.int (m : Int)), some (.lst (mid.map .int)), v4, some (.int far), some (.tok f), v7, v8, none, none]) ?_ ?_ ⟨[], rfl, rfl, (fun v hv => by cases hv), Nat.zero_le _, none, none, none, rfl⟩
    · rintro i d ρ' M' hi ⟨vs, rfl, hl, hvs, him, v4, v7, v8, rfl⟩
      obtain ⟨li, rfl⟩ := intsD_get hi
      refine ⟨True.intro, fun K' hK' => ?_⟩
      have hz := hmf (.lst (vs.map vec))
      obtain ⟨t, et⟩ : ∃ t : D, t = .int (0 + (i : Int)) := ⟨_, rfl⟩
      rw [← et]
      simp only [wgName, List.set_cons_succ, List.set_cons_zero]
      subst hB
      refine seq_gen fun K2 hK2 => ?_
      simp (disch := first | assumption | decide) only [wSeq, wNext, wAsg, wgName, wIfS, wB, wOp, wVar, wC, wCall, wCallK, wCons, wNil, wRet, wRetN, wDrop, wTup, wLst, wIf, wAnd, wOr, wNot, wAndV, wOrV, wNotV, wNeg, wChain, fI, fI0, addD, fLt, fLe, fGt, fGe, fIsB, wCB, fAbs, f2I, fInt, fIsq, wPar, wPar3, permD, startE, List.map_cons, List.map_nil, List.cons_append, List.nil_append, List.append_nil, List.length_cons, List.length_nil, List.replicate, List.getElem?_cons_zero, List.getElem?_cons_succ, List.set_cons_zero, List.set_cons_succ, List.getD_cons_zero, List.getD_cons_succ, Nat.reduceAdd, Nat.reduceSub, Nat.zero_add, true_and, and_true, Bool.not_true, Bool.not_false, if_true, if_false, Bool.false_eq_true, reduceIte, decide_eq_true_eq, Bool.not_eq_true', decide_eq_false_iff_not, eqV_int, eqV_str, eqV_bl, decide_true, reduceCtorEq, not_true_eq_false, not_false_eq_true, Bool.not_eq_true, List.not_mem_nil, false_implies, implies_true, Int.reduceNeg, Int.reduceToNat, Int.reducePow, Int.reduceMul, Int.reduceAdd, draw_i]
      refine ⟨by decide, pick_q hz rfl (by show 0 < 3; decide) (by show 3 ≤ 1000000; decide) fun x hx => ?_⟩
      obtain ⟨near, rfl, n0, n1⟩ : ∃ near : Int, x = .int near ∧ 1 ≤ near ∧ near ≤ 9900 := by
        simp only [List.mem_cons, List.not_mem_nil, or_false] at hx
        rcases hx with rfl | rfl | rfl
        · exact ⟨_, rfl, by omega, by omega⟩
        · exact ⟨_, rfl, by decide, by decide⟩
        · exact ⟨_, rfl, by decide, by decide⟩
      subst hK2
      refine seq_gen fun K2 hK2 => ?_
      simp (disch := first | assumption | decide) only [wSeq, wNext, wAsg, wgName, wIfS, wB, wOp, wVar, wC, wCall, wCallK, wCons, wNil, wRet, wRetN, wDrop, wTup, wLst, wIf, wAnd, wOr, wNot, wAndV, wOrV, wNotV, wNeg, wChain, fI, fI0, addD, fLt, fLe, fGt, fGe, fIsB, wCB, fAbs, f2I, fInt, fIsq, wPar, wPar3, permD, startE, List.map_cons, List.map_nil, List.cons_append, List.nil_append, List.append_nil, List.length_cons, List.length_nil, List.replicate, List.getElem?_cons_zero, List.getElem?_cons_succ, List.set_cons_zero, List.set_cons_succ, List.getD_cons_zero, List.getD_cons_succ, Nat.reduceAdd, Nat.reduceSub, Nat.zero_add, true_and, and_true, Bool.not_true, Bool.not_false, if_true, if_false, Bool.false_eq_true, reduceIte, decide_eq_true_eq, Bool.not_eq_true', decide_eq_false_iff_not, eqV_int, eqV_str, eqV_bl, decide_true, reduceCtorEq, not_true_eq_false, not_false_eq_true, Bool.not_eq_true, List.not_mem_nil, false_implies, implies_true, Int.reduceNeg, Int.reduceToNat, Int.reducePow, Int.reduceMul, Int.reduceAdd, draw_i, wLc, wiSeq, wipeE]
      refine lc_any (fun _ y => ∃ b : Int, y = .int b ∧ -9900 ≤ b ∧ b ≤ 9900) True.intro _ [] ?_ (fun d hd K3 hK3 => ?_) fun zs hz1 hz2 => ?_
      · rw [List.length_map]
        simp only [List.length_nil]
        omega
      · obtain ⟨c, hc, rfl⟩ := List.mem_map.mp hd
        have hcb := hmid c hc
        simp (disch := first | assumption | decide) only [wSeq, wNext, wAsg, wgName, wIfS, wB, wOp, wVar, wC, wCall, wCallK, wCons, wNil, wRet, wRetN, wDrop, wTup, wLst, wIf, wAnd, wOr, wNot, wAndV, wOrV, wNotV, wNeg, wChain, fI, fI0, addD, fLt, fLe, fGt, fGe, fIsB, wCB, fAbs, f2I, fInt, fIsq, wPar, wPar3, permD, startE, List.map_cons, List.map_nil, List.cons_append, List.nil_append, List.append_nil, List.length_cons, List.length_nil, List.replicate, List.getElem?_cons_zero, List.getElem?_cons_succ, List.set_cons_zero, List.set_cons_succ, List.getD_cons_zero, List.getD_cons_succ, Nat.reduceAdd, Nat.reduceSub, Nat.zero_add, true_and, and_true, Bool.not_true, Bool.not_false, if_true, if_false, Bool.false_eq_true, reduceIte, decide_eq_true_eq, Bool.not_eq_true', decide_eq_false_iff_not, eqV_int, eqV_str, eqV_bl, decide_true, reduceCtorEq, not_true_eq_false, not_false_eq_true, Bool.not_eq_true, List.not_mem_nil, false_implies, implies_true, Int.reduceNeg, Int.reduceToNat, Int.reducePow, Int.reduceMul, Int.reduceAdd, draw_i]
        refine ⟨cm_of (by decide) (by decide), (draw_i hz (by omega) (log_of (by omega) (by omega))).mpr fun j j0 j1 => ?_⟩
        refine hK3 _ ⟨_, rfl, ?_, ?_⟩
        · split <;> split <;> omega
        · split <;> split <;> omega
      · obtain ⟨w, rfl, hw⟩ := ints_of (R := fun b => -9900 ≤ b ∧ b ≤ 9900) (fun y hy => by
          obtain ⟨i, hi⟩ := List.mem_iff_getElem?.mp hy
          obtain ⟨_, _, h⟩ := hz2 i y hi
          exact h)
        rw [List.length_map, List.length_map, hy1] at hz1
        rw [List.nil_append]
        clear hz2
        subst hK2
        -- what is appended
        have fin : ∀ v : List Int, v.length = p → (∀ b ∈ v, -9900 ≤ b ∧ b ≤ 9900) → K' [some (.tok a), some (.int (p : Int)), some (.int (m : Int)), some (.lst (mid.map .int)), some t, some (.int far), some (.tok f), some (.int near), some (.lst (w.map .int)), none, none] (setM M f (.lst ((vs ++ [v]).map vec))) := fun v h1 h2 =>
          hK' _ _ ⟨vs ++ [v], rfl, by rw [List.length_append, hl]; rfl, fun u hu => by
            rcases List.mem_append.mp hu with z | z
            · exact hvs u z
            · rw [List.mem_singleton.mp z]
              exact ⟨h1, h2⟩, li, _, _, _, rfl⟩
        have app : ∀ v : List Int, v.length = p → (∀ b ∈ v, -9900 ≤ b ∧ b ≤ 9900) → ∃ es, setM M f (.lst (vs.map vec)) f = some (.lst es) ∧ es.length < sizeLine ∧ K' [some (.tok a), some (.int (p : Int)), some (.int (m : Int)), some (.lst (mid.map .int)), some t, some (.int far), some (.tok f), some (.int near), some (.lst (w.map .int)), none, none] (setM (setM M f (.lst (vs.map vec))) f (.lst (es ++ [vec v]))) := fun v h1 h2 => by
          refine ⟨vs.map vec, setM_same, ?_, ?_⟩
          · rw [List.length_map]
            exact Nat.lt_of_le_of_lt (by omega : vs.length ≤ 12) (by decide)
          · have z := fin v h1 h2
            rw [List.map_append] at z
            rw [set_set]
            exact z
        simp (disch := first | assumption | decide) only [wSeq, wNext, wAsg, wgName, wIfS, wB, wOp, wVar, wC, wCall, wCallK, wCons, wNil, wRet, wRetN, wDrop, wTup, wLst, wIf, wAnd, wOr, wNot, wAndV, wOrV, wNotV, wNeg, wChain, fI, fI0, addD, fLt, fLe, fGt, fGe, fIsB, wCB, fAbs, f2I, fInt, fIsq, wPar, wPar3, permD, startE, List.map_cons, List.map_nil, List.cons_append, List.nil_append, List.append_nil, List.length_cons, List.length_nil, List.replicate, List.getElem?_cons_zero, List.getElem?_cons_succ, List.set_cons_zero, List.set_cons_succ, List.getD_cons_zero, List.getD_cons_succ, Nat.reduceAdd, Nat.reduceSub, Nat.zero_add, true_and, and_true, Bool.not_true, Bool.not_false, if_true, if_false, Bool.false_eq_true, reduceIte, decide_eq_true_eq, Bool.not_eq_true', decide_eq_false_iff_not, eqV_int, eqV_str, eqV_bl, decide_true, reduceCtorEq, not_true_eq_false, not_false_eq_true, Bool.not_eq_true, List.not_mem_nil, false_implies, implies_true, Int.reduceNeg, Int.reduceToNat, Int.reducePow, Int.reduceMul, Int.reduceAdd, draw_i, wApp, fTuple]
        refine ⟨⟨_, setM_same⟩, by decide, ?_⟩
        have er : res (setM M f (.lst (vs.map vec))) (.tok f) = .lst (vs.map vec) := by
          show (match setM M f (.lst (vs.map vec)) f with | some (.lst ds) => D.lst ds | _ => .tok f) = _
          rw [setM_same]
        have f1 : fit 4 (.lst (vs.map vec)) := by
          simp [fit, vec]
        have f2 : fit 4 (.lst []) := by
          simp [fit]
        refine eqV_tl.mpr ?_
        unfold eqD2
        rw [er]
        refine ⟨⟨4, by decide, f1, f2⟩, ?_⟩
        have eb : eqD (.lst (vs.map vec)) (res (setM M f (.lst (vs.map vec))) (.lst [])) = decide (vs = []) := by
          cases vs with
          | nil => rfl
          | cons v vs => rfl
        rw [eb]
        have own : ∃ es, seqD (setM M f (.lst (vs.map vec))) (.lst (w.map .int)) = some es ∧ ∃ es_1, setM M f (.lst (vs.map vec)) f = some (.lst es_1) ∧ es_1.length < sizeLine ∧ K' [some (.tok a), some (.int (p : Int)), some (.int (m : Int)), some (.lst (mid.map .int)), some t, some (.int far), some (.tok f), some (.int near), some (.lst (w.map .int)), none, none] (setM (setM M f (.lst (vs.map vec))) f (.lst (es_1 ++ [.tup es]))) := ⟨_, rfl, app w hz1 hw⟩
        by_cases hv : vs = []
        · rw [decide_eq_true hv]
          exact own
        · rw [decide_eq_false hv]
          simp (disch := first | assumption | decide) only [wSeq, wNext, wAsg, wgName, wIfS, wB, wOp, wVar, wC, wCall, wCallK, wCons, wNil, wRet, wRetN, wDrop, wTup, wLst, wIf, wAnd, wOr, wNot, wAndV, wOrV, wNotV, wNeg, wChain, fI, fI0, addD, fLt, fLe, fGt, fGe, fIsB, wCB, fAbs, f2I, fInt, fIsq, wPar, wPar3, permD, startE, List.map_cons, List.map_nil, List.cons_append, List.nil_append, List.append_nil, List.length_cons, List.length_nil, List.replicate, List.getElem?_cons_zero, List.getElem?_cons_succ, List.set_cons_zero, List.set_cons_succ, List.getD_cons_zero, List.getD_cons_succ, Nat.reduceAdd, Nat.reduceSub, Nat.zero_add, true_and, and_true, Bool.not_true, Bool.not_false, if_true, if_false, Bool.false_eq_true, reduceIte, decide_eq_true_eq, Bool.not_eq_true', decide_eq_false_iff_not, eqV_int, eqV_str, eqV_bl, decide_true, reduceCtorEq, not_true_eq_false, not_false_eq_true, Bool.not_eq_true, List.not_mem_nil, false_implies, implies_true, Int.reduceNeg, Int.reduceToNat, Int.reducePow, Int.reduceMul, Int.reduceAdd, draw_i]
          intro j j0 j1
          split
          · exact own
          · refine pick_q hz (es := vs.map vec) ?_ ?_ ?_ fun x hx => ?_
            · show (match setM M f (.lst (vs.map vec)) f with | some (.lst ds) => some ds | _ => none) = _
              rw [setM_same]
            · rw [List.length_map]
              exact List.length_pos_iff.mpr hv
            · rw [List.length_map]
              omega
            · obtain ⟨v, hvm, rfl⟩ := List.mem_map.mp hx
              exact app v (hvs v hvm).1 (hvs v hvm).2
    · rintro ρ' M' ⟨vs, rfl, hl, hvs, him, v4, v7, v8, rfl⟩
      rw [intsD_len] at hl
      refine ⟨True.intro, ?_⟩
      show K _ _
      subst hK
      simp (disch := first | assumption | decide) only [wSeq, wNext, wAsg, wgName, wIfS, wB, wOp, wVar, wC, wCall, wCallK, wCons, wNil, wRet, wRetN, wDrop, wTup, wLst, wIf, wAnd, wOr, wNot, wAndV, wOrV, wNotV, wNeg, wChain, fI, fI0, addD, fLt, fLe, fGt, fGe, fIsB, wCB, fAbs, f2I, fInt, fIsq, wPar, wPar3, permD, startE, List.map_cons, List.map_nil, List.cons_append, List.nil_append, List.append_nil, List.length_cons, List.length_nil, List.replicate, List.getElem?_cons_zero, List.getElem?_cons_succ, List.set_cons_zero, List.set_cons_succ, List.getD_cons_zero, List.getD_cons_succ, Nat.reduceAdd, Nat.reduceSub, Nat.zero_add, true_and, and_true, Bool.not_true, Bool.not_false, if_true, if_false, Bool.false_eq_true, reduceIte, decide_eq_true_eq, Bool.not_eq_true', decide_eq_false_iff_not, eqV_int, eqV_str, eqV_bl, decide_true, reduceCtorEq, not_true_eq_false, not_false_eq_true, Bool.not_eq_true, List.not_mem_nil, false_implies, implies_true, Int.reduceNeg, Int.reduceToNat, Int.reducePow, Int.reduceMul, Int.reduceAdd, draw_i, wRetF, setM_same]
      rw [del_set hf]
      exact q vs hl hvs
end K03
namespace K03
open PySem L2 L3
theorem nums_range (p : Nat) : intsD 0 p = nums (List.range p) := by
  unfold intsD nums
  refine List.map_congr_left fun i _ => ?_
  rw [Int.zero_add]
theorem nums_get {l : List Nat} {i : Nat} {x : Nat} (h : l[i]? = some x) : (nums l)[i]? = some (.int (x : Int)) := by
  unfold nums
  rw [List.getElem?_map, h]
  rfl
theorem atI_nums {l : List Nat} {i : Nat} (h : i < l.length) : atI (nums l) (i : Int) = some (.int (l[i] : Int)) := by
  unfold atI ixN nums
  simp [h]
theorem nums_set (l : List Nat) (i x : Nat) : (nums l).set i (.int (x : Int)) = nums (l.set i x) := by
  unfold nums
  rw [List.map_set]
theorem flat_set {l x : List Nat} {y : Nat} : ∀ {ls : List (List Nat)} {i : Nat}, ls[i]? = some l → ((ls.set i (l ++ [y])).flatten).Perm (ls.flatten ++ [y])
  | [], i, h => by simp at h
  | m :: ls, 0, h => by
    obtain rfl : m = l := Option.some.inj h
    rw [List.set_cons_zero, List.flatten_cons, List.flatten_cons, List.append_assoc, List.append_assoc]
    exact List.Perm.append_left m List.perm_append_comm
  | m :: ls, i + 1, h => by
    rw [List.set_cons_succ, List.flatten_cons, List.flatten_cons, List.append_assoc]
    exact List.Perm.append_left m (flat_set (x := x) (ls := ls) (i := i) h)
/-- the store while lots are made -/
structure Lots (M : Mp) (a a0 o : Addr) (ord : List Nat) (qs : List Addr) (ls : List (List Nat)) : Prop where
  ha : M a = some (.drw a0)
  ho : M o = some (.lst (nums ord))
  len : ls.length = qs.length
  nd : qs.Nodup
  no : o ∉ qs
  get : ∀ (i : Nat) (q : Addr) (l : List Nat), qs[i]? = some q → ls[i]? = some l → M q = some (.lst (nums l))
theorem Lots.na {M : Mp} {a a0 o : Addr} {ord : List Nat} {qs : List Addr} {ls : List (List Nat)} (h : Lots M a a0 o ord qs ls) : a ∉ qs := fun z => by
  obtain ⟨i, hi⟩ := List.mem_iff_getElem?.mp z
  have li := (List.getElem?_eq_some_iff.mp hi).1
  have e := h.get i a _ hi (List.getElem?_eq_getElem (by rw [h.len]; exact li))
  rw [h.ha] at e
  cases e
theorem Lots.new {M : Mp} {a a0 o q : Addr} {ord : List Nat} {qs : List Addr} {ls : List (List Nat)} (h : Lots M a a0 o ord qs ls) (hq : M q = none) : Lots (setM M q (.lst [])) a a0 o ord (qs ++ [q]) (ls ++ [[]]) := by
  have nq : ∀ b c, M b = some c → b ≠ q := fun b c e z => by
    rw [z, hq] at e
    cases e
  have qn : q ∉ qs := fun z => by
    obtain ⟨i, hi⟩ := List.mem_iff_getElem?.mp z
    have li := (List.getElem?_eq_some_iff.mp hi).1
    have e := h.get i q _ hi (List.getElem?_eq_getElem (by rw [h.len]; exact li))
    rw [hq] at e
    cases e
  refine ⟨by rw [setM_ne (nq _ _ h.ha)]; exact h.ha, by rw [setM_ne (nq _ _ h.ho)]; exact h.ho, by simp [h.len], ?_, fun z => ?_, fun i r l h1 h2 => ?_⟩
  · rw [List.nodup_append]
    refine ⟨h.nd, by simp, fun b hb c hc => ?_⟩
    rw [List.mem_singleton.mp hc]
    exact fun z => qn (z ▸ hb)
  · rcases List.mem_append.mp z with z | z
    · exact h.no z
    · exact nq _ _ h.ho (List.mem_singleton.mp z)
  · by_cases hi : i < qs.length
    · rw [List.getElem?_append_left hi] at h1
      rw [List.getElem?_append_left (by rw [h.len]; exact hi)] at h2
      have e := h.get i r l h1 h2
      rw [setM_ne (nq _ _ e)]
      exact e
    · rw [List.getElem?_append_right (by omega)] at h1
      rw [List.getElem?_append_right (by rw [h.len]; omega)] at h2
      have e0 : i - qs.length = 0 := by
        have z := (List.getElem?_eq_some_iff.mp h1).1
        simp at z
        omega
      rw [e0] at h1
      rw [h.len, e0] at h2
      obtain rfl : q = r := Option.some.inj h1
      obtain rfl : [] = l := Option.some.inj h2
      exact setM_same
theorem Lots.app {M : Mp} {a a0 o q : Addr} {ord : List Nat} {qs : List Addr} {ls : List (List Nat)} {i y : Nat} {l : List Nat} (h : Lots M a a0 o ord qs ls) (hq : qs[i]? = some q) (hl : ls[i]? = some l) : Lots (setM M q (.lst (nums (l ++ [y])))) a a0 o ord qs (ls.set i (l ++ [y])) := by
  have hm := List.mem_of_getElem? hq
  have naq : a ≠ q := fun z => h.na (by rw [z]; exact hm)
  have noq : o ≠ q := fun z => h.no (by rw [z]; exact hm)
  refine ⟨by rw [setM_ne naq]; exact h.ha, by rw [setM_ne noq]; exact h.ho, by rw [List.length_set]; exact h.len, h.nd, h.no, fun j r m h1 h2 => ?_⟩
  by_cases e : j = i
  · subst e
    rw [hq] at h1
    obtain rfl : q = r := Option.some.inj h1
    rw [List.getElem?_set_self (List.getElem?_eq_some_iff.mp hl).1] at h2
    obtain rfl := Option.some.inj h2
    exact setM_same
  · rw [List.getElem?_set_ne (Ne.symm e)] at h2
    have er := h.get j r m h1 h2
    have nr : r ≠ q := fun z => by
      subst z
      have l1 := (List.getElem?_eq_some_iff.mp h1)
      have l2 := (List.getElem?_eq_some_iff.mp hq)
      obtain ⟨b1, c1⟩ := l1
      obtain ⟨b2, c2⟩ := l2
      rcases Nat.lt_or_gt_of_ne e with z | z
      · exact (List.pairwise_iff_getElem.mp h.nd) j i b1 b2 z (c1.trans c2.symm)
      · exact (List.pairwise_iff_getElem.mp h.nd) i j b2 b1 z (c2.trans c1.symm)
    rw [setM_ne nr]
    exact er
theorem lots_new {ρ : En} {Q : KD} {a a0 o : Addr} {ord : List Nat} : ∀ (ds : List D) (qs : List Addr) (ls : List (List Nat)) (M : Mp), qs.length + ds.length ≤ 3 → Lots M a a0 o ord qs ls → ls.flatten = [] →
    (∀ (M' : Mp) (qs' : List Addr) (ls : List (List Nat)), qs'.length = qs.length + ds.length → Lots M' a a0 o ord qs' ls → ls.flatten = [] → Q (.lst (qs'.map .tok)) M') →
    wLcL (wgName 3) wYes (wLstM wNil) AnyM ρ ds (qs.map .tok) M Q
  | [], qs, ls, M, hl, h, hf, q => ⟨True.intro, q M qs ls (by simp) h hf⟩
  | d :: ds, qs, ls, M, hl, h, hf, q => by
    rw [List.length_cons] at hl
    refine ⟨True.intro, by rw [List.length_map]; exact Nat.lt_of_le_of_lt (by omega : qs.length ≤ 3) (by decide), ?_⟩
    refine ⟨Nat.zero_le _, fun t ht => ?_⟩
    have e : qs.map D.tok ++ [.tok t] = (qs ++ [t]).map .tok := by rw [List.map_append]; rfl
    show wLcL _ _ _ _ _ ds (qs.map D.tok ++ [.tok t]) _ Q
    rw [e]
    exact lots_new ds (qs ++ [t]) (ls ++ [[]]) _ (by rw [List.length_append, List.length_singleton]; omega) (h.new ht) (by rw [List.flatten_append, hf]; rfl) fun M' qs' ls' e => q M' qs' ls' (by rw [e, List.length_append, List.length_singleton, List.length_cons]; omega)
theorem seq_tok {M : Mp} {o : Addr} {L : List D} : seqD (setM M o (.lst L)) (.tok o) = some L := by
  show (match setM M o (.lst L) o with | some (.lst ds) => some ds | _ => none) = some L
  rw [setM_same]
theorem ixN_nat {n j : Nat} (h : j < n) : ixN n (j : Int) = some j := by
  unfold ixN
  simp [h]
theorem flat_le {l : List Nat} : ∀ {ls : List (List Nat)}, l ∈ ls → l.length ≤ ls.flatten.length
  | m :: ls, h => by
    rw [List.flatten_cons, List.length_append]
    rcases List.mem_cons.mp h with rfl | h
    · omega
    · have := flat_le h
      omega
theorem wp__law_lots : ∀ ds M Q R, F__law_lots ds M Q R → W__law_lots { nx := fun _ M' => Q .non M', rt := Q, xr := R } (startE 9 ds) M := by
  rintro ds M Q R ⟨a, a0, p, rfl, hm, p0, p1, q⟩
  unfold W__law_lots
  refine seq_gen fun K hK => ?_
  simp (disch := first | assumption | decide) only [wSeq, wNext, wAsg, wgName, wIfS, wB, wOp, wVar, wC, wCall, wCallK, wCons, wNil, wRet, wRetN, wDrop, wTup, wLst, wIf, wAnd, wOr, wNot, wAndV, wOrV, wNotV, wNeg, wChain, fI, fI0, addD, fLt, fLe, fGt, fGe, fIsB, wCB, fAbs, f2I, fInt, fIsq, wPar, wPar3, permD, startE, List.map_cons, List.map_nil, List.cons_append, List.nil_append, List.append_nil, List.length_cons, List.length_nil, List.replicate, List.getElem?_cons_zero, List.getElem?_cons_succ, List.set_cons_zero, List.set_cons_succ, List.getD_cons_zero, List.getD_cons_succ, Nat.reduceAdd, Nat.reduceSub, Nat.zero_add, true_and, and_true, Bool.not_true, Bool.not_false, if_true, if_false, Bool.false_eq_true, reduceIte, decide_eq_true_eq, Bool.not_eq_true', decide_eq_false_iff_not, eqV_int, eqV_str, eqV_bl, decide_true, reduceCtorEq, not_true_eq_false, not_false_eq_true, Bool.not_eq_true, List.not_mem_nil, false_implies, implies_true, Int.reduceNeg, Int.reduceToNat, Int.reducePow, Int.reduceMul, Int.reduceAdd, draw_i, wListRg]
  refine ⟨⟨by decide, by decide, by omega, by omega, by omega⟩, fun o ho => ?_⟩
  rw [Int.toNat_natCast, nums_range]
  have nao : a ≠ o := fun z => by
    rw [z, ho] at hm
    cases hm
  have hmo : ∀ c, setM M o c a = some (.drw a0) := fun c => by
    rw [setM_ne nao]
    exact hm
  subst hK
  refine seq_gen fun K hK => ?_
  refine for_gen fun B hB => ?_
  simp (disch := first | assumption | decide) only [wSeq, wNext, wAsg, wgName, wIfS, wB, wOp, wVar, wC, wCall, wCallK, wCons, wNil, wRet, wRetN, wDrop, wTup, wLst, wIf, wAnd, wOr, wNot, wAndV, wOrV, wNotV, wNeg, wChain, fI, fI0, addD, fLt, fLe, fGt, fGe, fIsB, wCB, fAbs, f2I, fInt, fIsq, wPar, wPar3, permD, startE, List.map_cons, List.map_nil, List.cons_append, List.nil_append, List.append_nil, List.length_cons, List.length_nil, List.replicate, List.getElem?_cons_zero, List.getElem?_cons_succ, List.set_cons_zero, List.set_cons_succ, List.getD_cons_zero, List.getD_cons_succ, Nat.reduceAdd, Nat.reduceSub, Nat.zero_add, true_and, and_true, Bool.not_true, Bool.not_false, if_true, if_false, Bool.false_eq_true, reduceIte, decide_eq_true_eq, Bool.not_eq_true', decide_eq_false_iff_not, eqV_int, eqV_str, eqV_bl, decide_true, reduceCtorEq, not_true_eq_false, not_false_eq_true, Bool.not_eq_true, List.not_mem_nil, false_implies, implies_true, Int.reduceNeg, Int.reduceToNat, Int.reducePow, Int.reduceMul, Int.reduceAdd, draw_i, wFor, wiRange1]
  refine ⟨by omega, by omega, ?_⟩
  refine loop_ix (fun i ρ' M' => ∃ ord : List Nat, M' = setM M o (.lst (nums ord)) ∧ ord.Perm (List.range p) ∧ ∃ v3 v6 v7 : Option D, ρ' = [some (.tok a), some (.int (p : Int)), some (.tok o), v3, none, none, v6, v7, none]) ?_ ?_ ⟨List.range p, rfl, .refl _, none, none, none, rfl⟩
  · rintro i d ρ' M' hi ⟨ord, rfl, hord, v3, v6, v7, rfl⟩
    refine ⟨True.intro, fun K' hK' => ?_⟩
    have hz := hmo (.lst (nums ord))
    have lo : ord.length = p := by rw [hord.length_eq, List.length_range]
    simp only [wgName, List.set_cons_succ, List.set_cons_zero]
    subst hB
    refine seq_gen fun K2 hK2 => ?_
    simp (disch := first | assumption | decide) only [wSeq, wNext, wAsg, wgName, wIfS, wB, wOp, wVar, wC, wCall, wCallK, wCons, wNil, wRet, wRetN, wDrop, wTup, wLst, wIf, wAnd, wOr, wNot, wAndV, wOrV, wNotV, wNeg, wChain, fI, fI0, addD, fLt, fLe, fGt, fGe, fIsB, wCB, fAbs, f2I, fInt, fIsq, wPar, wPar3, permD, startE, List.map_cons, List.map_nil, List.cons_append, List.nil_append, List.append_nil, List.length_cons, List.length_nil, List.replicate, List.getElem?_cons_zero, List.getElem?_cons_succ, List.set_cons_zero, List.set_cons_succ, List.getD_cons_zero, List.getD_cons_succ, Nat.reduceAdd, Nat.reduceSub, Nat.zero_add, true_and, and_true, Bool.not_true, Bool.not_false, if_true, if_false, Bool.false_eq_true, reduceIte, decide_eq_true_eq, Bool.not_eq_true', decide_eq_false_iff_not, eqV_int, eqV_str, eqV_bl, decide_true, reduceCtorEq, not_true_eq_false, not_false_eq_true, Bool.not_eq_true, List.not_mem_nil, false_implies, implies_true, Int.reduceNeg, Int.reduceToNat, Int.reducePow, Int.reduceMul, Int.reduceAdd, draw_i]
    have pl : (p : Int).natAbs.log2 < 9000 := log_of (by omega) (by omega)
    refine (draw_i hz (by omega) pl).mpr fun j j0 j1 => (draw_i hz (by omega) pl).mpr fun l l0 l1 => ?_
    obtain ⟨j, rfl⟩ := Int.eq_ofNat_of_zero_le j0
    obtain ⟨l, rfl⟩ := Int.eq_ofNat_of_zero_le l0
    have hj : j < ord.length := by omega
    have hl : l < ord.length := by omega
    subst hK2
    simp (disch := first | assumption | decide) only [wSeq, wNext, wAsg, wgName, wIfS, wB, wOp, wVar, wC, wCall, wCallK, wCons, wNil, wRet, wRetN, wDrop, wTup, wLst, wIf, wAnd, wOr, wNot, wAndV, wOrV, wNotV, wNeg, wChain, fI, fI0, addD, fLt, fLe, fGt, fGe, fIsB, wCB, fAbs, f2I, fInt, fIsq, wPar, wPar3, permD, startE, List.map_cons, List.map_nil, List.cons_append, List.nil_append, List.append_nil, List.length_cons, List.length_nil, List.replicate, List.getElem?_cons_zero, List.getElem?_cons_succ, List.set_cons_zero, List.set_cons_succ, List.getD_cons_zero, List.getD_cons_succ, Nat.reduceAdd, Nat.reduceSub, Nat.zero_add, true_and, and_true, Bool.not_true, Bool.not_false, if_true, if_false, Bool.false_eq_true, reduceIte, decide_eq_true_eq, Bool.not_eq_true', decide_eq_false_iff_not, eqV_int, eqV_str, eqV_bl, decide_true, reduceCtorEq, not_true_eq_false, not_false_eq_true, Bool.not_eq_true, List.not_mem_nil, false_implies, implies_true, Int.reduceNeg, Int.reduceToNat, Int.reducePow, Int.reduceMul, Int.reduceAdd, draw_i, wgTup, wgCons, wgNil, wgSub]
    refine ⟨_, _, seq_tok, atI_nums hl, _, _, seq_tok, atI_nums hj, by decide, ?_⟩
    refine ⟨_, j, setM_same, ixN_nat (by unfold nums; rw [List.length_map]; exact hj), ?_⟩
    rw [set_set, nums_set]
    refine ⟨_, l, setM_same, ixN_nat (by unfold nums; rw [List.length_map, List.length_set]; exact hl), ?_⟩
    rw [set_set, nums_set]
    exact hK' _ _ ⟨_, rfl, (List.set_set_perm hj hl).trans hord, _, _, _, rfl⟩
  · rintro ρ' M' ⟨ord, rfl, hord, v3, v6, v7, rfl⟩
    refine ⟨True.intro, ?_⟩
    show K _ _
    subst hK
    refine seq_gen fun K hK => ?_
    simp (disch := first | assumption | decide) only [wSeq, wNext, wAsg, wgName, wIfS, wB, wOp, wVar, wC, wCall, wCallK, wCons, wNil, wRet, wRetN, wDrop, wTup, wLst, wIf, wAnd, wOr, wNot, wAndV, wOrV, wNotV, wNeg, wChain, fI, fI0, addD, fLt, fLe, fGt, fGe, fIsB, wCB, fAbs, f2I, fInt, fIsq, wPar, wPar3, permD, startE, List.map_cons, List.map_nil, List.cons_append, List.nil_append, List.append_nil, List.length_cons, List.length_nil, List.replicate, List.getElem?_cons_zero, List.getElem?_cons_succ, List.set_cons_zero, List.set_cons_succ, List.getD_cons_zero, List.getD_cons_succ, Nat.reduceAdd, Nat.reduceSub, Nat.zero_add, true_and, and_true, Bool.not_true, Bool.not_false, if_true, if_false, Bool.false_eq_true, reduceIte, decide_eq_true_eq, Bool.not_eq_true', decide_eq_false_iff_not, eqV_int, eqV_str, eqV_bl, decide_true, reduceCtorEq, not_true_eq_false, not_false_eq_true, Bool.not_eq_true, List.not_mem_nil, false_implies, implies_true, Int.reduceNeg, Int.reduceToNat, Int.reducePow, Int.reduceMul, Int.reduceAdd, draw_i, wLc, wiRange1, wipeE]
    refine (draw_i (n := 3) (hmo _) (by decide) (by decide)).mpr fun j j0 j1 => ⟨by omega, by omega, ?_⟩
    refine lots_new _ [] [] _ (by rw [intsD_len]; simp only [List.length_nil]; omega) (a := a) (a0 := a0) (o := o) (ord := ord) ⟨hmo _, setM_same, rfl, List.nodup_nil, (fun z => by cases z), fun i q l h => by simp at h⟩ rfl fun M' qs ls hq3 hL hf => ?_
    rw [intsD_len] at hq3
    have lo : ord.length = p := by rw [hord.length_eq, List.length_range]
    have q1 : 0 < qs.length := by
      simp only [List.length_nil] at hq3
      omega
    have q3 : qs.length ≤ 3 := by
      simp only [List.length_nil] at hq3
      omega
    clear hq3
    subst hK
    refine seq_gen fun K hK => ?_
    refine for_gen fun B hB => ?_
    simp (disch := first | assumption | decide) only [wSeq, wNext, wAsg, wgName, wIfS, wB, wOp, wVar, wC, wCall, wCallK, wCons, wNil, wRet, wRetN, wDrop, wTup, wLst, wIf, wAnd, wOr, wNot, wAndV, wOrV, wNotV, wNeg, wChain, fI, fI0, addD, fLt, fLe, fGt, fGe, fIsB, wCB, fAbs, f2I, fInt, fIsq, wPar, wPar3, permD, startE, List.map_cons, List.map_nil, List.cons_append, List.nil_append, List.append_nil, List.length_cons, List.length_nil, List.replicate, List.getElem?_cons_zero, List.getElem?_cons_succ, List.set_cons_zero, List.set_cons_succ, List.getD_cons_zero, List.getD_cons_succ, Nat.reduceAdd, Nat.reduceSub, Nat.zero_add, true_and, and_true, Bool.not_true, Bool.not_false, if_true, if_false, Bool.false_eq_true, reduceIte, decide_eq_true_eq, Bool.not_eq_true', decide_eq_false_iff_not, eqV_int, eqV_str, eqV_bl, decide_true, reduceCtorEq, not_true_eq_false, not_false_eq_true, Bool.not_eq_true, List.not_mem_nil, false_implies, implies_true, Int.reduceNeg, Int.reduceToNat, Int.reducePow, Int.reduceMul, Int.reduceAdd, draw_i, wFor, wiSeq]
    refine ⟨_, hL.ho, ?_⟩
    refine loop_ix (fun i ρ' M2 => ∃ ls : List (List Nat), Lots M2 a a0 o ord qs ls ∧ ls.flatten.Perm (ord.take i) ∧ ∃ v5 : Option D, ρ' = [some (.tok a), some (.int (p : Int)), some (.tok o), v3, some (.lst (qs.map .tok)), v5, v6, v7, none]) ?_ ?_ ⟨ls, hL, by rw [hf, List.take_zero], none, rfl⟩
    · rintro i d ρ' M2 hi ⟨ls, hL, hp, v5, rfl⟩
      refine ⟨hL.ho, fun K' hK' => ?_⟩
      obtain ⟨li, ed⟩ := List.getElem?_eq_some_iff.mp hi
      have li2 : i < ord.length := by
        unfold nums at li
        rw [List.length_map] at li
        exact li
      have ed2 : d = .int (ord[i] : Int) := by
        rw [nums_get (List.getElem?_eq_getElem li2)] at hi
        exact (Option.some.inj hi).symm
      subst ed2
      simp only [wgName, List.set_cons_succ, List.set_cons_zero]
      subst hB
      simp (disch := first | assumption | decide) only [wSeq, wNext, wAsg, wgName, wIfS, wB, wOp, wVar, wC, wCall, wCallK, wCons, wNil, wRet, wRetN, wDrop, wTup, wLst, wIf, wAnd, wOr, wNot, wAndV, wOrV, wNotV, wNeg, wChain, fI, fI0, addD, fLt, fLe, fGt, fGe, fIsB, wCB, fAbs, f2I, fInt, fIsq, wPar, wPar3, permD, startE, List.map_cons, List.map_nil, List.cons_append, List.nil_append, List.append_nil, List.length_cons, List.length_nil, List.replicate, List.getElem?_cons_zero, List.getElem?_cons_succ, List.set_cons_zero, List.set_cons_succ, List.getD_cons_zero, List.getD_cons_succ, Nat.reduceAdd, Nat.reduceSub, Nat.zero_add, true_and, and_true, Bool.not_true, Bool.not_false, if_true, if_false, Bool.false_eq_true, reduceIte, decide_eq_true_eq, Bool.not_eq_true', decide_eq_false_iff_not, eqV_int, eqV_str, eqV_bl, decide_true, reduceCtorEq, not_true_eq_false, not_false_eq_true, Bool.not_eq_true, List.not_mem_nil, false_implies, implies_true, Int.reduceNeg, Int.reduceToNat, Int.reducePow, Int.reduceMul, Int.reduceAdd, draw_i, wApp]
      refine pick_q hL.ha (es := qs.map .tok) rfl (by rw [List.length_map]; exact q1) (by rw [List.length_map]; omega) fun x hx => ?_
      obtain ⟨t, ht, rfl⟩ := List.mem_map.mp hx
      obtain ⟨n, hn⟩ := List.mem_iff_getElem?.mp ht
      have ln := (List.getElem?_eq_some_iff.mp hn).1
      have lb : n < ls.length := by rw [hL.len]; exact ln
      have el := List.getElem?_eq_getElem lb
      have em := hL.get n t _ hn el
      have bl : ls[n].length ≤ 8 := by
        have z := flat_le (List.mem_of_getElem? el)
        have y := hp.length_eq
        rw [List.length_take] at y
        omega
      refine ⟨⟨_, em⟩, _, em, ?_, ?_⟩
      · unfold nums
        rw [List.length_map]
        exact Nat.lt_of_le_of_lt bl (by decide)
      · have e2 : nums ls[n] ++ [D.int (ord[i] : Int)] = nums (ls[n] ++ [ord[i]]) := by
          unfold nums
          rw [List.map_append]
          rfl
        rw [e2]
        refine hK' _ _ ⟨_, hL.app hn el, ?_, _, rfl⟩
        refine (flat_set (x := []) el).trans ?_
        rw [List.take_succ, List.getElem?_eq_getElem li2]
        exact List.Perm.append_right _ hp
    · rintro ρ' M2 ⟨ls, hL, hp, v5, rfl⟩
      refine ⟨hL.ho, ?_⟩
      show K _ _
      have ln : (nums ord).length = ord.length := by unfold nums; rw [List.length_map]
      rw [ln, List.take_length] at hp
      subst hK
      simp (disch := first | assumption | decide) only [wSeq, wNext, wAsg, wgName, wIfS, wB, wOp, wVar, wC, wCall, wCallK, wCons, wNil, wRet, wRetN, wDrop, wTup, wLst, wIf, wAnd, wOr, wNot, wAndV, wOrV, wNotV, wNeg, wChain, fI, fI0, addD, fLt, fLe, fGt, fGe, fIsB, wCB, fAbs, f2I, fInt, fIsq, wPar, wPar3, permD, startE, List.map_cons, List.map_nil, List.cons_append, List.nil_append, List.append_nil, List.length_cons, List.length_nil, List.replicate, List.getElem?_cons_zero, List.getElem?_cons_succ, List.set_cons_zero, List.set_cons_succ, List.getD_cons_zero, List.getD_cons_succ, Nat.reduceAdd, Nat.reduceSub, Nat.zero_add, true_and, and_true, Bool.not_true, Bool.not_false, if_true, if_false, Bool.false_eq_true, reduceIte, decide_eq_true_eq, Bool.not_eq_true', decide_eq_false_iff_not, eqV_int, eqV_str, eqV_bl, decide_true, reduceCtorEq, not_true_eq_false, not_false_eq_true, Bool.not_eq_true, List.not_mem_nil, false_implies, implies_true, Int.reduceNeg, Int.reduceToNat, Int.reducePow, Int.reduceMul, Int.reduceAdd, draw_i, fTuple, wLc, wiSeq, wipeE]
      refine ⟨_, (by show (match M2 o with | some (.lst ds) => some ds | _ => none) = some (nums ord); rw [hL.ho]), ?_⟩
      refine lc_pure (fun d => match d with | .tok t => (match M2 t with | some (.lst ds) => .tup ds | _ => .non) | _ => .non) True.intro _ [] (by rw [List.length_map]; simp only [List.length_nil]; omega) (fun d hd K2 hK2 => ?_) ?_
      · obtain ⟨t, ht, rfl⟩ := List.mem_map.mp hd
        obtain ⟨n, hn⟩ := List.mem_iff_getElem?.mp ht
        have ln := (List.getElem?_eq_some_iff.mp hn).1
        have lb : n < ls.length := by rw [hL.len]; exact ln
        have el := List.getElem?_eq_getElem lb
        have em := hL.get n t _ hn el
        simp (disch := first | assumption | decide) only [wSeq, wNext, wAsg, wgName, wIfS, wB, wOp, wVar, wC, wCall, wCallK, wCons, wNil, wRet, wRetN, wDrop, wTup, wLst, wIf, wAnd, wOr, wNot, wAndV, wOrV, wNotV, wNeg, wChain, fI, fI0, addD, fLt, fLe, fGt, fGe, fIsB, wCB, fAbs, f2I, fInt, fIsq, wPar, wPar3, permD, startE, List.map_cons, List.map_nil, List.cons_append, List.nil_append, List.append_nil, List.length_cons, List.length_nil, List.replicate, List.getElem?_cons_zero, List.getElem?_cons_succ, List.set_cons_zero, List.set_cons_succ, List.getD_cons_zero, List.getD_cons_succ, Nat.reduceAdd, Nat.reduceSub, Nat.zero_add, true_and, and_true, Bool.not_true, Bool.not_false, if_true, if_false, Bool.false_eq_true, reduceIte, decide_eq_true_eq, Bool.not_eq_true', decide_eq_false_iff_not, eqV_int, eqV_str, eqV_bl, decide_true, reduceCtorEq, not_true_eq_false, not_false_eq_true, Bool.not_eq_true, List.not_mem_nil, false_implies, implies_true, Int.reduceNeg, Int.reduceToNat, Int.reducePow, Int.reduceMul, Int.reduceAdd, draw_i]
        dsimp only at hK2
        rw [em] at hK2
        exact ⟨_, (by show (match M2 t with | some (.lst ds) => some ds | _ => none) = some (nums ls[n]); rw [em]), hK2⟩
      · have e : (qs.map D.tok).map (fun d => match d with | .tok t => (match M2 t with | some (.lst ds) => D.tup ds | _ => .non) | _ => .non) = ls.map fun l => .tup (nums l) := by
          refine List.ext_getElem? fun n => ?_
          rw [List.getElem?_map, List.getElem?_map, List.getElem?_map]
          cases hn : qs[n]? with
          | none =>
            have : ls[n]? = none := List.getElem?_eq_none (by rw [hL.len]; exact List.getElem?_eq_none_iff.mp hn)
            rw [this]
            rfl
          | some t =>
            have ln := (List.getElem?_eq_some_iff.mp hn).1
            have lb : n < ls.length := by rw [hL.len]; exact ln
            have el := List.getElem?_eq_getElem lb
            rw [el]
            show some (match M2 t with | some (.lst ds) => D.tup ds | _ => .non) = _
            rw [hL.get n t _ hn el]
            rfl
        rw [List.nil_append, e]
        exact ⟨by decide, q M2 ord ls hL.ha hord (hp.trans hord) (by rw [hL.len]; exact q3)⟩
end K03
namespace K03
open PySem L2 L3
/-! ### distances by places -/
def gI (k : Str) (v u : List Int) (i : Nat) : Int := partI k (v.getD i 0 - u.getD i 0)
theorem sub_at (v u : List Int) (ps : List Nat) : subI (atI' v ps) (atI' u ps) = ps.map fun i => v.getD i 0 - u.getD i 0 := by
  unfold subI atI'
  induction ps with
  | nil => rfl
  | cons p ps ih => rw [List.map_cons, List.map_cons, List.zipWith_cons_cons, ih, List.map_cons]
theorem at_range (v : List Int) : atI' v (List.range v.length) = v := by
  unfold atI'
  refine List.ext_getElem? fun n => ?_
  rw [List.getElem?_map]
  by_cases h : n < v.length
  · rw [List.getElem?_range h, List.getElem?_eq_getElem h]
    show some (v.getD n 0) = _
    rw [List.getD_eq_getElem?_getD, List.getElem?_eq_getElem h]
    rfl
  · rw [List.getElem?_eq_none (by rw [List.length_range]; omega), List.getElem?_eq_none (by omega)]
    rfl
theorem dist_at (k : Str) (v u : List Int) (ps : List Nat) : distI k (atI' v ps) (atI' u ps) = joinI k (ps.map (gI k v u)) := by
  unfold distI
  rw [sub_at, List.map_map]
  rfl
theorem dist_all (k : Str) {v u : List Int} (h : v.length = u.length) : distI k v u = joinI k ((List.range v.length).map (gI k v u)) := by
  have e := dist_at k v u (List.range v.length)
  rw [at_range] at e
  rw [h, at_range] at e
  rw [h]
  exact e
theorem sum_perm {a b : List Int} (h : a.Perm b) : a.sum = b.sum := by
  induction h with
  | nil => rfl
  | cons x _ ih => rw [List.sum_cons, List.sum_cons, ih]
  | swap x y l =>
    rw [List.sum_cons, List.sum_cons, List.sum_cons, List.sum_cons]
    omega
  | trans _ _ i1 i2 => rw [i1, i2]
theorem mxI_perm {a b : List Int} (h : a.Perm b) : mxI a = mxI b := by
  induction h with
  | nil => rfl
  | cons x _ ih =>
    unfold mxI
    rw [ih]
  | swap x y l =>
    show (if mxI (x :: l) ≤ y then y else mxI (x :: l)) = (if mxI (y :: l) ≤ x then x else mxI (y :: l))
    unfold mxI
    split <;> split <;> (try split) <;> (try split) <;> omega
  | trans _ _ i1 i2 => rw [i1, i2]
theorem join_perm (k : Str) {a b : List Int} (h : a.Perm b) : joinI k a = joinI k b := by
  unfold joinI
  rw [mxI_perm h, sum_perm h]
theorem mxI_app (a b : List Int) : mxI (a ++ b) = if mxI b ≤ mxI a then mxI a else mxI b := by
  induction a with
  | nil =>
    have := mxI_pos b
    show mxI b = if mxI b ≤ 0 then 0 else mxI b
    split <;> omega
  | cons x a ih =>
    show (if mxI (a ++ b) ≤ x then x else mxI (a ++ b)) = if mxI b ≤ (if mxI a ≤ x then x else mxI a) then (if mxI a ≤ x then x else mxI a) else mxI b
    rw [ih]
    split <;> split <;> (try split) <;> (try split) <;> omega
theorem join_flat (k : Str) (f : List Nat → List Int) : ∀ ls : List (List Nat), joinI k (ls.map fun l => joinI k (f l)) = joinI k ((ls.map f).flatten)
  | [] => rfl
  | l :: ls => by
    have ih := join_flat k f ls
    rw [List.map_cons, List.map_cons, List.flatten_cons]
    unfold joinI at ih ⊢
    by_cases h : k = "most"
    · simp only [if_pos h] at ih ⊢
      rw [mxI_app, ← ih]
      rfl
    · simp only [if_neg h] at ih ⊢
      rw [List.sum_append, ← ih, List.sum_cons]
theorem join_le (k : Str) {a b : List Int} (hb : ∀ n ∈ b, 0 ≤ n) (ha : ∀ n ∈ a, 0 ≤ n) : joinI k a ≤ joinI k (a ++ b) ∧ joinI k b ≤ joinI k (a ++ b) := by
  unfold joinI
  split
  · rw [mxI_app]
    split <;> omega
  · rw [List.sum_append]
    have h1 : ∀ {l : List Int}, (∀ n ∈ l, 0 ≤ n) → 0 ≤ l.sum := fun {l} => by
      induction l with
      | nil => intro _; exact Int.le_refl 0
      | cons x l ih =>
        intro h
        have := ih fun n hn => h n (List.mem_cons_of_mem _ hn)
        have := h x List.mem_cons_self
        rw [List.sum_cons]
        omega
    have := h1 ha
    have := h1 hb
    omega
theorem join_mem (k : Str) (f : List Nat → List Int) (hf : ∀ l, ∀ n ∈ f l, 0 ≤ n) {l : List Nat} : ∀ {ls : List (List Nat)}, l ∈ ls → joinI k (f l) ≤ joinI k ((ls.map f).flatten)
  | m :: ls, h => by
    have hfl : ∀ n ∈ (ls.map f).flatten, 0 ≤ n := fun n hn => by
      obtain ⟨x, hx, hn⟩ := List.mem_flatten.mp hn
      obtain ⟨y, _, rfl⟩ := List.mem_map.mp hx
      exact hf y n hn
    rw [List.map_cons, List.flatten_cons]
    rcases List.mem_cons.mp h with rfl | h
    · exact (join_le k hfl (hf _)).1
    · exact Int.le_trans (join_mem k f hf h) (join_le k hfl (hf _)).2
theorem sum_nn : ∀ {l : List Int}, (∀ n ∈ l, 0 ≤ n) → 0 ≤ l.sum
  | [], _ => Int.le_refl 0
  | x :: l, h => by
    have h1 := sum_nn (l := l) fun n hn => h n (List.mem_cons_of_mem _ hn)
    have h2 := h x List.mem_cons_self
    rw [List.sum_cons]
    omega
theorem join_nn (k : Str) {a : List Int} (h : ∀ n ∈ a, 0 ≤ n) : 0 ≤ joinI k a := by
  unfold joinI
  split
  · exact mxI_pos a
  · exact sum_nn h
theorem join_zero (k : Str) {a : List Int} (h : ∀ n ∈ a, 0 ≤ n) : joinI k a = 0 ↔ ∀ n ∈ a, n = 0 := by
  induction a with
  | nil => exact ⟨fun _ n hn => (by cases hn), fun _ => (by unfold joinI; split <;> rfl)⟩
  | cons x a ih =>
    have ha : ∀ n ∈ a, 0 ≤ n := fun n hn => h n (List.mem_cons_of_mem _ hn)
    have ih := ih ha
    have hx := h x List.mem_cons_self
    have p0 := join_nn k ha
    have e : joinI k (x :: a) = 0 ↔ x = 0 ∧ joinI k a = 0 := by
      unfold joinI at p0 ⊢
      by_cases hk : k = "most"
      · simp only [if_pos hk] at p0 ⊢
        show (if mxI a ≤ x then x else mxI a) = 0 ↔ _
        split <;> omega
      · simp only [if_neg hk] at p0 ⊢
        rw [List.sum_cons]
        omega
    rw [e, ih]
    constructor
    · rintro ⟨h1, h2⟩ n hn
      rcases List.mem_cons.mp hn with rfl | hn
      · exact h1
      · exact h2 n hn
    · exact fun q => ⟨q x List.mem_cons_self, fun n hn => q n (List.mem_cons_of_mem _ hn)⟩
theorem part_zero (k : Str) (d : Int) : partI k d = 0 ↔ d = 0 := by
  unfold partI
  split
  · exact ⟨fun h => (Int.mul_eq_zero.mp h).elim id id, fun h => by rw [h]; rfl⟩
  · split
    · split <;> omega
    · split <;> omega
theorem part_nn (k : Str) (d : Int) : 0 ≤ partI k d := by
  unfold partI
  split
  · rcases Int.le_total 0 d with z | z
    · exact Int.mul_nonneg z z
    · exact Int.mul_nonneg_of_nonpos_of_nonpos z z
  · split
    · split <;> omega
    · split <;> omega
theorem dist_zero (k : Str) {v u : List Int} (h : v.length = u.length) : distI k v u = 0 ↔ v = u := by
  rw [dist_all k h, join_zero k fun n hn => by obtain ⟨i, _, rfl⟩ := List.mem_map.mp hn; exact part_nn k _]
  constructor
  · intro z
    refine List.ext_getElem? fun n => ?_
    by_cases hn : n < v.length
    · have y := z _ (List.mem_map.mpr ⟨n, List.mem_range.mpr hn, rfl⟩)
      have y2 := (part_zero k _).mp y
      rw [List.getD_eq_getElem?_getD, List.getD_eq_getElem?_getD, List.getElem?_eq_getElem hn, List.getElem?_eq_getElem (by omega : n < u.length)] at y2
      rw [List.getElem?_eq_getElem hn, List.getElem?_eq_getElem (by omega : n < u.length)]
      have y3 : v[n] - u[n] = 0 := y2
      congr 1
      omega
    · rw [List.getElem?_eq_none (by omega), List.getElem?_eq_none (by omega)]
  · rintro rfl n hn
    obtain ⟨i, _, rfl⟩ := List.mem_map.mp hn
    exact (part_zero k _).mpr (by omega)
theorem dist_comm (k : Str) {v u : List Int} (h : v.length = u.length) : distI k u v = distI k v u := by
  rw [dist_all k h.symm, dist_all k h, h]
  congr 1
  refine List.map_congr_left fun i _ => ?_
  unfold gI
  have e : u.getD i 0 - v.getD i 0 = -(v.getD i 0 - u.getD i 0) := by omega
  rw [e, part_neg]
theorem dist_bound (k : Str) {v u : List Int} (hv : sm v) (hu : sm u) : 0 ≤ distI k v u ∧ distI k v u ≤ 6400000000000000 := by
  have hs := small_parts (k := k) hv hu
  unfold distI joinI
  split
  · refine ⟨mxI_pos _, ?_⟩
    by_cases e : (subI v u).map (partI k) = []
    · rw [e]
      decide
    · have := hs.2 _ (mxI_mem (fun n hn => (hs.2 n hn).1) e)
      omega
  · have b := sum_bound (B := 100000000000000) (by decide) hs.2
    have := hs.1
    omega
end K03
namespace K03
open PySem L2 L3
theorem eqD_vec (v u : List Int) : eqD (vec v) (vec u) = decide (v = u) := by
  induction v generalizing u with
  | nil => cases u <;> rfl
  | cons a v ih =>
    cases u with
    | nil => rfl
    | cons b u =>
      have e : eqD (vec (a :: v)) (vec (b :: u)) = (decide (a = b) && eqD (vec v) (vec u)) := rfl
      rw [e, ih]
      by_cases h : a = b <;> by_cases h2 : v = u <;> simp [h, h2]
theorem eqD_ints (v u : List Int) : eqD (.lst (v.map .int)) (.lst (u.map .int)) = decide (v = u) := by
  have z := eqD_vec v u
  exact z
theorem eqV_vec {M : Mp} {neg : Bool} {x y : List Int} {Q : KD} : eqV neg (vec x) (vec y) M Q ↔ Q (.bl (if neg then !decide (x = y) else decide (x = y))) M := by
  have e : res M (vec x) = vec x := rfl
  have e2 : res M (vec y) = vec y := rfl
  have f1 : ∀ x : List Int, fit 3 (vec x) := fun x => by simp [fit, vec]
  refine Iff.trans (b := eqD2 neg (vec x) (vec y) M Q) Iff.rfl ?_
  unfold eqD2
  rw [e, e2, eqD_vec]
  exact ⟨fun h => h.2, fun h => ⟨⟨3, by decide, f1 x, f1 y⟩, h⟩⟩
theorem eqV_ints {M : Mp} {neg : Bool} {x y : List Int} {Q : KD} : eqV neg (.lst (x.map .int)) (.lst (y.map .int)) M Q ↔ Q (.bl (if neg then !decide (x = y) else decide (x = y))) M := by
  have f1 : ∀ x : List Int, fit 3 (.lst (x.map .int)) := fun x => by simp [fit]
  refine Iff.trans (b := eqD2 neg (.lst (x.map .int)) (.lst (y.map .int)) M Q) Iff.rfl ?_
  unfold eqD2
  show (∃ n, n ≤ 60 ∧ fit n (.lst (x.map .int)) ∧ fit n (.lst (y.map .int))) ∧ Q (.bl (if neg then !eqD (.lst (x.map .int)) (.lst (y.map .int)) else eqD (.lst (x.map .int)) (.lst (y.map .int)))) M ↔ _
  rw [eqD_ints]
  exact ⟨fun h => h.2, fun h => ⟨⟨3, by decide, f1 x, f1 y⟩, h⟩⟩
theorem dist_i {M : Mp} {k : Str} {v u : List Int} {Q : KD} {R} (hv : sm v) (hu : sm u) : F_distance [.str k, vec v, vec u] M Q R ↔ Q (.int (distI k v u)) M := by
  constructor
  · rintro ⟨k', v', u', h, _, _, q⟩
    unfold vec at h
    simp only [List.cons.injEq, D.str.injEq, D.tup.injEq, and_true] at h
    obtain ⟨rfl, h1, h2⟩ := h
    have inj : ∀ {x y : List Int}, x.map D.int = y.map D.int → x = y := fun {x y} e => by
      induction x generalizing y with
      | nil => cases y with
        | nil => rfl
        | cons _ _ => cases e
      | cons a x ih =>
        cases y with
        | nil => cases e
        | cons b y =>
          rw [List.map_cons, List.map_cons] at e
          obtain ⟨e1, e2⟩ := List.cons.inj e
          cases e1
          rw [ih e2]
    rw [inj h1, inj h2]
    exact q
  · exact fun q => ⟨k, v, u, rfl, hv, hu, q⟩
/-- numbers that can be shown -/
def rb (n : Int) : Prop := 0 ≤ n ∧ n ≤ 6400000000000000
theorem repr_rb {M : Mp} {n : Int} {Q : KD} (h : rb n) : fRepr [.int n] M Q ↔ Q (.str (shown (.int n))) M := by
  refine ⟨fun h => h.2.2, fun q => ⟨⟨1, by decide, ?_⟩, by simp [res, cost], q⟩⟩
  show n.natAbs < 2 ^ 200
  have := h.1
  have := h.2
  omega
theorem repr_bl {M : Mp} {b : Bool} {Q : KD} : fRepr [.bl b] M Q ↔ Q (.str (shown (.bl b))) M :=
  ⟨fun h => h.2.2, fun q => ⟨⟨1, by decide, True.intro⟩, by simp [res, cost], q⟩⟩
theorem repr_ints {M : Mp} {ns : List Int} {Q : KD} (hl : ns.length ≤ 1000) (h : ∀ n ∈ ns, rb n) (q : Q (.str (shown (.lst (ns.map .int)))) M) : fRepr [.lst (ns.map .int)] M Q := by
  refine ⟨⟨3, by decide, ?_⟩, ?_, q⟩
  · show shw 3 (.lst (ns.map .int))
    simp [shw]
    intro n hn
    have := (h n hn).1
    have := (h n hn).2
    omega
  · show cost (.lst (ns.map .int)) ≤ _
    have c : ∀ ns : List Int, cost (.lst (ns.map .int)) ≤ 212 * ns.length + 4 := fun ns => by
      induction ns with
      | nil => simp [cost, costL]
      | cons n ns ih =>
        simp [cost, costL] at ih ⊢
        omega
    have := c ns
    omega
theorem sub_map (f g : Nat → Int) (ps : List Nat) : subI (ps.map f) (ps.map g) = ps.map fun i => f i - g i := by
  unfold subI
  induction ps with
  | nil => rfl
  | cons p ps ih => rw [List.map_cons, List.map_cons, List.zipWith_cons_cons, ih, List.map_cons]
theorem len_vec {M : Mp} {v : List Int} {Q : KD} : fLen [vec v] M Q ↔ Q (.int (v.length : Int)) M := by
  constructor
  · rintro ⟨es, h, q⟩
    cases h
    rw [List.length_map] at q
    exact q
  · exact fun q => ⟨v.map .int, rfl, by rw [List.length_map]; exact q⟩
theorem lc_nums {we : WE} {ρ : En} {M : Mp} {Q : KD} {j : Nat} (h : Nat → Int) (ps : List Nat) (hn : ps.length ≤ 1000) (hs : ∀ i ∈ ps, ∀ K : KD, K (.int (h i)) M → we (ρ.set j (some (.int (i : Int)))) M K)
    (q : Q (.lst ((ps.map h).map .int)) M) : wLcL (wgName j) wYes we AnyM ρ (nums ps) [] M Q := by
  refine lc_pure (fun d => match d with | .int i => .int (h i.toNat) | _ => .non) True.intro _ [] ?_ (fun d hd K hK => ?_) ?_
  · unfold nums
    rw [List.length_map]
    simp only [List.length_nil]
    omega
  · obtain ⟨p, hp, rfl⟩ := List.mem_map.mp hd
    exact hs p hp K hK
  · have e : (nums ps).map (fun d => match d with | .int i => D.int (h i.toNat) | _ => .non) = (ps.map h).map D.int := by
      unfold nums
      rw [List.map_map, List.map_map]
      rfl
    rw [List.nil_append, e]
    exact q
theorem ix_at {M : Mp} {L : List D} {i : Nat} {x : D} {Q : KD} (h : L[i]? = some x) (q : Q x M) : ixD (.lst L) (.int (i : Int)) M Q := by
  have li := (List.getElem?_eq_some_iff.mp h).1
  refine ⟨L, x, rfl, ?_, q⟩
  unfold atI ixN
  simp [li]
  rw [List.getElem?_eq_getElem li] at h
  exact Option.some.inj h
def fL (k : Str) (v u : List Int) (d : D) : D := match d with
  | .tup ds => .int (joinI k (ds.map fun x => match x with | .int i => gI k v u i.toNat | _ => 0))
  | _ => .non
theorem fL_nums (k : Str) (v u : List Int) (l : List Nat) : fL k v u (.tup (nums l)) = .int (joinI k (l.map (gI k v u))) := by
  unfold fL nums
  dsimp only
  rw [List.map_map]
  rfl
theorem gI_nn (k : Str) (v u : List Int) (l : List Nat) : ∀ n ∈ l.map (gI k v u), 0 ≤ n := fun n hn => by
  obtain ⟨i, _, rfl⟩ := List.mem_map.mp hn
  exact part_nn k _
theorem cut_all (ds : List D) : cutD ds none none = ds := by
  unfold cutD
  simp [HT.sIx]
theorem join_bound (k : Str) {B : Int} (hB : 0 ≤ B) {a : List Int} (h : ∀ n ∈ a, 0 ≤ n ∧ n ≤ B) (hl : a.length ≤ 8) : joinI k a ≤ B * 8 := by
  have hs := sum_bound hB h
  have e : B * (a.length : Int) ≤ B * 8 := Int.mul_le_mul_of_nonneg_left (by omega) hB
  unfold joinI
  split
  · by_cases z : a = []
    · subst z
      have : mxI [] = 0 := rfl
      omega
    · have := h _ (mxI_mem (fun n hn => (h n hn).1) z)
      omega
  · omega
theorem part_le (k : Str) {d : Int} (h1 : -19800 ≤ d) (h2 : d ≤ 19800) : partI k d ≤ 392040000 := by
  unfold partI
  split
  · rcases Int.le_total 0 d with z | z
    · have := Int.mul_le_mul h2 h2 z (by decide)
      omega
    · have := Int.mul_le_mul (a := -d) (b := -d) (c := 19800) (d := 19800) (by omega) (by omega) (by omega) (by decide)
      have e : -d * -d = d * d := by grind
      omega
  · split
    · split <;> omega
    · split <;> omega
theorem get_b {B : Int} (hB : 0 ≤ B) {w : List Int} (h : ∀ b ∈ w, -B ≤ b ∧ b ≤ B) (i : Nat) : -B ≤ w.getD i 0 ∧ w.getD i 0 ≤ B := by
  rw [List.getD_eq_getElem?_getD]
  cases e : w[i]? with
  | none => exact ⟨by show -B ≤ 0; omega, hB⟩
  | some x => exact h x (List.mem_of_getElem? e)
theorem wp__law_pair_right : ∀ ds M Q R, F__law_pair_right ds M Q R → W__law_pair_right { nx := fun _ M' => Q .non M', rt := Q, xr := R } (startE 18 ds) M := by
  rintro ds M Q R ⟨a, a0, k, v, u, p, rfl, hm, lv, lu, p0, p1, bv, bu, q⟩
  have hl : v.length = u.length := by omega
  have hv : sm v := ⟨by omega, fun b hb => by have := bv b hb; omega⟩
  have hu : sm u := ⟨by omega, fun b hb => by have := bu b hb; omega⟩
  have db := dist_bound (k := k) hv hu
  have rd : rb (distI k v u) := db
  have dc := dist_comm k hl
  have dz : distI k v v = 0 := (dist_zero k rfl).mpr rfl
  have hz : decide (distI k v u = 0) = decide (v = u) := decide_eq_decide.mpr (dist_zero k hl)
  unfold W__law_pair_right
  refine seq_gen fun K hK => ?_
  simp (disch := first | assumption | decide) only [wSeq, wNext, wAsg, wgName, wIfS, wB, wOp, wVar, wC, wCall, wCallK, wCons, wNil, wRet, wRetN, wDrop, wTup, wLst, wIf, wAnd, wOr, wNot, wAndV, wOrV, wNotV, wNeg, wChain, fI, fI0, addD, fLt, fLe, fGt, fGe, fIsB, wCB, fAbs, f2I, fInt, fIsq, wPar, wPar3, permD, startE, List.map_cons, List.map_nil, List.cons_append, List.nil_append, List.append_nil, List.length_cons, List.length_nil, List.replicate, List.getElem?_cons_zero, List.getElem?_cons_succ, List.set_cons_zero, List.set_cons_succ, List.getD_cons_zero, List.getD_cons_succ, Nat.reduceAdd, Nat.reduceSub, Nat.zero_add, true_and, and_true, Bool.not_true, Bool.not_false, if_true, if_false, Bool.false_eq_true, reduceIte, decide_eq_true_eq, Bool.not_eq_true', decide_eq_false_iff_not, eqV_int, eqV_str, eqV_bl, decide_true, reduceCtorEq, not_true_eq_false, not_false_eq_true, Bool.not_eq_true, List.not_mem_nil, false_implies, implies_true, Int.reduceNeg, Int.reduceToNat, Int.reducePow, Int.reduceMul, Int.reduceAdd, draw_i]
  refine ⟨k, _, _, v, u, rfl, rfl, rfl, hl, hv, hu, ?_⟩
  subst hK
  refine seq_gen fun K hK => ?_
  simp (disch := first | assumption | decide) only [wSeq, wNext, wAsg, wgName, wIfS, wB, wOp, wVar, wC, wCall, wCallK, wCons, wNil, wRet, wRetN, wDrop, wTup, wLst, wIf, wAnd, wOr, wNot, wAndV, wOrV, wNotV, wNeg, wChain, fI, fI0, addD, fLt, fLe, fGt, fGe, fIsB, wCB, fAbs, f2I, fInt, fIsq, wPar, wPar3, permD, startE, List.map_cons, List.map_nil, List.cons_append, List.nil_append, List.append_nil, List.length_cons, List.length_nil, List.replicate, List.getElem?_cons_zero, List.getElem?_cons_succ, List.set_cons_zero, List.set_cons_succ, List.getD_cons_zero, List.getD_cons_succ, Nat.reduceAdd, Nat.reduceSub, Nat.zero_add, true_and, and_true, Bool.not_true, Bool.not_false, if_true, if_false, Bool.false_eq_true, reduceIte, decide_eq_true_eq, Bool.not_eq_true', decide_eq_false_iff_not, eqV_int, eqV_str, eqV_bl, decide_true, reduceCtorEq, not_true_eq_false, not_false_eq_true, Bool.not_eq_true, List.not_mem_nil, false_implies, implies_true, Int.reduceNeg, Int.reduceToNat, Int.reducePow, Int.reduceMul, Int.reduceAdd, draw_i, dist_i]
  subst hK
  refine seq_gen fun K hK => ?_
  simp (disch := first | assumption | decide) only [wSeq, wNext, wAsg, wgName, wIfS, wB, wOp, wVar, wC, wCall, wCallK, wCons, wNil, wRet, wRetN, wDrop, wTup, wLst, wIf, wAnd, wOr, wNot, wAndV, wOrV, wNotV, wNeg, wChain, fI, fI0, addD, fLt, fLe, fGt, fGe, fIsB, wCB, fAbs, f2I, fInt, fIsq, wPar, wPar3, permD, startE, List.map_cons, List.map_nil, List.cons_append, List.nil_append, List.append_nil, List.length_cons, List.length_nil, List.replicate, List.getElem?_cons_zero, List.getElem?_cons_succ, List.set_cons_zero, List.set_cons_succ, List.getD_cons_zero, List.getD_cons_succ, Nat.reduceAdd, Nat.reduceSub, Nat.zero_add, true_and, and_true, Bool.not_true, Bool.not_false, if_true, if_false, Bool.false_eq_true, reduceIte, decide_eq_true_eq, Bool.not_eq_true', decide_eq_false_iff_not, eqV_int, eqV_str, eqV_bl, decide_true, reduceCtorEq, not_true_eq_false, not_false_eq_true, Bool.not_eq_true, List.not_mem_nil, false_implies, implies_true, Int.reduceNeg, Int.reduceToNat, Int.reducePow, Int.reduceMul, Int.reduceAdd, draw_i, dist_i, repr_rb, dc]
  subst hK
  refine seq_gen fun K hK => ?_
  simp (disch := first | assumption | decide) only [wSeq, wNext, wAsg, wgName, wIfS, wB, wOp, wVar, wC, wCall, wCallK, wCons, wNil, wRet, wRetN, wDrop, wTup, wLst, wIf, wAnd, wOr, wNot, wAndV, wOrV, wNotV, wNeg, wChain, fI, fI0, addD, fLt, fLe, fGt, fGe, fIsB, wCB, fAbs, f2I, fInt, fIsq, wPar, wPar3, permD, startE, List.map_cons, List.map_nil, List.cons_append, List.nil_append, List.append_nil, List.length_cons, List.length_nil, List.replicate, List.getElem?_cons_zero, List.getElem?_cons_succ, List.set_cons_zero, List.set_cons_succ, List.getD_cons_zero, List.getD_cons_succ, Nat.reduceAdd, Nat.reduceSub, Nat.zero_add, true_and, and_true, Bool.not_true, Bool.not_false, if_true, if_false, Bool.false_eq_true, reduceIte, decide_eq_true_eq, Bool.not_eq_true', decide_eq_false_iff_not, eqV_int, eqV_str, eqV_bl, decide_true, reduceCtorEq, not_true_eq_false, not_false_eq_true, Bool.not_eq_true, List.not_mem_nil, false_implies, implies_true, Int.reduceNeg, Int.reduceToNat, Int.reducePow, Int.reduceMul, Int.reduceAdd, draw_i, dist_i, eqV_vec, hz, dz]
  subst hK
  refine seq_gen fun K hK => ?_
  simp (disch := first | assumption | decide) only [wSeq, wNext, wAsg, wgName, wIfS, wB, wOp, wVar, wC, wCall, wCallK, wCons, wNil, wRet, wRetN, wDrop, wTup, wLst, wIf, wAnd, wOr, wNot, wAndV, wOrV, wNotV, wNeg, wChain, fI, fI0, addD, fLt, fLe, fGt, fGe, fIsB, wCB, fAbs, f2I, fInt, fIsq, wPar, wPar3, permD, startE, List.map_cons, List.map_nil, List.cons_append, List.nil_append, List.append_nil, List.length_cons, List.length_nil, List.replicate, List.getElem?_cons_zero, List.getElem?_cons_succ, List.set_cons_zero, List.set_cons_succ, List.getD_cons_zero, List.getD_cons_succ, Nat.reduceAdd, Nat.reduceSub, Nat.zero_add, true_and, and_true, Bool.not_true, Bool.not_false, if_true, if_false, Bool.false_eq_true, reduceIte, decide_eq_true_eq, Bool.not_eq_true', decide_eq_false_iff_not, eqV_int, eqV_str, eqV_bl, decide_true, reduceCtorEq, not_true_eq_false, not_false_eq_true, Bool.not_eq_true, List.not_mem_nil, false_implies, implies_true, Int.reduceNeg, Int.reduceToNat, Int.reducePow, Int.reduceMul, Int.reduceAdd, draw_i, wLc, wiSeq, wipeE]
  show wLcL _ _ _ _ _ (v.map .int) [] M _
  refine lc_any (fun _ y => ∃ b : Int, y = .int b ∧ -20 ≤ b ∧ b ≤ 20) True.intro _ [] (by rw [List.length_map]; simp only [List.length_nil]; omega) (fun d hd K2 hK2 => ?_) fun ys hy1 hy2 => ?_
  · simp (disch := first | assumption | decide) only [wSeq, wNext, wAsg, wgName, wIfS, wB, wOp, wVar, wC, wCall, wCallK, wCons, wNil, wRet, wRetN, wDrop, wTup, wLst, wIf, wAnd, wOr, wNot, wAndV, wOrV, wNotV, wNeg, wChain, fI, fI0, addD, fLt, fLe, fGt, fGe, fIsB, wCB, fAbs, f2I, fInt, fIsq, wPar, wPar3, permD, startE, List.map_cons, List.map_nil, List.cons_append, List.nil_append, List.append_nil, List.length_cons, List.length_nil, List.replicate, List.getElem?_cons_zero, List.getElem?_cons_succ, List.set_cons_zero, List.set_cons_succ, List.getD_cons_zero, List.getD_cons_succ, Nat.reduceAdd, Nat.reduceSub, Nat.zero_add, true_and, and_true, Bool.not_true, Bool.not_false, if_true, if_false, Bool.false_eq_true, reduceIte, decide_eq_true_eq, Bool.not_eq_true', decide_eq_false_iff_not, eqV_int, eqV_str, eqV_bl, decide_true, reduceCtorEq, not_true_eq_false, not_false_eq_true, Bool.not_eq_true, List.not_mem_nil, false_implies, implies_true, Int.reduceNeg, Int.reduceToNat, Int.reducePow, Int.reduceMul, Int.reduceAdd, draw_i]
    intro j j0 j1
    exact hK2 _ ⟨_, rfl, by omega, by omega⟩
  obtain ⟨st, rfl, hst⟩ := ints_of (R := fun b => -20 ≤ b ∧ b ≤ 20) (fun y hy => by
    obtain ⟨i, hi⟩ := List.mem_iff_getElem?.mp hy
    obtain ⟨_, _, h⟩ := hy2 i y hi
    exact h)
  rw [List.length_map, List.length_map] at hy1
  rw [List.nil_append]
  clear hy2
  subst hK
  refine seq_gen fun K hK => ?_
  have lr : (List.range v.length).length = v.length := List.length_range
  have gst : ∀ i, -20 ≤ st.getD i 0 ∧ st.getD i 0 ≤ 20 := fun i => by
    rw [List.getD_eq_getElem?_getD]
    cases e : st[i]? with
    | none => exact ⟨by decide, by decide⟩
    | some x => exact hst x (List.mem_of_getElem? e)
  have mvs : ∀ w : List Int, sm w → (∀ b ∈ w, -9900 ≤ b ∧ b ≤ 9900) → sm ((List.range v.length).map fun i => w.getD i 0 + st.getD i 0) := fun w hw hb => ⟨by rw [List.length_map, lr]; exact hv.1, fun b hb2 => by
    obtain ⟨i, _, rfl⟩ := List.mem_map.mp hb2
    have z1 := gst i
    have z2 : -9900 ≤ w.getD i 0 ∧ w.getD i 0 ≤ 9900 := by
      rw [List.getD_eq_getElem?_getD]
      cases e : w[i]? with
      | none => exact ⟨by decide, by decide⟩
      | some x => exact hb x (List.mem_of_getElem? e)
    omega⟩
  have mv : distI k ((List.range v.length).map fun i => v.getD i 0 + st.getD i 0) ((List.range v.length).map fun i => u.getD i 0 + st.getD i 0) = distI k v u := by
    rw [dist_all k hl]
    unfold distI
    rw [sub_map, List.map_map]
    congr 1
    refine List.map_congr_left fun i _ => ?_
    unfold gI
    show partI k (v.getD i 0 + st.getD i 0 - (u.getD i 0 + st.getD i 0)) = partI k (v.getD i 0 - u.getD i 0)
    congr 1
    omega
  simp (disch := first | assumption | decide) only [wSeq, wNext, wAsg, wgName, wIfS, wB, wOp, wVar, wC, wCall, wCallK, wCons, wNil, wRet, wRetN, wDrop, wTup, wLst, wIf, wAnd, wOr, wNot, wAndV, wOrV, wNotV, wNeg, wChain, fI, fI0, addD, fLt, fLe, fGt, fGe, fIsB, wCB, fAbs, f2I, fInt, fIsq, wPar, wPar3, permD, startE, List.map_cons, List.map_nil, List.cons_append, List.nil_append, List.append_nil, List.length_cons, List.length_nil, List.replicate, List.getElem?_cons_zero, List.getElem?_cons_succ, List.set_cons_zero, List.set_cons_succ, List.getD_cons_zero, List.getD_cons_succ, Nat.reduceAdd, Nat.reduceSub, Nat.zero_add, true_and, and_true, Bool.not_true, Bool.not_false, if_true, if_false, Bool.false_eq_true, reduceIte, decide_eq_true_eq, Bool.not_eq_true', decide_eq_false_iff_not, eqV_int, eqV_str, eqV_bl, decide_true, reduceCtorEq, not_true_eq_false, not_false_eq_true, Bool.not_eq_true, List.not_mem_nil, false_implies, implies_true, Int.reduceNeg, Int.reduceToNat, Int.reducePow, Int.reduceMul, Int.reduceAdd, draw_i, wLc, wiRange1, wipeE, len_vec, fTuple]
  refine ⟨by omega, by omega, ?_⟩
  rw [Int.toNat_natCast, nums_range]
  refine lc_nums (fun i => v.getD i 0 + st.getD i 0) _ (by omega) (fun i hi K2 hK2 => ?_) ?_
  · have hi := List.mem_range.mp hi
    simp (disch := first | assumption | decide) only [wSeq, wNext, wAsg, wgName, wIfS, wB, wOp, wVar, wC, wCall, wCallK, wCons, wNil, wRet, wRetN, wDrop, wTup, wLst, wIf, wAnd, wOr, wNot, wAndV, wOrV, wNotV, wNeg, wChain, fI, fI0, addD, fLt, fLe, fGt, fGe, fIsB, wCB, fAbs, f2I, fInt, fIsq, wPar, wPar3, permD, startE, List.map_cons, List.map_nil, List.cons_append, List.nil_append, List.append_nil, List.length_cons, List.length_nil, List.replicate, List.getElem?_cons_zero, List.getElem?_cons_succ, List.set_cons_zero, List.set_cons_succ, List.getD_cons_zero, List.getD_cons_succ, Nat.reduceAdd, Nat.reduceSub, Nat.zero_add, true_and, and_true, Bool.not_true, Bool.not_false, if_true, if_false, Bool.false_eq_true, reduceIte, decide_eq_true_eq, Bool.not_eq_true', decide_eq_false_iff_not, eqV_int, eqV_str, eqV_bl, decide_true, reduceCtorEq, not_true_eq_false, not_false_eq_true, Bool.not_eq_true, List.not_mem_nil, false_implies, implies_true, Int.reduceNeg, Int.reduceToNat, Int.reducePow, Int.reduceMul, Int.reduceAdd, draw_i]
    exact ix_seqd (v := v) rfl hi (ix_seqd rfl (by omega) hK2)
  refine ⟨_, rfl, by omega, by omega, ?_⟩
  refine lc_nums (fun i => u.getD i 0 + st.getD i 0) _ (by omega) (fun i hi K2 hK2 => ?_) ?_
  · have hi := List.mem_range.mp hi
    simp (disch := first | assumption | decide) only [wSeq, wNext, wAsg, wgName, wIfS, wB, wOp, wVar, wC, wCall, wCallK, wCons, wNil, wRet, wRetN, wDrop, wTup, wLst, wIf, wAnd, wOr, wNot, wAndV, wOrV, wNotV, wNeg, wChain, fI, fI0, addD, fLt, fLe, fGt, fGe, fIsB, wCB, fAbs, f2I, fInt, fIsq, wPar, wPar3, permD, startE, List.map_cons, List.map_nil, List.cons_append, List.nil_append, List.append_nil, List.length_cons, List.length_nil, List.replicate, List.getElem?_cons_zero, List.getElem?_cons_succ, List.set_cons_zero, List.set_cons_succ, List.getD_cons_zero, List.getD_cons_succ, Nat.reduceAdd, Nat.reduceSub, Nat.zero_add, true_and, and_true, Bool.not_true, Bool.not_false, if_true, if_false, Bool.false_eq_true, reduceIte, decide_eq_true_eq, Bool.not_eq_true', decide_eq_false_iff_not, eqV_int, eqV_str, eqV_bl, decide_true, reduceCtorEq, not_true_eq_false, not_false_eq_true, Bool.not_eq_true, List.not_mem_nil, false_implies, implies_true, Int.reduceNeg, Int.reduceToNat, Int.reducePow, Int.reduceMul, Int.reduceAdd, draw_i]
    exact ix_seqd (v := u) rfl (by omega) (ix_seqd rfl (by omega) hK2)
  refine ⟨_, rfl, (dist_i (mvs v hv bv) (mvs u hu bu)).mpr ?_⟩
  simp (disch := first | assumption | decide) only [wSeq, wNext, wAsg, wgName, wIfS, wB, wOp, wVar, wC, wCall, wCallK, wCons, wNil, wRet, wRetN, wDrop, wTup, wLst, wIf, wAnd, wOr, wNot, wAndV, wOrV, wNotV, wNeg, wChain, fI, fI0, addD, fLt, fLe, fGt, fGe, fIsB, wCB, fAbs, f2I, fInt, fIsq, wPar, wPar3, permD, startE, List.map_cons, List.map_nil, List.cons_append, List.nil_append, List.append_nil, List.length_cons, List.length_nil, List.replicate, List.getElem?_cons_zero, List.getElem?_cons_succ, List.set_cons_zero, List.set_cons_succ, List.getD_cons_zero, List.getD_cons_succ, Nat.reduceAdd, Nat.reduceSub, Nat.zero_add, true_and, and_true, Bool.not_true, Bool.not_false, if_true, if_false, Bool.false_eq_true, reduceIte, decide_eq_true_eq, Bool.not_eq_true', decide_eq_false_iff_not, eqV_int, eqV_str, eqV_bl, decide_true, reduceCtorEq, not_true_eq_false, not_false_eq_true, Bool.not_eq_true, List.not_mem_nil, false_implies, implies_true, Int.reduceNeg, Int.reduceToNat, Int.reducePow, Int.reduceMul, Int.reduceAdd, draw_i, mv]
  subst hK
  clear mv mvs
  refine seq_gen fun K hK => ?_
  simp (disch := first | assumption | decide) only [wSeq, wNext, wAsg, wgName, wIfS, wB, wOp, wVar, wC, wCall, wCallK, wCons, wNil, wRet, wRetN, wDrop, wTup, wLst, wIf, wAnd, wOr, wNot, wAndV, wOrV, wNotV, wNeg, wChain, fI, fI0, addD, fLt, fLe, fGt, fGe, fIsB, wCB, fAbs, f2I, fInt, fIsq, wPar, wPar3, permD, startE, List.map_cons, List.map_nil, List.cons_append, List.nil_append, List.append_nil, List.length_cons, List.length_nil, List.replicate, List.getElem?_cons_zero, List.getElem?_cons_succ, List.set_cons_zero, List.set_cons_succ, List.getD_cons_zero, List.getD_cons_succ, Nat.reduceAdd, Nat.reduceSub, Nat.zero_add, true_and, and_true, Bool.not_true, Bool.not_false, if_true, if_false, Bool.false_eq_true, reduceIte, decide_eq_true_eq, Bool.not_eq_true', decide_eq_false_iff_not, eqV_int, eqV_str, eqV_bl, decide_true, reduceCtorEq, not_true_eq_false, not_false_eq_true, Bool.not_eq_true, List.not_mem_nil, false_implies, implies_true, Int.reduceNeg, Int.reduceToNat, Int.reducePow, Int.reduceMul, Int.reduceAdd, draw_i, len_vec]
  refine ⟨a, a0, p, by rw [lv], hm, p0, p1, fun M' order lots hm' ho hf hlen => ?_⟩
  simp (disch := first | assumption | decide) only [wSeq, wNext, wAsg, wgName, wIfS, wB, wOp, wVar, wC, wCall, wCallK, wCons, wNil, wRet, wRetN, wDrop, wTup, wLst, wIf, wAnd, wOr, wNot, wAndV, wOrV, wNotV, wNeg, wChain, fI, fI0, addD, fLt, fLe, fGt, fGe, fIsB, wCB, fAbs, f2I, fInt, fIsq, wPar, wPar3, permD, startE, List.map_cons, List.map_nil, List.cons_append, List.nil_append, List.append_nil, List.length_cons, List.length_nil, List.replicate, List.getElem?_cons_zero, List.getElem?_cons_succ, List.set_cons_zero, List.set_cons_succ, List.getD_cons_zero, List.getD_cons_succ, Nat.reduceAdd, Nat.reduceSub, Nat.zero_add, true_and, and_true, Bool.not_true, Bool.not_false, if_true, if_false, Bool.false_eq_true, reduceIte, decide_eq_true_eq, Bool.not_eq_true', decide_eq_false_iff_not, eqV_int, eqV_str, eqV_bl, decide_true, reduceCtorEq, not_true_eq_false, not_false_eq_true, Bool.not_eq_true, List.not_mem_nil, false_implies, implies_true, Int.reduceNeg, Int.reduceToNat, Int.reducePow, Int.reduceMul, Int.reduceAdd, draw_i, wgTup, wgCons, wgNil]
  clear hm
  have lor : order.length = v.length := by rw [ho.length_eq, List.length_range, lv]
  have mor : ∀ i ∈ order, i < v.length := fun i hi => by
    rw [lv]
    exact List.mem_range.mp (ho.mem_iff.mp hi)
  have mlo : ∀ l ∈ lots, ∀ i ∈ l, i < v.length := fun l h1 i h2 => by
    rw [lv]
    exact List.mem_range.mp (hf.mem_iff.mp (List.mem_flatten.mpr ⟨l, h1, h2⟩))
  have llo : ∀ l ∈ lots, l.length ≤ 8 := fun l h1 => by
    have := flat_le h1
    rw [hf.length_eq, List.length_range] at this
    omega
  have e_or : distI k (atI' v order) (atI' u order) = distI k v u := by
    rw [dist_at, dist_all k hl, lv]
    exact join_perm k (ho.map _)
  subst hK
  refine seq_gen fun K hK => ?_
  simp (disch := first | assumption | decide) only [wSeq, wNext, wAsg, wgName, wIfS, wB, wOp, wVar, wC, wCall, wCallK, wCons, wNil, wRet, wRetN, wDrop, wTup, wLst, wIf, wAnd, wOr, wNot, wAndV, wOrV, wNotV, wNeg, wChain, fI, fI0, addD, fLt, fLe, fGt, fGe, fIsB, wCB, fAbs, f2I, fInt, fIsq, wPar, wPar3, permD, startE, List.map_cons, List.map_nil, List.cons_append, List.nil_append, List.append_nil, List.length_cons, List.length_nil, List.replicate, List.getElem?_cons_zero, List.getElem?_cons_succ, List.set_cons_zero, List.set_cons_succ, List.getD_cons_zero, List.getD_cons_succ, Nat.reduceAdd, Nat.reduceSub, Nat.zero_add, true_and, and_true, Bool.not_true, Bool.not_false, if_true, if_false, Bool.false_eq_true, reduceIte, decide_eq_true_eq, Bool.not_eq_true', decide_eq_false_iff_not, eqV_int, eqV_str, eqV_bl, decide_true, reduceCtorEq, not_true_eq_false, not_false_eq_true, Bool.not_eq_true, List.not_mem_nil, false_implies, implies_true, Int.reduceNeg, Int.reduceToNat, Int.reducePow, Int.reduceMul, Int.reduceAdd, draw_i, wLc, wiSeq, wipeE, fTuple]
  refine lc_nums (fun i => v.getD i 0) order (by omega) (fun i hi K2 hK2 => ?_) ?_
  · have hi := mor i hi
    simp (disch := first | assumption | decide) only [wSeq, wNext, wAsg, wgName, wIfS, wB, wOp, wVar, wC, wCall, wCallK, wCons, wNil, wRet, wRetN, wDrop, wTup, wLst, wIf, wAnd, wOr, wNot, wAndV, wOrV, wNotV, wNeg, wChain, fI, fI0, addD, fLt, fLe, fGt, fGe, fIsB, wCB, fAbs, f2I, fInt, fIsq, wPar, wPar3, permD, startE, List.map_cons, List.map_nil, List.cons_append, List.nil_append, List.append_nil, List.length_cons, List.length_nil, List.replicate, List.getElem?_cons_zero, List.getElem?_cons_succ, List.set_cons_zero, List.set_cons_succ, List.getD_cons_zero, List.getD_cons_succ, Nat.reduceAdd, Nat.reduceSub, Nat.zero_add, true_and, and_true, Bool.not_true, Bool.not_false, if_true, if_false, Bool.false_eq_true, reduceIte, decide_eq_true_eq, Bool.not_eq_true', decide_eq_false_iff_not, eqV_int, eqV_str, eqV_bl, decide_true, reduceCtorEq, not_true_eq_false, not_false_eq_true, Bool.not_eq_true, List.not_mem_nil, false_implies, implies_true, Int.reduceNeg, Int.reduceToNat, Int.reducePow, Int.reduceMul, Int.reduceAdd, draw_i]
    exact ix_seqd (v := v) rfl hi hK2
  refine ⟨_, rfl, ?_⟩
  refine lc_nums (fun i => u.getD i 0) order (by omega) (fun i hi K2 hK2 => ?_) ?_
  · have hi := mor i hi
    simp (disch := first | assumption | decide) only [wSeq, wNext, wAsg, wgName, wIfS, wB, wOp, wVar, wC, wCall, wCallK, wCons, wNil, wRet, wRetN, wDrop, wTup, wLst, wIf, wAnd, wOr, wNot, wAndV, wOrV, wNotV, wNeg, wChain, fI, fI0, addD, fLt, fLe, fGt, fGe, fIsB, wCB, fAbs, f2I, fInt, fIsq, wPar, wPar3, permD, startE, List.map_cons, List.map_nil, List.cons_append, List.nil_append, List.append_nil, List.length_cons, List.length_nil, List.replicate, List.getElem?_cons_zero, List.getElem?_cons_succ, List.set_cons_zero, List.set_cons_succ, List.getD_cons_zero, List.getD_cons_succ, Nat.reduceAdd, Nat.reduceSub, Nat.zero_add, true_and, and_true, Bool.not_true, Bool.not_false, if_true, if_false, Bool.false_eq_true, reduceIte, decide_eq_true_eq, Bool.not_eq_true', decide_eq_false_iff_not, eqV_int, eqV_str, eqV_bl, decide_true, reduceCtorEq, not_true_eq_false, not_false_eq_true, Bool.not_eq_true, List.not_mem_nil, false_implies, implies_true, Int.reduceNeg, Int.reduceToNat, Int.reducePow, Int.reduceMul, Int.reduceAdd, draw_i]
    exact ix_seqd (v := u) rfl (by omega) hK2
  refine ⟨_, rfl, (dist_i (v := atI' v order) (u := atI' u order) (at_sm hv (by omega)) (at_sm hu (by omega))).mpr ?_⟩
  simp (disch := first | assumption | decide) only [wSeq, wNext, wAsg, wgName, wIfS, wB, wOp, wVar, wC, wCall, wCallK, wCons, wNil, wRet, wRetN, wDrop, wTup, wLst, wIf, wAnd, wOr, wNot, wAndV, wOrV, wNotV, wNeg, wChain, fI, fI0, addD, fLt, fLe, fGt, fGe, fIsB, wCB, fAbs, f2I, fInt, fIsq, wPar, wPar3, permD, startE, List.map_cons, List.map_nil, List.cons_append, List.nil_append, List.append_nil, List.length_cons, List.length_nil, List.replicate, List.getElem?_cons_zero, List.getElem?_cons_succ, List.set_cons_zero, List.set_cons_succ, List.getD_cons_zero, List.getD_cons_succ, Nat.reduceAdd, Nat.reduceSub, Nat.zero_add, true_and, and_true, Bool.not_true, Bool.not_false, if_true, if_false, Bool.false_eq_true, reduceIte, decide_eq_true_eq, Bool.not_eq_true', decide_eq_false_iff_not, eqV_int, eqV_str, eqV_bl, decide_true, reduceCtorEq, not_true_eq_false, not_false_eq_true, Bool.not_eq_true, List.not_mem_nil, false_implies, implies_true, Int.reduceNeg, Int.reduceToNat, Int.reducePow, Int.reduceMul, Int.reduceAdd, draw_i, e_or]
  subst hK
  clear e_or
  refine seq_gen fun K hK => ?_
  simp (disch := first | assumption | decide) only [wSeq, wNext, wAsg, wgName, wIfS, wB, wOp, wVar, wC, wCall, wCallK, wCons, wNil, wRet, wRetN, wDrop, wTup, wLst, wIf, wAnd, wOr, wNot, wAndV, wOrV, wNotV, wNeg, wChain, fI, fI0, addD, fLt, fLe, fGt, fGe, fIsB, wCB, fAbs, f2I, fInt, fIsq, wPar, wPar3, permD, startE, List.map_cons, List.map_nil, List.cons_append, List.nil_append, List.append_nil, List.length_cons, List.length_nil, List.replicate, List.getElem?_cons_zero, List.getElem?_cons_succ, List.set_cons_zero, List.set_cons_succ, List.getD_cons_zero, List.getD_cons_succ, Nat.reduceAdd, Nat.reduceSub, Nat.zero_add, true_and, and_true, Bool.not_true, Bool.not_false, if_true, if_false, Bool.false_eq_true, reduceIte, decide_eq_true_eq, Bool.not_eq_true', decide_eq_false_iff_not, eqV_int, eqV_str, eqV_bl, decide_true, reduceCtorEq, not_true_eq_false, not_false_eq_true, Bool.not_eq_true, List.not_mem_nil, false_implies, implies_true, Int.reduceNeg, Int.reduceToNat, Int.reducePow, Int.reduceMul, Int.reduceAdd, draw_i, wLc, wiSeq, wipeE]
  refine lc_pure (fL k v u) True.intro _ [] (by rw [List.length_map]; simp only [List.length_nil]; omega) (fun d hd K2 hK2 => ?_) ?_
  · obtain ⟨l, hlm, rfl⟩ := List.mem_map.mp hd
    rw [fL_nums, ← dist_at] at hK2
    simp (disch := first | assumption | decide) only [wSeq, wNext, wAsg, wgName, wIfS, wB, wOp, wVar, wC, wCall, wCallK, wCons, wNil, wRet, wRetN, wDrop, wTup, wLst, wIf, wAnd, wOr, wNot, wAndV, wOrV, wNotV, wNeg, wChain, fI, fI0, addD, fLt, fLe, fGt, fGe, fIsB, wCB, fAbs, f2I, fInt, fIsq, wPar, wPar3, permD, startE, List.map_cons, List.map_nil, List.cons_append, List.nil_append, List.append_nil, List.length_cons, List.length_nil, List.replicate, List.getElem?_cons_zero, List.getElem?_cons_succ, List.set_cons_zero, List.set_cons_succ, List.getD_cons_zero, List.getD_cons_succ, Nat.reduceAdd, Nat.reduceSub, Nat.zero_add, true_and, and_true, Bool.not_true, Bool.not_false, if_true, if_false, Bool.false_eq_true, reduceIte, decide_eq_true_eq, Bool.not_eq_true', decide_eq_false_iff_not, eqV_int, eqV_str, eqV_bl, decide_true, reduceCtorEq, not_true_eq_false, not_false_eq_true, Bool.not_eq_true, List.not_mem_nil, false_implies, implies_true, Int.reduceNeg, Int.reduceToNat, Int.reducePow, Int.reduceMul, Int.reduceAdd, draw_i]
    exact ⟨k, v, u, l, rfl, hv, hu, by have := llo l hlm; omega, fun i hi => ⟨mlo l hlm i hi, by have := mlo l hlm i hi; omega⟩, hK2⟩
  have epar : [] ++ (lots.map fun l => D.tup (nums l)).map (fL k v u) = (lots.map fun l => joinI k (l.map (gI k v u))).map .int := by
    rw [List.nil_append, List.map_map, List.map_map]
    refine List.map_congr_left fun l _ => ?_
    exact fL_nums k v u l
  rw [epar]
  clear epar
  subst hK
  refine seq_gen fun K hK => ?_
  refine for_gen fun B hB => ?_
  simp (disch := first | assumption | decide) only [wSeq, wNext, wAsg, wgName, wIfS, wB, wOp, wVar, wC, wCall, wCallK, wCons, wNil, wRet, wRetN, wDrop, wTup, wLst, wIf, wAnd, wOr, wNot, wAndV, wOrV, wNotV, wNeg, wChain, fI, fI0, addD, fLt, fLe, fGt, fGe, fIsB, wCB, fAbs, f2I, fInt, fIsq, wPar, wPar3, permD, startE, List.map_cons, List.map_nil, List.cons_append, List.nil_append, List.append_nil, List.length_cons, List.length_nil, List.replicate, List.getElem?_cons_zero, List.getElem?_cons_succ, List.set_cons_zero, List.set_cons_succ, List.getD_cons_zero, List.getD_cons_succ, Nat.reduceAdd, Nat.reduceSub, Nat.zero_add, true_and, and_true, Bool.not_true, Bool.not_false, if_true, if_false, Bool.false_eq_true, reduceIte, decide_eq_true_eq, Bool.not_eq_true', decide_eq_false_iff_not, eqV_int, eqV_str, eqV_bl, decide_true, reduceCtorEq, not_true_eq_false, not_false_eq_true, Bool.not_eq_true, List.not_mem_nil, false_implies, implies_true, Int.reduceNeg, Int.reduceToNat, Int.reducePow, Int.reduceMul, Int.reduceAdd, draw_i, wFor, wiRange1]
  refine ⟨_, rfl, ?_⟩
  dsimp only
  rw [List.length_map]
  refine ⟨by omega, by omega, ?_⟩
  rw [Int.toNat_natCast]
  have gb : ∀ i, 0 ≤ gI k v u i ∧ gI k v u i ≤ 392040000 := fun i => by
    have z1 := get_b (B := 9900) (by decide) bv i
    have z2 := get_b (B := 9900) (by decide) bu i
    exact ⟨part_nn k _, part_le k (by omega) (by omega)⟩
  have e_flat : joinI k ((lots.map fun l => l.map (gI k v u)).flatten) = distI k v u := by
    rw [← List.map_flatten, dist_all k hl, lv]
    exact join_perm k (hf.map _)
  have jb : ∀ l ∈ lots, 0 ≤ joinI k (l.map (gI k v u)) ∧ joinI k (l.map (gI k v u)) ≤ 3136320000 ∧ joinI k (l.map (gI k v u)) ≤ distI k v u := fun l hlm => by
    refine ⟨join_nn k (gI_nn k v u l), ?_, ?_⟩
    · have := join_bound k (B := 392040000) (by decide) (a := l.map (gI k v u)) (fun n hn => by
        obtain ⟨i, _, rfl⟩ := List.mem_map.mp hn
        exact gb i) (by rw [List.length_map]; exact llo l hlm)
      omega
    · have := join_mem k (fun l => l.map (gI k v u)) (fun l => gI_nn k v u l) hlm
      rw [e_flat] at this
      exact this
  refine loop_ix (fun i ρ' M2 => M2 = M' ∧ ∃ v8 v14 : Option D, ρ' = [some (.tok a), some (.str k), some (vec v), some (vec u), some (.int (distI k v u)), some (.int (distI k v u)), some (.lst (st.map .int)),
      some (.lst ((lots.map fun l => joinI k (l.map (gI k v u))).map .int)), v8, none, none, none, some (.tup (nums order)), some (.lst (lots.map fun l => .tup (nums l))), v14, none, none, none]) ?_ ?_ ⟨rfl, _, _, rfl⟩
  · rintro i d ρ' M2 hi ⟨rfl, v8, v14, rfl⟩
    obtain ⟨li, rfl⟩ := intsD_get hi
    refine ⟨True.intro, fun K' hK' => ?_⟩
    obtain ⟨l, el⟩ : ∃ l, l = lots[i] := ⟨_, rfl⟩
    have hlm : l ∈ lots := by rw [el]; exact List.getElem_mem li
    have e1 : (lots.map fun l => D.tup (nums l))[i]? = some (.tup (nums l)) := by rw [List.getElem?_map, List.getElem?_eq_getElem li, el]; rfl
    have e2 : ((lots.map fun l => joinI k (l.map (gI k v u))).map D.int)[i]? = some (.int (joinI k (l.map (gI k v u)))) := by rw [List.getElem?_map, List.getElem?_map, List.getElem?_eq_getElem li, el]; rfl
    have l8 := llo l hlm
    obtain ⟨j0, j1, j2⟩ := jb l hlm
    have rj : rb (joinI k (l.map (gI k v u))) := ⟨j0, by omega⟩
    rw [Int.zero_add]
    simp only [wgName, List.set_cons_succ, List.set_cons_zero]
    subst hB
    refine seq_gen fun K2 hK2 => ?_
    simp (disch := first | assumption | decide) only [wSeq, wNext, wAsg, wgName, wIfS, wB, wOp, wVar, wC, wCall, wCallK, wCons, wNil, wRet, wRetN, wDrop, wTup, wLst, wIf, wAnd, wOr, wNot, wAndV, wOrV, wNotV, wNeg, wChain, fI, fI0, addD, fLt, fLe, fGt, fGe, fIsB, wCB, fAbs, f2I, fInt, fIsq, wPar, wPar3, permD, startE, List.map_cons, List.map_nil, List.cons_append, List.nil_append, List.append_nil, List.length_cons, List.length_nil, List.replicate, List.getElem?_cons_zero, List.getElem?_cons_succ, List.set_cons_zero, List.set_cons_succ, List.getD_cons_zero, List.getD_cons_succ, Nat.reduceAdd, Nat.reduceSub, Nat.zero_add, true_and, and_true, Bool.not_true, Bool.not_false, if_true, if_false, Bool.false_eq_true, reduceIte, decide_eq_true_eq, Bool.not_eq_true', decide_eq_false_iff_not, eqV_int, eqV_str, eqV_bl, decide_true, reduceCtorEq, not_true_eq_false, not_false_eq_true, Bool.not_eq_true, List.not_mem_nil, false_implies, implies_true, Int.reduceNeg, Int.reduceToNat, Int.reducePow, Int.reduceMul, Int.reduceAdd, draw_i, wLc, wiSeq, wipeE]
    refine ix_at e1 ?_
    show wLcL _ _ _ _ _ (nums l) [] _ _
    refine lc_nums (fun i => v.getD i 0) l (by omega) (fun i hi K3 hK3 => ?_) ?_
    · have hi := mlo l hlm i hi
      simp (disch := first | assumption | decide) only [wSeq, wNext, wAsg, wgName, wIfS, wB, wOp, wVar, wC, wCall, wCallK, wCons, wNil, wRet, wRetN, wDrop, wTup, wLst, wIf, wAnd, wOr, wNot, wAndV, wOrV, wNotV, wNeg, wChain, fI, fI0, addD, fLt, fLe, fGt, fGe, fIsB, wCB, fAbs, f2I, fInt, fIsq, wPar, wPar3, permD, startE, List.map_cons, List.map_nil, List.cons_append, List.nil_append, List.append_nil, List.length_cons, List.length_nil, List.replicate, List.getElem?_cons_zero, List.getElem?_cons_succ, List.set_cons_zero, List.set_cons_succ, List.getD_cons_zero, List.getD_cons_succ, Nat.reduceAdd, Nat.reduceSub, Nat.zero_add, true_and, and_true, Bool.not_true, Bool.not_false, if_true, if_false, Bool.false_eq_true, reduceIte, decide_eq_true_eq, Bool.not_eq_true', decide_eq_false_iff_not, eqV_int, eqV_str, eqV_bl, decide_true, reduceCtorEq, not_true_eq_false, not_false_eq_true, Bool.not_eq_true, List.not_mem_nil, false_implies, implies_true, Int.reduceNeg, Int.reduceToNat, Int.reducePow, Int.reduceMul, Int.reduceAdd, draw_i]
      exact ix_seqd (v := v) rfl hi hK3
    refine ix_at e1 ?_
    show wLcL _ _ _ _ _ (nums l) [] _ _
    refine lc_nums (fun i => u.getD i 0) l (by omega) (fun i hi K3 hK3 => ?_) ?_
    · have hi := mlo l hlm i hi
      simp (disch := first | assumption | decide) only [wSeq, wNext, wAsg, wgName, wIfS, wB, wOp, wVar, wC, wCall, wCallK, wCons, wNil, wRet, wRetN, wDrop, wTup, wLst, wIf, wAnd, wOr, wNot, wAndV, wOrV, wNotV, wNeg, wChain, fI, fI0, addD, fLt, fLe, fGt, fGe, fIsB, wCB, fAbs, f2I, fInt, fIsq, wPar, wPar3, permD, startE, List.map_cons, List.map_nil, List.cons_append, List.nil_append, List.append_nil, List.length_cons, List.length_nil, List.replicate, List.getElem?_cons_zero, List.getElem?_cons_succ, List.set_cons_zero, List.set_cons_succ, List.getD_cons_zero, List.getD_cons_succ, Nat.reduceAdd, Nat.reduceSub, Nat.zero_add, true_and, and_true, Bool.not_true, Bool.not_false, if_true, if_false, Bool.false_eq_true, reduceIte, decide_eq_true_eq, Bool.not_eq_true', decide_eq_false_iff_not, eqV_int, eqV_str, eqV_bl, decide_true, reduceCtorEq, not_true_eq_false, not_false_eq_true, Bool.not_eq_true, List.not_mem_nil, false_implies, implies_true, Int.reduceNeg, Int.reduceToNat, Int.reducePow, Int.reduceMul, Int.reduceAdd, draw_i]
      exact ix_seqd (v := u) rfl (by omega) hK3
    refine ⟨k, _, _, atI' v l, atI' u l, rfl, rfl, rfl, by unfold atI'; rw [List.length_map, List.length_map], at_sm hv (by omega), at_sm hu (by omega), ?_⟩
    rw [dist_at]
    subst hK2
    simp (disch := first | assumption | decide) only [wSeq, wNext, wAsg, wgName, wIfS, wB, wOp, wVar, wC, wCall, wCallK, wCons, wNil, wRet, wRetN, wDrop, wTup, wLst, wIf, wAnd, wOr, wNot, wAndV, wOrV, wNotV, wNeg, wChain, fI, fI0, addD, fLt, fLe, fGt, fGe, fIsB, wCB, fAbs, f2I, fInt, fIsq, wPar, wPar3, permD, startE, List.map_cons, List.map_nil, List.cons_append, List.nil_append, List.append_nil, List.length_cons, List.length_nil, List.replicate, List.getElem?_cons_zero, List.getElem?_cons_succ, List.set_cons_zero, List.set_cons_succ, List.getD_cons_zero, List.getD_cons_succ, Nat.reduceAdd, Nat.reduceSub, Nat.zero_add, true_and, and_true, Bool.not_true, Bool.not_false, if_true, if_false, Bool.false_eq_true, reduceIte, decide_eq_true_eq, Bool.not_eq_true', decide_eq_false_iff_not, eqV_int, eqV_str, eqV_bl, decide_true, reduceCtorEq, not_true_eq_false, not_false_eq_true, Bool.not_eq_true, List.not_mem_nil, false_implies, implies_true, Int.reduceNeg, Int.reduceToNat, Int.reducePow, Int.reduceMul, Int.reduceAdd, draw_i]
    refine ix_at e2 ?_
    simp (disch := first | assumption | decide) only [wSeq, wNext, wAsg, wgName, wIfS, wB, wOp, wVar, wC, wCall, wCallK, wCons, wNil, wRet, wRetN, wDrop, wTup, wLst, wIf, wAnd, wOr, wNot, wAndV, wOrV, wNotV, wNeg, wChain, fI, fI0, addD, fLt, fLe, fGt, fGe, fIsB, wCB, fAbs, f2I, fInt, fIsq, wPar, wPar3, permD, startE, List.map_cons, List.map_nil, List.cons_append, List.nil_append, List.append_nil, List.length_cons, List.length_nil, List.replicate, List.getElem?_cons_zero, List.getElem?_cons_succ, List.set_cons_zero, List.set_cons_succ, List.getD_cons_zero, List.getD_cons_succ, Nat.reduceAdd, Nat.reduceSub, Nat.zero_add, true_and, and_true, Bool.not_true, Bool.not_false, if_true, if_false, Bool.false_eq_true, reduceIte, decide_eq_true_eq, Bool.not_eq_true', decide_eq_false_iff_not, eqV_int, eqV_str, eqV_bl, decide_true, reduceCtorEq, not_true_eq_false, not_false_eq_true, Bool.not_eq_true, List.not_mem_nil, false_implies, implies_true, Int.reduceNeg, Int.reduceToNat, Int.reducePow, Int.reduceMul, Int.reduceAdd, draw_i, repr_rb, Int.not_lt.mpr j2]
    refine ix_at e1 ?_
    refine ⟨k, v, u, l, rfl, hv, hu, by omega, fun i hi => ⟨mlo l hlm i hi, by have := mlo l hlm i hi; omega⟩, ?_⟩
    rw [dist_at]
    simp (disch := first | assumption | decide) only [wSeq, wNext, wAsg, wgName, wIfS, wB, wOp, wVar, wC, wCall, wCallK, wCons, wNil, wRet, wRetN, wDrop, wTup, wLst, wIf, wAnd, wOr, wNot, wAndV, wOrV, wNotV, wNeg, wChain, fI, fI0, addD, fLt, fLe, fGt, fGe, fIsB, wCB, fAbs, f2I, fInt, fIsq, wPar, wPar3, permD, startE, List.map_cons, List.map_nil, List.cons_append, List.nil_append, List.append_nil, List.length_cons, List.length_nil, List.replicate, List.getElem?_cons_zero, List.getElem?_cons_succ, List.set_cons_zero, List.set_cons_succ, List.getD_cons_zero, List.getD_cons_succ, Nat.reduceAdd, Nat.reduceSub, Nat.zero_add, true_and, and_true, Bool.not_true, Bool.not_false, if_true, if_false, Bool.false_eq_true, reduceIte, decide_eq_true_eq, Bool.not_eq_true', decide_eq_false_iff_not, eqV_int, eqV_str, eqV_bl, decide_true, reduceCtorEq, not_true_eq_false, not_false_eq_true, Bool.not_eq_true, List.not_mem_nil, false_implies, implies_true, Int.reduceNeg, Int.reduceToNat, Int.reducePow, Int.reduceMul, Int.reduceAdd, draw_i]
    exact hK' _ _ ⟨rfl, _, _, rfl⟩
  · rintro ρ' M2 ⟨rfl, v8, v14, rfl⟩
    refine ⟨True.intro, ?_⟩
    show K _ _
    subst hK
    refine seq_gen fun K hK => ?_
    simp (disch := first | assumption | decide) only [wSeq, wNext, wAsg, wgName, wIfS, wB, wOp, wVar, wC, wCall, wCallK, wCons, wNil, wRet, wRetN, wDrop, wTup, wLst, wIf, wAnd, wOr, wNot, wAndV, wOrV, wNotV, wNeg, wChain, fI, fI0, addD, fLt, fLe, fGt, fGe, fIsB, wCB, fAbs, f2I, fInt, fIsq, wPar, wPar3, permD, startE, List.map_cons, List.map_nil, List.cons_append, List.nil_append, List.append_nil, List.length_cons, List.length_nil, List.replicate, List.getElem?_cons_zero, List.getElem?_cons_succ, List.set_cons_zero, List.set_cons_succ, List.getD_cons_zero, List.getD_cons_succ, Nat.reduceAdd, Nat.reduceSub, Nat.zero_add, true_and, and_true, Bool.not_true, Bool.not_false, if_true, if_false, Bool.false_eq_true, reduceIte, decide_eq_true_eq, Bool.not_eq_true', decide_eq_false_iff_not, eqV_int, eqV_str, eqV_bl, decide_true, reduceCtorEq, not_true_eq_false, not_false_eq_true, Bool.not_eq_true, List.not_mem_nil, false_implies, implies_true, Int.reduceNeg, Int.reduceToNat, Int.reducePow, Int.reduceMul, Int.reduceAdd, draw_i, wSl, wNoP, slD]
    refine ⟨_, ⟨0, .inr rfl⟩, rfl, ?_⟩
    rw [cut_all]
    subst hK
    refine seq_gen fun K hK => ?_
    have sGG : small (lots.map fun l => joinI k (l.map (gI k v u))) := ⟨by rw [List.length_map]; omega, fun n hn => by
      obtain ⟨l, hlm, rfl⟩ := List.mem_map.mp hn
      have := jb l hlm
      omega⟩
    have jG : joinI k (lots.map fun l => joinI k (l.map (gI k v u))) = distI k v u := (join_flat k (fun l => l.map (gI k v u)) lots).trans e_flat
    simp (disch := first | assumption | decide) only [wSeq, wNext, wAsg, wgName, wIfS, wB, wOp, wVar, wC, wCall, wCallK, wCons, wNil, wRet, wRetN, wDrop, wTup, wLst, wIf, wAnd, wOr, wNot, wAndV, wOrV, wNotV, wNeg, wChain, fI, fI0, addD, fLt, fLe, fGt, fGe, fIsB, wCB, fAbs, f2I, fInt, fIsq, wPar, wPar3, permD, startE, List.map_cons, List.map_nil, List.cons_append, List.nil_append, List.append_nil, List.length_cons, List.length_nil, List.replicate, List.getElem?_cons_zero, List.getElem?_cons_succ, List.set_cons_zero, List.set_cons_succ, List.getD_cons_zero, List.getD_cons_succ, Nat.reduceAdd, Nat.reduceSub, Nat.zero_add, true_and, and_true, Bool.not_true, Bool.not_false, if_true, if_false, Bool.false_eq_true, reduceIte, decide_eq_true_eq, Bool.not_eq_true', decide_eq_false_iff_not, eqV_int, eqV_str, eqV_bl, decide_true, reduceCtorEq, not_true_eq_false, not_false_eq_true, Bool.not_eq_true, List.not_mem_nil, false_implies, implies_true, Int.reduceNeg, Int.reduceToNat, Int.reducePow, Int.reduceMul, Int.reduceAdd, draw_i, fTuple]
    refine ⟨k, _, _, rfl, rfl, sGG, ?_⟩
    rw [jG]
    simp (disch := first | assumption | decide) only [wSeq, wNext, wAsg, wgName, wIfS, wB, wOp, wVar, wC, wCall, wCallK, wCons, wNil, wRet, wRetN, wDrop, wTup, wLst, wIf, wAnd, wOr, wNot, wAndV, wOrV, wNotV, wNeg, wChain, fI, fI0, addD, fLt, fLe, fGt, fGe, fIsB, wCB, fAbs, f2I, fInt, fIsq, wPar, wPar3, permD, startE, List.map_cons, List.map_nil, List.cons_append, List.nil_append, List.append_nil, List.length_cons, List.length_nil, List.replicate, List.getElem?_cons_zero, List.getElem?_cons_succ, List.set_cons_zero, List.set_cons_succ, List.getD_cons_zero, List.getD_cons_succ, Nat.reduceAdd, Nat.reduceSub, Nat.zero_add, true_and, and_true, Bool.not_true, Bool.not_false, if_true, if_false, Bool.false_eq_true, reduceIte, decide_eq_true_eq, Bool.not_eq_true', decide_eq_false_iff_not, eqV_int, eqV_str, eqV_bl, decide_true, reduceCtorEq, not_true_eq_false, not_false_eq_true, Bool.not_eq_true, List.not_mem_nil, false_implies, implies_true, Int.reduceNeg, Int.reduceToNat, Int.reducePow, Int.reduceMul, Int.reduceAdd, draw_i, repr_rb]
    refine ⟨_, rfl, k, _, _, rfl, rfl, sGG, ?_⟩
    rw [jG]
    simp (disch := first | assumption | decide) only [wSeq, wNext, wAsg, wgName, wIfS, wB, wOp, wVar, wC, wCall, wCallK, wCons, wNil, wRet, wRetN, wDrop, wTup, wLst, wIf, wAnd, wOr, wNot, wAndV, wOrV, wNotV, wNeg, wChain, fI, fI0, addD, fLt, fLe, fGt, fGe, fIsB, wCB, fAbs, f2I, fInt, fIsq, wPar, wPar3, permD, startE, List.map_cons, List.map_nil, List.cons_append, List.nil_append, List.append_nil, List.length_cons, List.length_nil, List.replicate, List.getElem?_cons_zero, List.getElem?_cons_succ, List.set_cons_zero, List.set_cons_succ, List.getD_cons_zero, List.getD_cons_succ, Nat.reduceAdd, Nat.reduceSub, Nat.zero_add, true_and, and_true, Bool.not_true, Bool.not_false, if_true, if_false, Bool.false_eq_true, reduceIte, decide_eq_true_eq, Bool.not_eq_true', decide_eq_false_iff_not, eqV_int, eqV_str, eqV_bl, decide_true, reduceCtorEq, not_true_eq_false, not_false_eq_true, Bool.not_eq_true, List.not_mem_nil, false_implies, implies_true, Int.reduceNeg, Int.reduceToNat, Int.reducePow, Int.reduceMul, Int.reduceAdd, draw_i, eqV_ints]
    clear jG sGG
    subst hK
    refine seq_gen fun K hK => ?_
    have dif : ∀ i, -19800 ≤ v.getD i 0 - u.getD i 0 ∧ v.getD i 0 - u.getD i 0 ≤ 19800 := fun i => by
      have z1 := get_b (B := 9900) (by decide) bv i
      have z2 := get_b (B := 9900) (by decide) bu i
      omega
    have e_all : joinI k ((List.range v.length).map (gI k v u)) = distI k v u := (dist_all k hl).symm
    have sG : small ((List.range v.length).map (gI k v u)) := ⟨by rw [List.length_map, lr]; omega, fun n hn => by
      obtain ⟨i, _, rfl⟩ := List.mem_map.mp hn
      have := gb i
      omega⟩
    have rG : ∀ n ∈ (List.range v.length).map (gI k v u), rb n := fun n hn => ⟨(sG.2 n hn).1, by have := (sG.2 n hn).2; omega⟩
    have lG : ((List.range v.length).map (gI k v u)).length ≤ 1000 := by rw [List.length_map, lr]; omega
    simp (disch := first | assumption | decide) only [wSeq, wNext, wAsg, wgName, wIfS, wB, wOp, wVar, wC, wCall, wCallK, wCons, wNil, wRet, wRetN, wDrop, wTup, wLst, wIf, wAnd, wOr, wNot, wAndV, wOrV, wNotV, wNeg, wChain, fI, fI0, addD, fLt, fLe, fGt, fGe, fIsB, wCB, fAbs, f2I, fInt, fIsq, wPar, wPar3, permD, startE, List.map_cons, List.map_nil, List.cons_append, List.nil_append, List.append_nil, List.length_cons, List.length_nil, List.replicate, List.getElem?_cons_zero, List.getElem?_cons_succ, List.set_cons_zero, List.set_cons_succ, List.getD_cons_zero, List.getD_cons_succ, Nat.reduceAdd, Nat.reduceSub, Nat.zero_add, true_and, and_true, Bool.not_true, Bool.not_false, if_true, if_false, Bool.false_eq_true, reduceIte, decide_eq_true_eq, Bool.not_eq_true', decide_eq_false_iff_not, eqV_int, eqV_str, eqV_bl, decide_true, reduceCtorEq, not_true_eq_false, not_false_eq_true, Bool.not_eq_true, List.not_mem_nil, false_implies, implies_true, Int.reduceNeg, Int.reduceToNat, Int.reducePow, Int.reduceMul, Int.reduceAdd, draw_i, wLc, wiRange1, wipeE, len_vec]
    refine ⟨by omega, by omega, ?_⟩
    rw [Int.toNat_natCast, nums_range]
    refine lc_nums (gI k v u) _ (by omega) (fun i hi K2 hK2 => ?_) ?_
    · have hi := List.mem_range.mp hi
      have := dif i
      simp (disch := first | assumption | decide) only [wSeq, wNext, wAsg, wgName, wIfS, wB, wOp, wVar, wC, wCall, wCallK, wCons, wNil, wRet, wRetN, wDrop, wTup, wLst, wIf, wAnd, wOr, wNot, wAndV, wOrV, wNotV, wNeg, wChain, fI, fI0, addD, fLt, fLe, fGt, fGe, fIsB, wCB, fAbs, f2I, fInt, fIsq, wPar, wPar3, permD, startE, List.map_cons, List.map_nil, List.cons_append, List.nil_append, List.append_nil, List.length_cons, List.length_nil, List.replicate, List.getElem?_cons_zero, List.getElem?_cons_succ, List.set_cons_zero, List.set_cons_succ, List.getD_cons_zero, List.getD_cons_succ, Nat.reduceAdd, Nat.reduceSub, Nat.zero_add, true_and, and_true, Bool.not_true, Bool.not_false, if_true, if_false, Bool.false_eq_true, reduceIte, decide_eq_true_eq, Bool.not_eq_true', decide_eq_false_iff_not, eqV_int, eqV_str, eqV_bl, decide_true, reduceCtorEq, not_true_eq_false, not_false_eq_true, Bool.not_eq_true, List.not_mem_nil, false_implies, implies_true, Int.reduceNeg, Int.reduceToNat, Int.reducePow, Int.reduceMul, Int.reduceAdd, draw_i]
      refine ix_seqd (v := v) rfl hi (ix_seqd (v := u) rfl (by omega) ?_)
      exact ⟨k, _, rfl, by omega, by omega, hK2⟩
    subst hK
    refine seq_gen fun K hK => ?_
    simp (disch := first | assumption | decide) only [wSeq, wNext, wAsg, wgName, wIfS, wB, wOp, wVar, wC, wCall, wCallK, wCons, wNil, wRet, wRetN, wDrop, wTup, wLst, wIf, wAnd, wOr, wNot, wAndV, wOrV, wNotV, wNeg, wChain, fI, fI0, addD, fLt, fLe, fGt, fGe, fIsB, wCB, fAbs, f2I, fInt, fIsq, wPar, wPar3, permD, startE, List.map_cons, List.map_nil, List.cons_append, List.nil_append, List.append_nil, List.length_cons, List.length_nil, List.replicate, List.getElem?_cons_zero, List.getElem?_cons_succ, List.set_cons_zero, List.set_cons_succ, List.getD_cons_zero, List.getD_cons_succ, Nat.reduceAdd, Nat.reduceSub, Nat.zero_add, true_and, and_true, Bool.not_true, Bool.not_false, if_true, if_false, Bool.false_eq_true, reduceIte, decide_eq_true_eq, Bool.not_eq_true', decide_eq_false_iff_not, eqV_int, eqV_str, eqV_bl, decide_true, reduceCtorEq, not_true_eq_false, not_false_eq_true, Bool.not_eq_true, List.not_mem_nil, false_implies, implies_true, Int.reduceNeg, Int.reduceToNat, Int.reducePow, Int.reduceMul, Int.reduceAdd, draw_i, wLc, wiRange1, wipeE, len_vec]
    refine repr_ints lG rG ?_
    refine ⟨by omega, by omega, ?_⟩
    rw [Int.toNat_natCast, nums_range]
    refine lc_nums (gI k v u) _ (by omega) (fun i hi K2 hK2 => ?_) ?_
    · have hi := List.mem_range.mp hi
      have z1 := get_b (B := 9900) (by decide) bv i
      have z2 := get_b (B := 9900) (by decide) bu i
      simp (disch := first | assumption | decide) only [wSeq, wNext, wAsg, wgName, wIfS, wB, wOp, wVar, wC, wCall, wCallK, wCons, wNil, wRet, wRetN, wDrop, wTup, wLst, wIf, wAnd, wOr, wNot, wAndV, wOrV, wNotV, wNeg, wChain, fI, fI0, addD, fLt, fLe, fGt, fGe, fIsB, wCB, fAbs, f2I, fInt, fIsq, wPar, wPar3, permD, startE, List.map_cons, List.map_nil, List.cons_append, List.nil_append, List.append_nil, List.length_cons, List.length_nil, List.replicate, List.getElem?_cons_zero, List.getElem?_cons_succ, List.set_cons_zero, List.set_cons_succ, List.getD_cons_zero, List.getD_cons_succ, Nat.reduceAdd, Nat.reduceSub, Nat.zero_add, true_and, and_true, Bool.not_true, Bool.not_false, if_true, if_false, Bool.false_eq_true, reduceIte, decide_eq_true_eq, Bool.not_eq_true', decide_eq_false_iff_not, eqV_int, eqV_str, eqV_bl, decide_true, reduceCtorEq, not_true_eq_false, not_false_eq_true, Bool.not_eq_true, List.not_mem_nil, false_implies, implies_true, Int.reduceNeg, Int.reduceToNat, Int.reducePow, Int.reduceMul, Int.reduceAdd, draw_i]
      refine ix_seqd (v := v) rfl hi (ix_seqd (v := u) rfl (by omega) ?_)
      exact ⟨k, _, _, rfl, by omega, by omega, by omega, by omega, hK2⟩
    refine repr_ints lG rG ?_
    simp (disch := first | assumption | decide) only [wSeq, wNext, wAsg, wgName, wIfS, wB, wOp, wVar, wC, wCall, wCallK, wCons, wNil, wRet, wRetN, wDrop, wTup, wLst, wIf, wAnd, wOr, wNot, wAndV, wOrV, wNotV, wNeg, wChain, fI, fI0, addD, fLt, fLe, fGt, fGe, fIsB, wCB, fAbs, f2I, fInt, fIsq, wPar, wPar3, permD, startE, List.map_cons, List.map_nil, List.cons_append, List.nil_append, List.append_nil, List.length_cons, List.length_nil, List.replicate, List.getElem?_cons_zero, List.getElem?_cons_succ, List.set_cons_zero, List.set_cons_succ, List.getD_cons_zero, List.getD_cons_succ, Nat.reduceAdd, Nat.reduceSub, Nat.zero_add, true_and, and_true, Bool.not_true, Bool.not_false, if_true, if_false, Bool.false_eq_true, reduceIte, decide_eq_true_eq, Bool.not_eq_true', decide_eq_false_iff_not, eqV_int, eqV_str, eqV_bl, decide_true, reduceCtorEq, not_true_eq_false, not_false_eq_true, Bool.not_eq_true, List.not_mem_nil, false_implies, implies_true, Int.reduceNeg, Int.reduceToNat, Int.reducePow, Int.reduceMul, Int.reduceAdd, draw_i]
    refine ⟨k, _, _, rfl, rfl, sG, ?_⟩
    rw [e_all]
    simp (disch := first | assumption | decide) only [wSeq, wNext, wAsg, wgName, wIfS, wB, wOp, wVar, wC, wCall, wCallK, wCons, wNil, wRet, wRetN, wDrop, wTup, wLst, wIf, wAnd, wOr, wNot, wAndV, wOrV, wNotV, wNeg, wChain, fI, fI0, addD, fLt, fLe, fGt, fGe, fIsB, wCB, fAbs, f2I, fInt, fIsq, wPar, wPar3, permD, startE, List.map_cons, List.map_nil, List.cons_append, List.nil_append, List.append_nil, List.length_cons, List.length_nil, List.replicate, List.getElem?_cons_zero, List.getElem?_cons_succ, List.set_cons_zero, List.set_cons_succ, List.getD_cons_zero, List.getD_cons_succ, Nat.reduceAdd, Nat.reduceSub, Nat.zero_add, true_and, and_true, Bool.not_true, Bool.not_false, if_true, if_false, Bool.false_eq_true, reduceIte, decide_eq_true_eq, Bool.not_eq_true', decide_eq_false_iff_not, eqV_int, eqV_str, eqV_bl, decide_true, reduceCtorEq, not_true_eq_false, not_false_eq_true, Bool.not_eq_true, List.not_mem_nil, false_implies, implies_true, Int.reduceNeg, Int.reduceToNat, Int.reducePow, Int.reduceMul, Int.reduceAdd, draw_i]
    subst hK
    refine seq_gen fun K hK => ?_
    simp (disch := first | assumption | decide) only [wSeq, wNext, wAsg, wgName, wIfS, wB, wOp, wVar, wC, wCall, wCallK, wCons, wNil, wRet, wRetN, wDrop, wTup, wLst, wIf, wAnd, wOr, wNot, wAndV, wOrV, wNotV, wNeg, wChain, fI, fI0, addD, fLt, fLe, fGt, fGe, fIsB, wCB, fAbs, f2I, fInt, fIsq, wPar, wPar3, permD, startE, List.map_cons, List.map_nil, List.cons_append, List.nil_append, List.append_nil, List.length_cons, List.length_nil, List.replicate, List.getElem?_cons_zero, List.getElem?_cons_succ, List.set_cons_zero, List.set_cons_succ, List.getD_cons_zero, List.getD_cons_succ, Nat.reduceAdd, Nat.reduceSub, Nat.zero_add, true_and, and_true, Bool.not_true, Bool.not_false, if_true, if_false, Bool.false_eq_true, reduceIte, decide_eq_true_eq, Bool.not_eq_true', decide_eq_false_iff_not, eqV_int, eqV_str, eqV_bl, decide_true, reduceCtorEq, not_true_eq_false, not_false_eq_true, Bool.not_eq_true, List.not_mem_nil, false_implies, implies_true, Int.reduceNeg, Int.reduceToNat, Int.reducePow, Int.reduceMul, Int.reduceAdd, draw_i]
    have v0 : 0 < v.length := by omega
    have e0 : partI k (u.getD 0 0 - v.getD 0 0) = gI k v u 0 := by
      unfold gI
      have e : u.getD 0 0 - v.getD 0 0 = -(v.getD 0 0 - u.getD 0 0) := by omega
      rw [e, part_neg]
    have ez : joinI k [] = 0 := by
      unfold joinI
      split <;> rfl
    have eg0 : (((List.range v.length).map (gI k v u)).map D.int)[0]? = some (.int (gI k v u 0)) := by
      rw [List.getElem?_map, List.getElem?_map, List.getElem?_range v0]
      rfl
    have d0 := dif 0
    refine ix_seqd (v := u) (i := 0) rfl (by omega) (ix_seqd (v := v) (i := 0) rfl v0 ?_)
    refine ⟨k, _, rfl, by omega, by omega, ?_⟩
    rw [e0]
    refine ix_at (i := 0) eg0 ?_
    simp (disch := first | assumption | decide) only [wSeq, wNext, wAsg, wgName, wIfS, wB, wOp, wVar, wC, wCall, wCallK, wCons, wNil, wRet, wRetN, wDrop, wTup, wLst, wIf, wAnd, wOr, wNot, wAndV, wOrV, wNotV, wNeg, wChain, fI, fI0, addD, fLt, fLe, fGt, fGe, fIsB, wCB, fAbs, f2I, fInt, fIsq, wPar, wPar3, permD, startE, List.map_cons, List.map_nil, List.cons_append, List.nil_append, List.append_nil, List.length_cons, List.length_nil, List.replicate, List.getElem?_cons_zero, List.getElem?_cons_succ, List.set_cons_zero, List.set_cons_succ, List.getD_cons_zero, List.getD_cons_succ, Nat.reduceAdd, Nat.reduceSub, Nat.zero_add, true_and, and_true, Bool.not_true, Bool.not_false, if_true, if_false, Bool.false_eq_true, reduceIte, decide_eq_true_eq, Bool.not_eq_true', decide_eq_false_iff_not, eqV_int, eqV_str, eqV_bl, decide_true, reduceCtorEq, not_true_eq_false, not_false_eq_true, Bool.not_eq_true, List.not_mem_nil, false_implies, implies_true, Int.reduceNeg, Int.reduceToNat, Int.reducePow, Int.reduceMul, Int.reduceAdd, draw_i]
    refine ⟨Nat.zero_le _, k, _, [], rfl, rfl, ⟨by decide, fun n hn => by cases hn⟩, ?_⟩
    rw [ez]
    simp (disch := first | assumption | decide) only [wSeq, wNext, wAsg, wgName, wIfS, wB, wOp, wVar, wC, wCall, wCallK, wCons, wNil, wRet, wRetN, wDrop, wTup, wLst, wIf, wAnd, wOr, wNot, wAndV, wOrV, wNotV, wNeg, wChain, fI, fI0, addD, fLt, fLe, fGt, fGe, fIsB, wCB, fAbs, f2I, fInt, fIsq, wPar, wPar3, permD, startE, List.map_cons, List.map_nil, List.cons_append, List.nil_append, List.append_nil, List.length_cons, List.length_nil, List.replicate, List.getElem?_cons_zero, List.getElem?_cons_succ, List.set_cons_zero, List.set_cons_succ, List.getD_cons_zero, List.getD_cons_succ, Nat.reduceAdd, Nat.reduceSub, Nat.zero_add, true_and, and_true, Bool.not_true, Bool.not_false, if_true, if_false, Bool.false_eq_true, reduceIte, decide_eq_true_eq, Bool.not_eq_true', decide_eq_false_iff_not, eqV_int, eqV_str, eqV_bl, decide_true, reduceCtorEq, not_true_eq_false, not_false_eq_true, Bool.not_eq_true, List.not_mem_nil, false_implies, implies_true, Int.reduceNeg, Int.reduceToNat, Int.reducePow, Int.reduceMul, Int.reduceAdd, draw_i]
    subst hK
    refine seq_gen fun K hK => ?_
    refine for_gen fun B hB => ?_
    simp (disch := first | assumption | decide) only [wSeq, wNext, wAsg, wgName, wIfS, wB, wOp, wVar, wC, wCall, wCallK, wCons, wNil, wRet, wRetN, wDrop, wTup, wLst, wIf, wAnd, wOr, wNot, wAndV, wOrV, wNotV, wNeg, wChain, fI, fI0, addD, fLt, fLe, fGt, fGe, fIsB, wCB, fAbs, f2I, fInt, fIsq, wPar, wPar3, permD, startE, List.map_cons, List.map_nil, List.cons_append, List.nil_append, List.append_nil, List.length_cons, List.length_nil, List.replicate, List.getElem?_cons_zero, List.getElem?_cons_succ, List.set_cons_zero, List.set_cons_succ, List.getD_cons_zero, List.getD_cons_succ, Nat.reduceAdd, Nat.reduceSub, Nat.zero_add, true_and, and_true, Bool.not_true, Bool.not_false, if_true, if_false, Bool.false_eq_true, reduceIte, decide_eq_true_eq, Bool.not_eq_true', decide_eq_false_iff_not, eqV_int, eqV_str, eqV_bl, decide_true, reduceCtorEq, not_true_eq_false, not_false_eq_true, Bool.not_eq_true, List.not_mem_nil, false_implies, implies_true, Int.reduceNeg, Int.reduceToNat, Int.reducePow, Int.reduceMul, Int.reduceAdd, draw_i, wFor, wiSeq]
    refine ⟨cm_of (by decide) (by decide), (draw_i hm' (by omega) (log_of (by omega) (by omega))).mpr fun r1 a1 a2 => ?_⟩
    simp (disch := first | assumption | decide) only [wSeq, wNext, wAsg, wgName, wIfS, wB, wOp, wVar, wC, wCall, wCallK, wCons, wNil, wRet, wRetN, wDrop, wTup, wLst, wIf, wAnd, wOr, wNot, wAndV, wOrV, wNotV, wNeg, wChain, fI, fI0, addD, fLt, fLe, fGt, fGe, fIsB, wCB, fAbs, f2I, fInt, fIsq, wPar, wPar3, permD, startE, List.map_cons, List.map_nil, List.cons_append, List.nil_append, List.append_nil, List.length_cons, List.length_nil, List.replicate, List.getElem?_cons_zero, List.getElem?_cons_succ, List.set_cons_zero, List.set_cons_succ, List.getD_cons_zero, List.getD_cons_succ, Nat.reduceAdd, Nat.reduceSub, Nat.zero_add, true_and, and_true, Bool.not_true, Bool.not_false, if_true, if_false, Bool.false_eq_true, reduceIte, decide_eq_true_eq, Bool.not_eq_true', decide_eq_false_iff_not, eqV_int, eqV_str, eqV_bl, decide_true, reduceCtorEq, not_true_eq_false, not_false_eq_true, Bool.not_eq_true, List.not_mem_nil, false_implies, implies_true, Int.reduceNeg, Int.reduceToNat, Int.reducePow, Int.reduceMul, Int.reduceAdd, draw_i]
    intro r2 a3 a4
    refine ⟨by decide, ?_⟩
    refine loop_ix (fun i ρ' M3 => M3 = M2 ∧ ∃ v11 : Option D, ρ' = [some (.tok a), some (.str k), some (vec v), some (vec u), some (.int (distI k v u)), some (.int (distI k v u)), some (.lst (st.map .int)),
      some (.lst ((lots.map fun l => joinI k (l.map (gI k v u))).map .int)), v8, some (.lst ((lots.map fun l => joinI k (l.map (gI k v u))).map .int)), some (.lst (((List.range v.length).map (gI k v u)).map .int)), v11, some (.tup (nums order)), some (.lst (lots.map fun l => .tup (nums l))), v14, none, none, none]) ?_ ?_ ⟨rfl, _, rfl⟩
    · rintro i d ρ' M3 hi ⟨rfl, v11, rfl⟩
      refine ⟨True.intro, fun K' hK' => ?_⟩
      obtain ⟨r, rfl⟩ : ∃ r : Int, d = .int r := by
        have hm2 := List.mem_of_getElem? hi
        simp only [List.mem_cons, List.not_mem_nil, or_false] at hm2
        rcases hm2 with rfl | rfl | rfl | rfl | rfl <;> exact ⟨_, rfl⟩
      simp only [wgName, List.set_cons_succ, List.set_cons_zero]
      subst hB
      simp (disch := first | assumption | decide) only [wSeq, wNext, wAsg, wgName, wIfS, wB, wOp, wVar, wC, wCall, wCallK, wCons, wNil, wRet, wRetN, wDrop, wTup, wLst, wIf, wAnd, wOr, wNot, wAndV, wOrV, wNotV, wNeg, wChain, fI, fI0, addD, fLt, fLe, fGt, fGe, fIsB, wCB, fAbs, f2I, fInt, fIsq, wPar, wPar3, permD, startE, List.map_cons, List.map_nil, List.cons_append, List.nil_append, List.append_nil, List.length_cons, List.length_nil, List.replicate, List.getElem?_cons_zero, List.getElem?_cons_succ, List.set_cons_zero, List.set_cons_succ, List.getD_cons_zero, List.getD_cons_succ, Nat.reduceAdd, Nat.reduceSub, Nat.zero_add, true_and, and_true, Bool.not_true, Bool.not_false, if_true, if_false, Bool.false_eq_true, reduceIte, decide_eq_true_eq, Bool.not_eq_true', decide_eq_false_iff_not, eqV_int, eqV_str, eqV_bl, decide_true, reduceCtorEq, not_true_eq_false, not_false_eq_true, Bool.not_eq_true, List.not_mem_nil, false_implies, implies_true, Int.reduceNeg, Int.reduceToNat, Int.reducePow, Int.reduceMul, Int.reduceAdd, draw_i]
      refine ⟨k, v, u, r, rfl, hv, hu, ?_⟩
      simp (disch := first | assumption | decide) only [wSeq, wNext, wAsg, wgName, wIfS, wB, wOp, wVar, wC, wCall, wCallK, wCons, wNil, wRet, wRetN, wDrop, wTup, wLst, wIf, wAnd, wOr, wNot, wAndV, wOrV, wNotV, wNeg, wChain, fI, fI0, addD, fLt, fLe, fGt, fGe, fIsB, wCB, fAbs, f2I, fInt, fIsq, wPar, wPar3, permD, startE, List.map_cons, List.map_nil, List.cons_append, List.nil_append, List.append_nil, List.length_cons, List.length_nil, List.replicate, List.getElem?_cons_zero, List.getElem?_cons_succ, List.set_cons_zero, List.set_cons_succ, List.getD_cons_zero, List.getD_cons_succ, Nat.reduceAdd, Nat.reduceSub, Nat.zero_add, true_and, and_true, Bool.not_true, Bool.not_false, if_true, if_false, Bool.false_eq_true, reduceIte, decide_eq_true_eq, Bool.not_eq_true', decide_eq_false_iff_not, eqV_int, eqV_str, eqV_bl, decide_true, reduceCtorEq, not_true_eq_false, not_false_eq_true, Bool.not_eq_true, List.not_mem_nil, false_implies, implies_true, Int.reduceNeg, Int.reduceToNat, Int.reducePow, Int.reduceMul, Int.reduceAdd, draw_i, repr_bl]
      exact hK' _ _ ⟨rfl, _, rfl⟩
    · rintro ρ' M3 ⟨rfl, v11, rfl⟩
      refine ⟨True.intro, ?_⟩
      show K _ _
      subst hK
      simp (disch := first | assumption | decide) only [wSeq, wNext, wAsg, wgName, wIfS, wB, wOp, wVar, wC, wCall, wCallK, wCons, wNil, wRet, wRetN, wDrop, wTup, wLst, wIf, wAnd, wOr, wNot, wAndV, wOrV, wNotV, wNeg, wChain, fI, fI0, addD, fLt, fLe, fGt, fGe, fIsB, wCB, fAbs, f2I, fInt, fIsq, wPar, wPar3, permD, startE, List.map_cons, List.map_nil, List.cons_append, List.nil_append, List.append_nil, List.length_cons, List.length_nil, List.replicate, List.getElem?_cons_zero, List.getElem?_cons_succ, List.set_cons_zero, List.set_cons_succ, List.getD_cons_zero, List.getD_cons_succ, Nat.reduceAdd, Nat.reduceSub, Nat.zero_add, true_and, and_true, Bool.not_true, Bool.not_false, if_true, if_false, Bool.false_eq_true, reduceIte, decide_eq_true_eq, Bool.not_eq_true', decide_eq_false_iff_not, eqV_int, eqV_str, eqV_bl, decide_true, reduceCtorEq, not_true_eq_false, not_false_eq_true, Bool.not_eq_true, List.not_mem_nil, false_implies, implies_true, Int.reduceNeg, Int.reduceToNat, Int.reducePow, Int.reduceMul, Int.reduceAdd, draw_i]
      refine ⟨k, v, u, _, rfl, hv, hu, ?_⟩
      simp (disch := first | assumption | decide) only [wSeq, wNext, wAsg, wgName, wIfS, wB, wOp, wVar, wC, wCall, wCallK, wCons, wNil, wRet, wRetN, wDrop, wTup, wLst, wIf, wAnd, wOr, wNot, wAndV, wOrV, wNotV, wNeg, wChain, fI, fI0, addD, fLt, fLe, fGt, fGe, fIsB, wCB, fAbs, f2I, fInt, fIsq, wPar, wPar3, permD, startE, List.map_cons, List.map_nil, List.cons_append, List.nil_append, List.append_nil, List.length_cons, List.length_nil, List.replicate, List.getElem?_cons_zero, List.getElem?_cons_succ, List.set_cons_zero, List.set_cons_succ, List.getD_cons_zero, List.getD_cons_succ, Nat.reduceAdd, Nat.reduceSub, Nat.zero_add, true_and, and_true, Bool.not_true, Bool.not_false, if_true, if_false, Bool.false_eq_true, reduceIte, decide_eq_true_eq, Bool.not_eq_true', decide_eq_false_iff_not, eqV_int, eqV_str, eqV_bl, decide_true, reduceCtorEq, not_true_eq_false, not_false_eq_true, Bool.not_eq_true, List.not_mem_nil, false_implies, implies_true, Int.reduceNeg, Int.reduceToNat, Int.reducePow, Int.reduceMul, Int.reduceAdd, draw_i, Int.le_refl]
      exact q _ hm'
end K03
namespace K03
open PySem L2 L3
theorem at_i {M : Mp} {k : Str} {v u : List Int} {ps : List Nat} {Q : KD} {R} (hv : sm v) (hu : sm u) (hp : ps.length ≤ 64) (hq : ∀ p ∈ ps, p < v.length ∧ p < u.length) (q : Q (.int (distI k (atI' v ps) (atI' u ps))) M) : F_distance_at [.str k, vec v, vec u, .tup (nums ps)] M Q R := ⟨k, v, u, ps, rfl, hv, hu, hp, hq, q⟩
theorem repr_vecs {M : Mp} {vs : List (List Int)} {Q : KD} (hl : vs.length ≤ 12) (h : ∀ v ∈ vs, v.length ≤ 8 ∧ ∀ b ∈ v, -9900 ≤ b ∧ b ≤ 9900) (q : Q (.str (shown (.lst (vs.map vec)))) M) : fRepr [.lst (vs.map vec)] M Q := by
  refine ⟨⟨4, by decide, ?_⟩, ?_, q⟩
  · show shw 4 (.lst (vs.map vec))
    simp [shw, vec]
    intro v hv b hb
    have := ((h v hv).2 b hb)
    omega
  · show cost (.lst (vs.map vec)) ≤ _
    have c : ∀ ns : List Int, cost (.tup (ns.map .int)) ≤ 212 * ns.length + 4 := fun ns => by
      induction ns with
      | nil => simp [cost, costL]
      | cons n ns ih =>
        simp [cost, costL] at ih ⊢
        omega
    have c2 : ∀ vs : List (List Int), (∀ v ∈ vs, v.length ≤ 8) → costL (vs.map vec) ≤ 1710 * vs.length := fun vs => by
      induction vs with
      | nil => intro _; simp [costL]
      | cons v vs ih =>
        intro hh
        have z := ih fun w hw => hh w (List.mem_cons_of_mem _ hw)
        have y := c v
        have x := hh v List.mem_cons_self
        simp only [List.map_cons, costL, List.length_cons]
        show cost (.tup (v.map .int)) + 2 + _ ≤ _
        omega
    have := c2 vs fun v hv => (h v hv).1
    show costL (vs.map vec) + 4 ≤ _
    omega
theorem pair_i {M : Mp} {a a0 : Addr} {k : Str} {v u : List Int} {p : Nat} {Q : KD} {R} (hm : M a = some (.drw a0)) (lv : v.length = p) (lu : u.length = p) (p0 : 1 ≤ p) (p1 : p ≤ 8) (bv : ∀ b ∈ v, -9900 ≤ b ∧ b ≤ 9900) (bu : ∀ b ∈ u, -9900 ≤ b ∧ b ≤ 9900)
    (q : ∀ M', M' a = some (.drw a0) → Q (.bl true) M') : F__law_pair_right [.tok a, .str k, vec v, vec u] M Q R := ⟨a, a0, k, v, u, p, rfl, hm, lv, lu, p0, p1, bv, bu, q⟩
theorem kinds_lc {we : WE} {ρ : En} {M : Mp} {Q : KD} {j : Nat} (f : Str → Int) (hs : ∀ (k : Str) (K : KD), K (.int (f k)) M → we (ρ.set j (some (.str k))) M K) (q : Q (.lst ([f "square", f "sum", f "most", f "unlike"].map .int)) M) : wLcL (wgName j) wYes we AnyM ρ [.str "square", .str "sum", .str "most", .str "unlike"] [] M Q := by
  refine lc_pure (fun d => match d with | .str k => .int (f k) | _ => .non) True.intro _ [] (by decide) (fun d hd K hK => ?_) q
  obtain ⟨k, rfl⟩ : ∃ k : Str, d = .str k := by
    simp only [List.mem_cons, List.not_mem_nil, or_false] at hd
    rcases hd with rfl | rfl | rfl | rfl <;> exact ⟨_, rfl⟩
  exact hs k K hK
theorem wp_law : ∀ ds M Q R, F_law ds M Q R → W_law { nx := fun _ M' => Q .non M', rt := Q, xr := R } (startE 10 ds) M := by
  rintro ds M Q R ⟨ns, rfl, hn, q⟩
  unfold W_law
  refine seq_gen fun K hK => ?_
  simp (disch := first | assumption | decide) only [wSeq, wNext, wAsg, wgName, wIfS, wB, wOp, wVar, wC, wCall, wCallK, wCons, wNil, wRet, wRetN, wDrop, wTup, wLst, wIf, wAnd, wOr, wNot, wAndV, wOrV, wNotV, wNeg, wChain, fI, fI0, addD, fLt, fLe, fGt, fGe, fIsB, wCB, fAbs, f2I, fInt, fIsq, wPar, wPar3, permD, startE, List.map_cons, List.map_nil, List.cons_append, List.nil_append, List.append_nil, List.length_cons, List.length_nil, List.replicate, List.getElem?_cons_zero, List.getElem?_cons_succ, List.set_cons_zero, List.set_cons_succ, List.getD_cons_zero, List.getD_cons_succ, Nat.reduceAdd, Nat.reduceSub, Nat.zero_add, true_and, and_true, Bool.not_true, Bool.not_false, if_true, if_false, Bool.false_eq_true, reduceIte, decide_eq_true_eq, Bool.not_eq_true', decide_eq_false_iff_not, eqV_int, eqV_str, eqV_bl, decide_true, reduceCtorEq, not_true_eq_false, not_false_eq_true, Bool.not_eq_true, List.not_mem_nil, false_implies, implies_true, Int.reduceNeg, Int.reduceToNat, Int.reducePow, Int.reduceMul, Int.reduceAdd, draw_i]
  refine ⟨ns, rfl, hn, fun M a a0 hm => ?_⟩
  subst hK
  refine seq_gen fun K hK => ?_
  refine for_gen fun B hB => ?_
  simp (disch := first | assumption | decide) only [wSeq, wNext, wAsg, wgName, wIfS, wB, wOp, wVar, wC, wCall, wCallK, wCons, wNil, wRet, wRetN, wDrop, wTup, wLst, wIf, wAnd, wOr, wNot, wAndV, wOrV, wNotV, wNeg, wChain, fI, fI0, addD, fLt, fLe, fGt, fGe, fIsB, wCB, fAbs, f2I, fInt, fIsq, wPar, wPar3, permD, startE, List.map_cons, List.map_nil, List.cons_append, List.nil_append, List.append_nil, List.length_cons, List.length_nil, List.replicate, List.getElem?_cons_zero, List.getElem?_cons_succ, List.set_cons_zero, List.set_cons_succ, List.getD_cons_zero, List.getD_cons_succ, Nat.reduceAdd, Nat.reduceSub, Nat.zero_add, true_and, and_true, Bool.not_true, Bool.not_false, if_true, if_false, Bool.false_eq_true, reduceIte, decide_eq_true_eq, Bool.not_eq_true', decide_eq_false_iff_not, eqV_int, eqV_str, eqV_bl, decide_true, reduceCtorEq, not_true_eq_false, not_false_eq_true, Bool.not_eq_true, List.not_mem_nil, false_implies, implies_true, Int.reduceNeg, Int.reduceToNat, Int.reducePow, Int.reduceMul, Int.reduceAdd, draw_i, wFor, wiRange1]
  refine ⟨_, rfl, ?_⟩
  simp (disch := first | assumption | decide) only [wSeq, wNext, wAsg, wgName, wIfS, wB, wOp, wVar, wC, wCall, wCallK, wCons, wNil, wRet, wRetN, wDrop, wTup, wLst, wIf, wAnd, wOr, wNot, wAndV, wOrV, wNotV, wNeg, wChain, fI, fI0, addD, fLt, fLe, fGt, fGe, fIsB, wCB, fAbs, f2I, fInt, fIsq, wPar, wPar3, permD, startE, List.map_cons, List.map_nil, List.cons_append, List.nil_append, List.append_nil, List.length_cons, List.length_nil, List.replicate, List.getElem?_cons_zero, List.getElem?_cons_succ, List.set_cons_zero, List.set_cons_succ, List.getD_cons_zero, List.getD_cons_succ, Nat.reduceAdd, Nat.reduceSub, Nat.zero_add, true_and, and_true, Bool.not_true, Bool.not_false, if_true, if_false, Bool.false_eq_true, reduceIte, decide_eq_true_eq, Bool.not_eq_true', decide_eq_false_iff_not, eqV_int, eqV_str, eqV_bl, decide_true, reduceCtorEq, not_true_eq_false, not_false_eq_true, Bool.not_eq_true, List.not_mem_nil, false_implies, implies_true, Int.reduceNeg, Int.reduceToNat, Int.reducePow, Int.reduceMul, Int.reduceAdd, draw_i]
  obtain ⟨c, ec, c0, c1⟩ : ∃ c : Int, c = 1 + (if ((ns.map D.int).length : Int) > 2 then 1 else 0) ∧ 0 ≤ c ∧ c ≤ 3 := ⟨_, rfl, by split <;> omega, by split <;> omega⟩
  rw [← ec]
  refine ⟨by omega, by omega, ?_⟩
  refine loop_ix (fun i ρ' M' => M' a = some (.drw a0) ∧ ∃ v2 v4 v5 v6 v7 v8 v9 : Option D, ρ' = [some (.lst (ns.map .int)), some (.tok a), v2, none, v4, v5, v6, v7, v8, v9]) ?_ ?_ ⟨hm, _, _, _, _, _, _, _, rfl⟩
  · rintro i d ρ' M' hi ⟨hm, v2, v4, v5, v6, v7, v8, v9, rfl⟩
    refine ⟨True.intro, fun K' hK' => ?_⟩
    simp only [wgName, List.set_cons_succ, List.set_cons_zero]
    subst hB
    refine seq_gen fun K2 hK2 => ?_
    simp (disch := first | assumption | decide) only [wSeq, wNext, wAsg, wgName, wIfS, wB, wOp, wVar, wC, wCall, wCallK, wCons, wNil, wRet, wRetN, wDrop, wTup, wLst, wIf, wAnd, wOr, wNot, wAndV, wOrV, wNotV, wNeg, wChain, fI, fI0, addD, fLt, fLe, fGt, fGe, fIsB, wCB, fAbs, f2I, fInt, fIsq, wPar, wPar3, permD, startE, List.map_cons, List.map_nil, List.cons_append, List.nil_append, List.append_nil, List.length_cons, List.length_nil, List.replicate, List.getElem?_cons_zero, List.getElem?_cons_succ, List.set_cons_zero, List.set_cons_succ, List.getD_cons_zero, List.getD_cons_succ, Nat.reduceAdd, Nat.reduceSub, Nat.zero_add, true_and, and_true, Bool.not_true, Bool.not_false, if_true, if_false, Bool.false_eq_true, reduceIte, decide_eq_true_eq, Bool.not_eq_true', decide_eq_false_iff_not, eqV_int, eqV_str, eqV_bl, decide_true, reduceCtorEq, not_true_eq_false, not_false_eq_true, Bool.not_eq_true, List.not_mem_nil, false_implies, implies_true, Int.reduceNeg, Int.reduceToNat, Int.reducePow, Int.reduceMul, Int.reduceAdd, draw_i]
    refine ⟨by decide, pick_q hm rfl (by decide) (by decide) fun x hx => ?_⟩
    obtain ⟨p, rfl, p0, p1⟩ : ∃ p : Nat, x = .int (p : Int) ∧ 1 ≤ p ∧ p ≤ 8 := by
      simp only [List.mem_cons, List.not_mem_nil, or_false] at hx
      rcases hx with rfl | rfl | rfl | rfl | rfl | rfl
      · exact ⟨2, rfl, by decide, by decide⟩
      · exact ⟨3, rfl, by decide, by decide⟩
      · exact ⟨1, rfl, by decide, by decide⟩
      · exact ⟨4, rfl, by decide, by decide⟩
      · exact ⟨8, rfl, by decide, by decide⟩
      · exact ⟨5, rfl, by decide, by decide⟩
    subst hK2
    refine seq_gen fun K2 hK2 => ?_
    simp (disch := first | assumption | decide) only [wSeq, wNext, wAsg, wgName, wIfS, wB, wOp, wVar, wC, wCall, wCallK, wCons, wNil, wRet, wRetN, wDrop, wTup, wLst, wIf, wAnd, wOr, wNot, wAndV, wOrV, wNotV, wNeg, wChain, fI, fI0, addD, fLt, fLe, fGt, fGe, fIsB, wCB, fAbs, f2I, fInt, fIsq, wPar, wPar3, permD, startE, List.map_cons, List.map_nil, List.cons_append, List.nil_append, List.append_nil, List.length_cons, List.length_nil, List.replicate, List.getElem?_cons_zero, List.getElem?_cons_succ, List.set_cons_zero, List.set_cons_succ, List.getD_cons_zero, List.getD_cons_succ, Nat.reduceAdd, Nat.reduceSub, Nat.zero_add, true_and, and_true, Bool.not_true, Bool.not_false, if_true, if_false, Bool.false_eq_true, reduceIte, decide_eq_true_eq, Bool.not_eq_true', decide_eq_false_iff_not, eqV_int, eqV_str, eqV_bl, decide_true, reduceCtorEq, not_true_eq_false, not_false_eq_true, Bool.not_eq_true, List.not_mem_nil, false_implies, implies_true, Int.reduceNeg, Int.reduceToNat, Int.reducePow, Int.reduceMul, Int.reduceAdd, draw_i]
    refine ⟨a, a0, p, 3, rfl, hm, p1, by decide, fun vs lvs hvs => ?_⟩
    have rv : ∀ v ∈ vs, v.length ≤ 8 ∧ ∀ b ∈ v, -9900 ≤ b ∧ b ≤ 9900 := fun v hv => ⟨by rw [(hvs v hv).1]; exact p1, (hvs v hv).2⟩
    subst hK2
    refine seq_gen fun K2 hK2 => ?_
    simp (disch := first | assumption | decide) only [wSeq, wNext, wAsg, wgName, wIfS, wB, wOp, wVar, wC, wCall, wCallK, wCons, wNil, wRet, wRetN, wDrop, wTup, wLst, wIf, wAnd, wOr, wNot, wAndV, wOrV, wNotV, wNeg, wChain, fI, fI0, addD, fLt, fLe, fGt, fGe, fIsB, wCB, fAbs, f2I, fInt, fIsq, wPar, wPar3, permD, startE, List.map_cons, List.map_nil, List.cons_append, List.nil_append, List.append_nil, List.length_cons, List.length_nil, List.replicate, List.getElem?_cons_zero, List.getElem?_cons_succ, List.set_cons_zero, List.set_cons_succ, List.getD_cons_zero, List.getD_cons_succ, Nat.reduceAdd, Nat.reduceSub, Nat.zero_add, true_and, and_true, Bool.not_true, Bool.not_false, if_true, if_false, Bool.false_eq_true, reduceIte, decide_eq_true_eq, Bool.not_eq_true', decide_eq_false_iff_not, eqV_int, eqV_str, eqV_bl, decide_true, reduceCtorEq, not_true_eq_false, not_false_eq_true, Bool.not_eq_true, List.not_mem_nil, false_implies, implies_true, Int.reduceNeg, Int.reduceToNat, Int.reducePow, Int.reduceMul, Int.reduceAdd, draw_i]
    refine repr_vecs (by omega) rv ?_
    subst hK2
    refine seq_gen fun K2 hK2 => ?_
    refine for_gen fun B hB => ?_
    simp (disch := first | assumption | decide) only [wSeq, wNext, wAsg, wgName, wIfS, wB, wOp, wVar, wC, wCall, wCallK, wCons, wNil, wRet, wRetN, wDrop, wTup, wLst, wIf, wAnd, wOr, wNot, wAndV, wOrV, wNotV, wNeg, wChain, fI, fI0, addD, fLt, fLe, fGt, fGe, fIsB, wCB, fAbs, f2I, fInt, fIsq, wPar, wPar3, permD, startE, List.map_cons, List.map_nil, List.cons_append, List.nil_append, List.append_nil, List.length_cons, List.length_nil, List.replicate, List.getElem?_cons_zero, List.getElem?_cons_succ, List.set_cons_zero, List.set_cons_succ, List.getD_cons_zero, List.getD_cons_succ, Nat.reduceAdd, Nat.reduceSub, Nat.zero_add, true_and, and_true, Bool.not_true, Bool.not_false, if_true, if_false, Bool.false_eq_true, reduceIte, decide_eq_true_eq, Bool.not_eq_true', decide_eq_false_iff_not, eqV_int, eqV_str, eqV_bl, decide_true, reduceCtorEq, not_true_eq_false, not_false_eq_true, Bool.not_eq_true, List.not_mem_nil, false_implies, implies_true, Int.reduceNeg, Int.reduceToNat, Int.reducePow, Int.reduceMul, Int.reduceAdd, draw_i, wFor, wiSeq, c_KINDS]
    refine loop_ix (fun i ρ' M2 => M2 a = some (.drw a0) ∧ ∃ v7 v8 v9 : Option D, ρ' = [some (.lst (ns.map .int)), some (.tok a), some d, none, some (.int (p : Int)), some (.lst (vs.map vec)), some (.str (shown (.lst (vs.map vec)))), v7, v8, v9]) ?_ ?_ ⟨hm, _, _, _, rfl⟩
    · rintro i d2 ρ' M2 hi2 ⟨hm, v7, v8, v9, rfl⟩
      refine ⟨True.intro, fun K3 hK3 => ?_⟩
      obtain ⟨k, rfl⟩ : ∃ k : Str, d2 = .str k := by
        have hm' := List.mem_of_getElem? hi2
        simp only [List.mem_cons, List.not_mem_nil, or_false] at hm'
        rcases hm' with rfl | rfl | rfl | rfl <;> exact ⟨_, rfl⟩
      simp only [wgName, List.set_cons_succ, List.set_cons_zero]
      subst hB
      refine seq_gen fun K4 hK4 => ?_
      simp (disch := first | assumption | decide) only [wSeq, wNext, wAsg, wgName, wIfS, wB, wOp, wVar, wC, wCall, wCallK, wCons, wNil, wRet, wRetN, wDrop, wTup, wLst, wIf, wAnd, wOr, wNot, wAndV, wOrV, wNotV, wNeg, wChain, fI, fI0, addD, fLt, fLe, fGt, fGe, fIsB, wCB, fAbs, f2I, fInt, fIsq, wPar, wPar3, permD, startE, List.map_cons, List.map_nil, List.cons_append, List.nil_append, List.append_nil, List.length_cons, List.length_nil, List.replicate, List.getElem?_cons_zero, List.getElem?_cons_succ, List.set_cons_zero, List.set_cons_succ, List.getD_cons_zero, List.getD_cons_succ, Nat.reduceAdd, Nat.reduceSub, Nat.zero_add, true_and, and_true, Bool.not_true, Bool.not_false, if_true, if_false, Bool.false_eq_true, reduceIte, decide_eq_true_eq, Bool.not_eq_true', decide_eq_false_iff_not, eqV_int, eqV_str, eqV_bl, decide_true, reduceCtorEq, not_true_eq_false, not_false_eq_true, Bool.not_eq_true, List.not_mem_nil, false_implies, implies_true, Int.reduceNeg, Int.reduceToNat, Int.reducePow, Int.reduceMul, Int.reduceAdd, draw_i]
      refine pick_q hm rfl (by rw [List.length_map]; omega) (by rw [List.length_map]; omega) fun x hx => pick_q hm rfl (by rw [List.length_map]; omega) (by rw [List.length_map]; omega) fun y hy => ?_
      obtain ⟨v, hv, rfl⟩ := List.mem_map.mp hx
      obtain ⟨u, hu, rfl⟩ := List.mem_map.mp hy
      subst hK4
      simp (disch := first | assumption | decide) only [wSeq, wNext, wAsg, wgName, wIfS, wB, wOp, wVar, wC, wCall, wCallK, wCons, wNil, wRet, wRetN, wDrop, wTup, wLst, wIf, wAnd, wOr, wNot, wAndV, wOrV, wNotV, wNeg, wChain, fI, fI0, addD, fLt, fLe, fGt, fGe, fIsB, wCB, fAbs, f2I, fInt, fIsq, wPar, wPar3, permD, startE, List.map_cons, List.map_nil, List.cons_append, List.nil_append, List.append_nil, List.length_cons, List.length_nil, List.replicate, List.getElem?_cons_zero, List.getElem?_cons_succ, List.set_cons_zero, List.set_cons_succ, List.getD_cons_zero, List.getD_cons_succ, Nat.reduceAdd, Nat.reduceSub, Nat.zero_add, true_and, and_true, Bool.not_true, Bool.not_false, if_true, if_false, Bool.false_eq_true, reduceIte, decide_eq_true_eq, Bool.not_eq_true', decide_eq_false_iff_not, eqV_int, eqV_str, eqV_bl, decide_true, reduceCtorEq, not_true_eq_false, not_false_eq_true, Bool.not_eq_true, List.not_mem_nil, false_implies, implies_true, Int.reduceNeg, Int.reduceToNat, Int.reducePow, Int.reduceMul, Int.reduceAdd, draw_i]
      refine pair_i hm (hvs v hv).1 (hvs u hu).1 p0 p1 (hvs v hv).2 (hvs u hu).2 fun M3 hm3 => ?_
      simp (disch := first | assumption | decide) only [wSeq, wNext, wAsg, wgName, wIfS, wB, wOp, wVar, wC, wCall, wCallK, wCons, wNil, wRet, wRetN, wDrop, wTup, wLst, wIf, wAnd, wOr, wNot, wAndV, wOrV, wNotV, wNeg, wChain, fI, fI0, addD, fLt, fLe, fGt, fGe, fIsB, wCB, fAbs, f2I, fInt, fIsq, wPar, wPar3, permD, startE, List.map_cons, List.map_nil, List.cons_append, List.nil_append, List.append_nil, List.length_cons, List.length_nil, List.replicate, List.getElem?_cons_zero, List.getElem?_cons_succ, List.set_cons_zero, List.set_cons_succ, List.getD_cons_zero, List.getD_cons_succ, Nat.reduceAdd, Nat.reduceSub, Nat.zero_add, true_and, and_true, Bool.not_true, Bool.not_false, if_true, if_false, Bool.false_eq_true, reduceIte, decide_eq_true_eq, Bool.not_eq_true', decide_eq_false_iff_not, eqV_int, eqV_str, eqV_bl, decide_true, reduceCtorEq, not_true_eq_false, not_false_eq_true, Bool.not_eq_true, List.not_mem_nil, false_implies, implies_true, Int.reduceNeg, Int.reduceToNat, Int.reducePow, Int.reduceMul, Int.reduceAdd, draw_i]
      have x0 : (vs.map vec)[0]? = some (vec vs[0]) := by rw [List.getElem?_map, List.getElem?_eq_getElem]; rfl
      have x1 : (vs.map vec)[1]? = some (vec vs[1]) := by rw [List.getElem?_map, List.getElem?_eq_getElem]; rfl
      refine ix_at (i := 0) x0 (ix_at (i := 1) x1 ?_)
      have h0 := hvs vs[0] (List.getElem_mem _)
      have h1 := hvs vs[1] (List.getElem_mem _)
      refine pair_i hm3 h0.1 h1.1 p0 p1 h0.2 h1.2 fun M4 hm4 => ?_
      simp (disch := first | assumption | decide) only [wSeq, wNext, wAsg, wgName, wIfS, wB, wOp, wVar, wC, wCall, wCallK, wCons, wNil, wRet, wRetN, wDrop, wTup, wLst, wIf, wAnd, wOr, wNot, wAndV, wOrV, wNotV, wNeg, wChain, fI, fI0, addD, fLt, fLe, fGt, fGe, fIsB, wCB, fAbs, f2I, fInt, fIsq, wPar, wPar3, permD, startE, List.map_cons, List.map_nil, List.cons_append, List.nil_append, List.append_nil, List.length_cons, List.length_nil, List.replicate, List.getElem?_cons_zero, List.getElem?_cons_succ, List.set_cons_zero, List.set_cons_succ, List.getD_cons_zero, List.getD_cons_succ, Nat.reduceAdd, Nat.reduceSub, Nat.zero_add, true_and, and_true, Bool.not_true, Bool.not_false, if_true, if_false, Bool.false_eq_true, reduceIte, decide_eq_true_eq, Bool.not_eq_true', decide_eq_false_iff_not, eqV_int, eqV_str, eqV_bl, decide_true, reduceCtorEq, not_true_eq_false, not_false_eq_true, Bool.not_eq_true, List.not_mem_nil, false_implies, implies_true, Int.reduceNeg, Int.reduceToNat, Int.reducePow, Int.reduceMul, Int.reduceAdd, draw_i]
      exact hK3 _ _ ⟨hm4, _, _, _, rfl⟩
    · rintro ρ' M2 ⟨hm, v7, v8, v9, rfl⟩
      refine ⟨True.intro, ?_⟩
      show K2 _ _
      subst hK2
      simp (disch := first | assumption | decide) only [wSeq, wNext, wAsg, wgName, wIfS, wB, wOp, wVar, wC, wCall, wCallK, wCons, wNil, wRet, wRetN, wDrop, wTup, wLst, wIf, wAnd, wOr, wNot, wAndV, wOrV, wNotV, wNeg, wChain, fI, fI0, addD, fLt, fLe, fGt, fGe, fIsB, wCB, fAbs, f2I, fInt, fIsq, wPar, wPar3, permD, startE, List.map_cons, List.map_nil, List.cons_append, List.nil_append, List.append_nil, List.length_cons, List.length_nil, List.replicate, List.getElem?_cons_zero, List.getElem?_cons_succ, List.set_cons_zero, List.set_cons_succ, List.getD_cons_zero, List.getD_cons_succ, Nat.reduceAdd, Nat.reduceSub, Nat.zero_add, true_and, and_true, Bool.not_true, Bool.not_false, if_true, if_false, Bool.false_eq_true, reduceIte, decide_eq_true_eq, Bool.not_eq_true', decide_eq_false_iff_not, eqV_int, eqV_str, eqV_bl, decide_true, reduceCtorEq, not_true_eq_false, not_false_eq_true, Bool.not_eq_true, List.not_mem_nil, false_implies, implies_true, Int.reduceNeg, Int.reduceToNat, Int.reducePow, Int.reduceMul, Int.reduceAdd, draw_i]
      refine repr_vecs (by omega) rv ?_
      simp (disch := first | assumption | decide) only [wSeq, wNext, wAsg, wgName, wIfS, wB, wOp, wVar, wC, wCall, wCallK, wCons, wNil, wRet, wRetN, wDrop, wTup, wLst, wIf, wAnd, wOr, wNot, wAndV, wOrV, wNotV, wNeg, wChain, fI, fI0, addD, fLt, fLe, fGt, fGe, fIsB, wCB, fAbs, f2I, fInt, fIsq, wPar, wPar3, permD, startE, List.map_cons, List.map_nil, List.cons_append, List.nil_append, List.append_nil, List.length_cons, List.length_nil, List.replicate, List.getElem?_cons_zero, List.getElem?_cons_succ, List.set_cons_zero, List.set_cons_succ, List.getD_cons_zero, List.getD_cons_succ, Nat.reduceAdd, Nat.reduceSub, Nat.zero_add, true_and, and_true, Bool.not_true, Bool.not_false, if_true, if_false, Bool.false_eq_true, reduceIte, decide_eq_true_eq, Bool.not_eq_true', decide_eq_false_iff_not, eqV_int, eqV_str, eqV_bl, decide_true, reduceCtorEq, not_true_eq_false, not_false_eq_true, Bool.not_eq_true, List.not_mem_nil, false_implies, implies_true, Int.reduceNeg, Int.reduceToNat, Int.reducePow, Int.reduceMul, Int.reduceAdd, draw_i]
      exact hK' _ _ ⟨hm, _, _, _, _, _, _, _, rfl⟩
  · rintro ρ' M' ⟨hm, v2, v4, v5, v6, v7, v8, v9, rfl⟩
    refine ⟨True.intro, ?_⟩
    show K _ _
    subst hK
    refine seq_gen fun K hK => ?_
    simp (disch := first | assumption | decide) only [wSeq, wNext, wAsg, wgName, wIfS, wB, wOp, wVar, wC, wCall, wCallK, wCons, wNil, wRet, wRetN, wDrop, wTup, wLst, wIf, wAnd, wOr, wNot, wAndV, wOrV, wNotV, wNeg, wChain, fI, fI0, addD, fLt, fLe, fGt, fGe, fIsB, wCB, fAbs, f2I, fInt, fIsq, wPar, wPar3, permD, startE, List.map_cons, List.map_nil, List.cons_append, List.nil_append, List.append_nil, List.length_cons, List.length_nil, List.replicate, List.getElem?_cons_zero, List.getElem?_cons_succ, List.set_cons_zero, List.set_cons_succ, List.getD_cons_zero, List.getD_cons_succ, Nat.reduceAdd, Nat.reduceSub, Nat.zero_add, true_and, and_true, Bool.not_true, Bool.not_false, if_true, if_false, Bool.false_eq_true, reduceIte, decide_eq_true_eq, Bool.not_eq_true', decide_eq_false_iff_not, eqV_int, eqV_str, eqV_bl, decide_true, reduceCtorEq, not_true_eq_false, not_false_eq_true, Bool.not_eq_true, List.not_mem_nil, false_implies, implies_true, Int.reduceNeg, Int.reduceToNat, Int.reducePow, Int.reduceMul, Int.reduceAdd, draw_i, wLc, wiSeq, wipeE, c_KINDS]
    refine kinds_lc (fun k => distI k [3, -1, 2] [0, 3, 2]) (fun k K2 hK2 => ?_) ?_
    · simp (disch := first | assumption | decide) only [wSeq, wNext, wAsg, wgName, wIfS, wB, wOp, wVar, wC, wCall, wCallK, wCons, wNil, wRet, wRetN, wDrop, wTup, wLst, wIf, wAnd, wOr, wNot, wAndV, wOrV, wNotV, wNeg, wChain, fI, fI0, addD, fLt, fLe, fGt, fGe, fIsB, wCB, fAbs, f2I, fInt, fIsq, wPar, wPar3, permD, startE, List.map_cons, List.map_nil, List.cons_append, List.nil_append, List.append_nil, List.length_cons, List.length_nil, List.replicate, List.getElem?_cons_zero, List.getElem?_cons_succ, List.set_cons_zero, List.set_cons_succ, List.getD_cons_zero, List.getD_cons_succ, Nat.reduceAdd, Nat.reduceSub, Nat.zero_add, true_and, and_true, Bool.not_true, Bool.not_false, if_true, if_false, Bool.false_eq_true, reduceIte, decide_eq_true_eq, Bool.not_eq_true', decide_eq_false_iff_not, eqV_int, eqV_str, eqV_bl, decide_true, reduceCtorEq, not_true_eq_false, not_false_eq_true, Bool.not_eq_true, List.not_mem_nil, false_implies, implies_true, Int.reduceNeg, Int.reduceToNat, Int.reducePow, Int.reduceMul, Int.reduceAdd, draw_i]
      exact ⟨by decide, by decide, k, [3, -1, 2], [0, 3, 2], rfl, ⟨by decide, by decide⟩, ⟨by decide, by decide⟩, hK2⟩
    have e1 : distI "square" [3, -1, 2] [0, 3, 2] = 25 := by decide +kernel
    have e2 : distI "sum" [3, -1, 2] [0, 3, 2] = 7 := by decide +kernel
    have e3 : distI "most" [3, -1, 2] [0, 3, 2] = 4 := by decide +kernel
    have e4 : distI "unlike" [3, -1, 2] [0, 3, 2] = 2 := by decide +kernel
    simp (disch := first | assumption | decide) only [wSeq, wNext, wAsg, wgName, wIfS, wB, wOp, wVar, wC, wCall, wCallK, wCons, wNil, wRet, wRetN, wDrop, wTup, wLst, wIf, wAnd, wOr, wNot, wAndV, wOrV, wNotV, wNeg, wChain, fI, fI0, addD, fLt, fLe, fGt, fGe, fIsB, wCB, fAbs, f2I, fInt, fIsq, wPar, wPar3, permD, startE, List.map_cons, List.map_nil, List.cons_append, List.nil_append, List.append_nil, List.length_cons, List.length_nil, List.replicate, List.getElem?_cons_zero, List.getElem?_cons_succ, List.set_cons_zero, List.set_cons_succ, List.getD_cons_zero, List.getD_cons_succ, Nat.reduceAdd, Nat.reduceSub, Nat.zero_add, true_and, and_true, Bool.not_true, Bool.not_false, if_true, if_false, Bool.false_eq_true, reduceIte, decide_eq_true_eq, Bool.not_eq_true', decide_eq_false_iff_not, eqV_int, eqV_str, eqV_bl, decide_true, reduceCtorEq, not_true_eq_false, not_false_eq_true, Bool.not_eq_true, List.not_mem_nil, false_implies, implies_true, Int.reduceNeg, Int.reduceToNat, Int.reducePow, Int.reduceMul, Int.reduceAdd, draw_i, e1, e2, e3, e4]
    refine ⟨by decide, (eqV_ints (x := [25, 7, 4, 2]) (y := [25, 7, 4, 2])).mpr ?_⟩
    simp (disch := first | assumption | decide) only [wSeq, wNext, wAsg, wgName, wIfS, wB, wOp, wVar, wC, wCall, wCallK, wCons, wNil, wRet, wRetN, wDrop, wTup, wLst, wIf, wAnd, wOr, wNot, wAndV, wOrV, wNotV, wNeg, wChain, fI, fI0, addD, fLt, fLe, fGt, fGe, fIsB, wCB, fAbs, f2I, fInt, fIsq, wPar, wPar3, permD, startE, List.map_cons, List.map_nil, List.cons_append, List.nil_append, List.append_nil, List.length_cons, List.length_nil, List.replicate, List.getElem?_cons_zero, List.getElem?_cons_succ, List.set_cons_zero, List.set_cons_succ, List.getD_cons_zero, List.getD_cons_succ, Nat.reduceAdd, Nat.reduceSub, Nat.zero_add, true_and, and_true, Bool.not_true, Bool.not_false, if_true, if_false, Bool.false_eq_true, reduceIte, decide_eq_true_eq, Bool.not_eq_true', decide_eq_false_iff_not, eqV_int, eqV_str, eqV_bl, decide_true, reduceCtorEq, not_true_eq_false, not_false_eq_true, Bool.not_eq_true, List.not_mem_nil, false_implies, implies_true, Int.reduceNeg, Int.reduceToNat, Int.reducePow, Int.reduceMul, Int.reduceAdd, draw_i]
    subst hK
    clear e1 e2 e3 e4
    refine seq_gen fun K hK => ?_
    simp (disch := first | assumption | decide) only [wSeq, wNext, wAsg, wgName, wIfS, wB, wOp, wVar, wC, wCall, wCallK, wCons, wNil, wRet, wRetN, wDrop, wTup, wLst, wIf, wAnd, wOr, wNot, wAndV, wOrV, wNotV, wNeg, wChain, fI, fI0, addD, fLt, fLe, fGt, fGe, fIsB, wCB, fAbs, f2I, fInt, fIsq, wPar, wPar3, permD, startE, List.map_cons, List.map_nil, List.cons_append, List.nil_append, List.append_nil, List.length_cons, List.length_nil, List.replicate, List.getElem?_cons_zero, List.getElem?_cons_succ, List.set_cons_zero, List.set_cons_succ, List.getD_cons_zero, List.getD_cons_succ, Nat.reduceAdd, Nat.reduceSub, Nat.zero_add, true_and, and_true, Bool.not_true, Bool.not_false, if_true, if_false, Bool.false_eq_true, reduceIte, decide_eq_true_eq, Bool.not_eq_true', decide_eq_false_iff_not, eqV_int, eqV_str, eqV_bl, decide_true, reduceCtorEq, not_true_eq_false, not_false_eq_true, Bool.not_eq_true, List.not_mem_nil, false_implies, implies_true, Int.reduceNeg, Int.reduceToNat, Int.reducePow, Int.reduceMul, Int.reduceAdd, draw_i]
    refine ⟨⟨by decide, by decide, by decide⟩, ?_⟩
    subst hK
    refine seq_gen fun K hK => ?_
    simp (disch := first | assumption | decide) only [wSeq, wNext, wAsg, wgName, wIfS, wB, wOp, wVar, wC, wCall, wCallK, wCons, wNil, wRet, wRetN, wDrop, wTup, wLst, wIf, wAnd, wOr, wNot, wAndV, wOrV, wNotV, wNeg, wChain, fI, fI0, addD, fLt, fLe, fGt, fGe, fIsB, wCB, fAbs, f2I, fInt, fIsq, wPar, wPar3, permD, startE, List.map_cons, List.map_nil, List.cons_append, List.nil_append, List.append_nil, List.length_cons, List.length_nil, List.replicate, List.getElem?_cons_zero, List.getElem?_cons_succ, List.set_cons_zero, List.set_cons_succ, List.getD_cons_zero, List.getD_cons_succ, Nat.reduceAdd, Nat.reduceSub, Nat.zero_add, true_and, and_true, Bool.not_true, Bool.not_false, if_true, if_false, Bool.false_eq_true, reduceIte, decide_eq_true_eq, Bool.not_eq_true', decide_eq_false_iff_not, eqV_int, eqV_str, eqV_bl, decide_true, reduceCtorEq, not_true_eq_false, not_false_eq_true, Bool.not_eq_true, List.not_mem_nil, false_implies, implies_true, Int.reduceNeg, Int.reduceToNat, Int.reducePow, Int.reduceMul, Int.reduceAdd, draw_i, wLc, wiSeq, wipeE, c_KINDS]
    refine kinds_lc (fun k => distI k [10000, 10000, 10000, 10000, 10000, 10000, 10000, 10000] [-10000, -10000, -10000, -10000, -10000, -10000, -10000, -10000]) (fun k K2 hK2 => ?_) ?_
    · simp (disch := first | assumption | decide) only [wSeq, wNext, wAsg, wgName, wIfS, wB, wOp, wVar, wC, wCall, wCallK, wCons, wNil, wRet, wRetN, wDrop, wTup, wLst, wIf, wAnd, wOr, wNot, wAndV, wOrV, wNotV, wNeg, wChain, fI, fI0, addD, fLt, fLe, fGt, fGe, fIsB, wCB, fAbs, f2I, fInt, fIsq, wPar, wPar3, permD, startE, List.map_cons, List.map_nil, List.cons_append, List.nil_append, List.append_nil, List.length_cons, List.length_nil, List.replicate, List.getElem?_cons_zero, List.getElem?_cons_succ, List.set_cons_zero, List.set_cons_succ, List.getD_cons_zero, List.getD_cons_succ, Nat.reduceAdd, Nat.reduceSub, Nat.zero_add, true_and, and_true, Bool.not_true, Bool.not_false, if_true, if_false, Bool.false_eq_true, reduceIte, decide_eq_true_eq, Bool.not_eq_true', decide_eq_false_iff_not, eqV_int, eqV_str, eqV_bl, decide_true, reduceCtorEq, not_true_eq_false, not_false_eq_true, Bool.not_eq_true, List.not_mem_nil, false_implies, implies_true, Int.reduceNeg, Int.reduceToNat, Int.reducePow, Int.reduceMul, Int.reduceAdd, draw_i, tmulD]
      refine ⟨by decide, (fun z => by cases z), by decide, by decide, by decide, by decide, (fun z => by cases z), by decide, by decide, by decide, ?_⟩
      exact ⟨k, [10000, 10000, 10000, 10000, 10000, 10000, 10000, 10000], [-10000, -10000, -10000, -10000, -10000, -10000, -10000, -10000], rfl, ⟨by decide, by decide⟩, ⟨by decide, by decide⟩, hK2⟩
    have e1 : distI "square" [10000, 10000, 10000, 10000, 10000, 10000, 10000, 10000] [-10000, -10000, -10000, -10000, -10000, -10000, -10000, -10000] = 3200000000 := by decide +kernel
    have e2 : distI "sum" [10000, 10000, 10000, 10000, 10000, 10000, 10000, 10000] [-10000, -10000, -10000, -10000, -10000, -10000, -10000, -10000] = 160000 := by decide +kernel
    have e3 : distI "most" [10000, 10000, 10000, 10000, 10000, 10000, 10000, 10000] [-10000, -10000, -10000, -10000, -10000, -10000, -10000, -10000] = 20000 := by decide +kernel
    have e4 : distI "unlike" [10000, 10000, 10000, 10000, 10000, 10000, 10000, 10000] [-10000, -10000, -10000, -10000, -10000, -10000, -10000, -10000] = 8 := by decide +kernel
    simp (disch := first | assumption | decide) only [wSeq, wNext, wAsg, wgName, wIfS, wB, wOp, wVar, wC, wCall, wCallK, wCons, wNil, wRet, wRetN, wDrop, wTup, wLst, wIf, wAnd, wOr, wNot, wAndV, wOrV, wNotV, wNeg, wChain, fI, fI0, addD, fLt, fLe, fGt, fGe, fIsB, wCB, fAbs, f2I, fInt, fIsq, wPar, wPar3, permD, startE, List.map_cons, List.map_nil, List.cons_append, List.nil_append, List.append_nil, List.length_cons, List.length_nil, List.replicate, List.getElem?_cons_zero, List.getElem?_cons_succ, List.set_cons_zero, List.set_cons_succ, List.getD_cons_zero, List.getD_cons_succ, Nat.reduceAdd, Nat.reduceSub, Nat.zero_add, true_and, and_true, Bool.not_true, Bool.not_false, if_true, if_false, Bool.false_eq_true, reduceIte, decide_eq_true_eq, Bool.not_eq_true', decide_eq_false_iff_not, eqV_int, eqV_str, eqV_bl, decide_true, reduceCtorEq, not_true_eq_false, not_false_eq_true, Bool.not_eq_true, List.not_mem_nil, false_implies, implies_true, Int.reduceNeg, Int.reduceToNat, Int.reducePow, Int.reduceMul, Int.reduceAdd, draw_i, e1, e2, e3, e4]
    refine ⟨⟨by decide, by decide, by decide⟩, cm_of (by decide) (by decide), ⟨by decide, by decide, by decide⟩, cm_of (by decide) (by decide), ⟨by decide, by decide, by decide⟩, cm_of (by decide) (by decide), by decide, (eqV_ints (x := [3200000000, 160000, 20000, 8]) (y := [3200000000, 160000, 20000, 8])).mpr ?_⟩
    simp (disch := first | assumption | decide) only [wSeq, wNext, wAsg, wgName, wIfS, wB, wOp, wVar, wC, wCall, wCallK, wCons, wNil, wRet, wRetN, wDrop, wTup, wLst, wIf, wAnd, wOr, wNot, wAndV, wOrV, wNotV, wNeg, wChain, fI, fI0, addD, fLt, fLe, fGt, fGe, fIsB, wCB, fAbs, f2I, fInt, fIsq, wPar, wPar3, permD, startE, List.map_cons, List.map_nil, List.cons_append, List.nil_append, List.append_nil, List.length_cons, List.length_nil, List.replicate, List.getElem?_cons_zero, List.getElem?_cons_succ, List.set_cons_zero, List.set_cons_succ, List.getD_cons_zero, List.getD_cons_succ, Nat.reduceAdd, Nat.reduceSub, Nat.zero_add, true_and, and_true, Bool.not_true, Bool.not_false, if_true, if_false, Bool.false_eq_true, reduceIte, decide_eq_true_eq, Bool.not_eq_true', decide_eq_false_iff_not, eqV_int, eqV_str, eqV_bl, decide_true, reduceCtorEq, not_true_eq_false, not_false_eq_true, Bool.not_eq_true, List.not_mem_nil, false_implies, implies_true, Int.reduceNeg, Int.reduceToNat, Int.reducePow, Int.reduceMul, Int.reduceAdd, draw_i]
    subst hK
    clear e1 e2 e3 e4
    simp (disch := first | assumption | decide) only [wSeq, wNext, wAsg, wgName, wIfS, wB, wOp, wVar, wC, wCall, wCallK, wCons, wNil, wRet, wRetN, wDrop, wTup, wLst, wIf, wAnd, wOr, wNot, wAndV, wOrV, wNotV, wNeg, wChain, fI, fI0, addD, fLt, fLe, fGt, fGe, fIsB, wCB, fAbs, f2I, fInt, fIsq, wPar, wPar3, permD, startE, List.map_cons, List.map_nil, List.cons_append, List.nil_append, List.append_nil, List.length_cons, List.length_nil, List.replicate, List.getElem?_cons_zero, List.getElem?_cons_succ, List.set_cons_zero, List.set_cons_succ, List.getD_cons_zero, List.getD_cons_succ, Nat.reduceAdd, Nat.reduceSub, Nat.zero_add, true_and, and_true, Bool.not_true, Bool.not_false, if_true, if_false, Bool.false_eq_true, reduceIte, decide_eq_true_eq, Bool.not_eq_true', decide_eq_false_iff_not, eqV_int, eqV_str, eqV_bl, decide_true, reduceCtorEq, not_true_eq_false, not_false_eq_true, Bool.not_eq_true, List.not_mem_nil, false_implies, implies_true, Int.reduceNeg, Int.reduceToNat, Int.reducePow, Int.reduceMul, Int.reduceAdd, draw_i, wLc, wiSeq, wipeE, c_KINDS]
    refine kinds_lc (fun k => distI k (atI' [1, 5, 9] [2, 0]) (atI' [4, 5, 1] [2, 0])) (fun k K2 hK2 => ?_) ?_
    · simp (disch := first | assumption | decide) only [wSeq, wNext, wAsg, wgName, wIfS, wB, wOp, wVar, wC, wCall, wCallK, wCons, wNil, wRet, wRetN, wDrop, wTup, wLst, wIf, wAnd, wOr, wNot, wAndV, wOrV, wNotV, wNeg, wChain, fI, fI0, addD, fLt, fLe, fGt, fGe, fIsB, wCB, fAbs, f2I, fInt, fIsq, wPar, wPar3, permD, startE, List.map_cons, List.map_nil, List.cons_append, List.nil_append, List.append_nil, List.length_cons, List.length_nil, List.replicate, List.getElem?_cons_zero, List.getElem?_cons_succ, List.set_cons_zero, List.set_cons_succ, List.getD_cons_zero, List.getD_cons_succ, Nat.reduceAdd, Nat.reduceSub, Nat.zero_add, true_and, and_true, Bool.not_true, Bool.not_false, if_true, if_false, Bool.false_eq_true, reduceIte, decide_eq_true_eq, Bool.not_eq_true', decide_eq_false_iff_not, eqV_int, eqV_str, eqV_bl, decide_true, reduceCtorEq, not_true_eq_false, not_false_eq_true, Bool.not_eq_true, List.not_mem_nil, false_implies, implies_true, Int.reduceNeg, Int.reduceToNat, Int.reducePow, Int.reduceMul, Int.reduceAdd, draw_i]
      refine ⟨by decide, by decide, by decide, ?_⟩
      exact at_i (v := [1, 5, 9]) (u := [4, 5, 1]) (ps := [2, 0]) ⟨by decide, by decide⟩ ⟨by decide, by decide⟩ (by decide) (by decide) hK2
    have e1 : distI "square" (atI' [1, 5, 9] [2, 0]) (atI' [4, 5, 1] [2, 0]) = 73 := by decide +kernel
    have e2 : distI "sum" (atI' [1, 5, 9] [2, 0]) (atI' [4, 5, 1] [2, 0]) = 11 := by decide +kernel
    have e3 : distI "most" (atI' [1, 5, 9] [2, 0]) (atI' [4, 5, 1] [2, 0]) = 8 := by decide +kernel
    have e4 : distI "unlike" (atI' [1, 5, 9] [2, 0]) (atI' [4, 5, 1] [2, 0]) = 2 := by decide +kernel
    simp (disch := first | assumption | decide) only [wSeq, wNext, wAsg, wgName, wIfS, wB, wOp, wVar, wC, wCall, wCallK, wCons, wNil, wRet, wRetN, wDrop, wTup, wLst, wIf, wAnd, wOr, wNot, wAndV, wOrV, wNotV, wNeg, wChain, fI, fI0, addD, fLt, fLe, fGt, fGe, fIsB, wCB, fAbs, f2I, fInt, fIsq, wPar, wPar3, permD, startE, List.map_cons, List.map_nil, List.cons_append, List.nil_append, List.append_nil, List.length_cons, List.length_nil, List.replicate, List.getElem?_cons_zero, List.getElem?_cons_succ, List.set_cons_zero, List.set_cons_succ, List.getD_cons_zero, List.getD_cons_succ, Nat.reduceAdd, Nat.reduceSub, Nat.zero_add, true_and, and_true, Bool.not_true, Bool.not_false, if_true, if_false, Bool.false_eq_true, reduceIte, decide_eq_true_eq, Bool.not_eq_true', decide_eq_false_iff_not, eqV_int, eqV_str, eqV_bl, decide_true, reduceCtorEq, not_true_eq_false, not_false_eq_true, Bool.not_eq_true, List.not_mem_nil, false_implies, implies_true, Int.reduceNeg, Int.reduceToNat, Int.reducePow, Int.reduceMul, Int.reduceAdd, draw_i, e1, e2, e3, e4]
    refine ⟨by decide, (eqV_ints (x := [73, 11, 8, 2]) (y := [73, 11, 8, 2])).mpr ?_⟩
    simp (disch := first | assumption | decide) only [wSeq, wNext, wAsg, wgName, wIfS, wB, wOp, wVar, wC, wCall, wCallK, wCons, wNil, wRet, wRetN, wDrop, wTup, wLst, wIf, wAnd, wOr, wNot, wAndV, wOrV, wNotV, wNeg, wChain, fI, fI0, addD, fLt, fLe, fGt, fGe, fIsB, wCB, fAbs, f2I, fInt, fIsq, wPar, wPar3, permD, startE, List.map_cons, List.map_nil, List.cons_append, List.nil_append, List.append_nil, List.length_cons, List.length_nil, List.replicate, List.getElem?_cons_zero, List.getElem?_cons_succ, List.set_cons_zero, List.set_cons_succ, List.getD_cons_zero, List.getD_cons_succ, Nat.reduceAdd, Nat.reduceSub, Nat.zero_add, true_and, and_true, Bool.not_true, Bool.not_false, if_true, if_false, Bool.false_eq_true, reduceIte, decide_eq_true_eq, Bool.not_eq_true', decide_eq_false_iff_not, eqV_int, eqV_str, eqV_bl, decide_true, reduceCtorEq, not_true_eq_false, not_false_eq_true, Bool.not_eq_true, List.not_mem_nil, false_implies, implies_true, Int.reduceNeg, Int.reduceToNat, Int.reducePow, Int.reduceMul, Int.reduceAdd, draw_i]
    refine ⟨by decide, by decide, by decide, ?_⟩
    refine at_i (v := [1, 2]) (u := [3, 4]) (ps := []) ⟨by decide, by decide⟩ ⟨by decide, by decide⟩ (by decide) (by decide) ?_
    have e5 : distI "sum" (atI' [1, 2] []) (atI' [3, 4] []) = 0 := by decide +kernel
    rw [e5]
    simp (disch := first | assumption | decide) only [wSeq, wNext, wAsg, wgName, wIfS, wB, wOp, wVar, wC, wCall, wCallK, wCons, wNil, wRet, wRetN, wDrop, wTup, wLst, wIf, wAnd, wOr, wNot, wAndV, wOrV, wNotV, wNeg, wChain, fI, fI0, addD, fLt, fLe, fGt, fGe, fIsB, wCB, fAbs, f2I, fInt, fIsq, wPar, wPar3, permD, startE, List.map_cons, List.map_nil, List.cons_append, List.nil_append, List.append_nil, List.length_cons, List.length_nil, List.replicate, List.getElem?_cons_zero, List.getElem?_cons_succ, List.set_cons_zero, List.set_cons_succ, List.getD_cons_zero, List.getD_cons_succ, Nat.reduceAdd, Nat.reduceSub, Nat.zero_add, true_and, and_true, Bool.not_true, Bool.not_false, if_true, if_false, Bool.false_eq_true, reduceIte, decide_eq_true_eq, Bool.not_eq_true', decide_eq_false_iff_not, eqV_int, eqV_str, eqV_bl, decide_true, reduceCtorEq, not_true_eq_false, not_false_eq_true, Bool.not_eq_true, List.not_mem_nil, false_implies, implies_true, Int.reduceNeg, Int.reduceToNat, Int.reducePow, Int.reduceMul, Int.reduceAdd, draw_i]
    exact q _
end K03
namespace K03
open PySem L2 L3
theorem len_differences : ∀ ds M Q E, F_differences ds M Q E → ds.length = 2 := by
  rintro ds M Q E ⟨_, _, rfl, _⟩
  rfl
theorem len_at_places : ∀ ds M Q E, F_at_places ds M Q E → ds.length = 2 := by
  rintro ds M Q E ⟨_, _, rfl, _⟩
  rfl
theorem len_part_of : ∀ ds M Q E, F_part_of ds M Q E → ds.length = 2 := by
  rintro ds M Q E ⟨_, _, rfl, _⟩
  rfl
theorem len_joined_parts : ∀ ds M Q E, F_joined_parts ds M Q E → ds.length = 2 := by
  rintro ds M Q E ⟨_, _, _, rfl, _⟩
  rfl
theorem len_distance : ∀ ds M Q E, F_distance ds M Q E → ds.length = 3 := by
  rintro ds M Q E ⟨_, _, _, rfl, _⟩
  rfl
theorem len_distance_at : ∀ ds M Q E, F_distance_at ds M Q E → ds.length = 4 := by
  rintro ds M Q E ⟨_, _, _, _, rfl, _⟩
  rfl
theorem len_is_within : ∀ ds M Q E, F_is_within ds M Q E → ds.length = 4 := by
  rintro ds M Q E ⟨_, _, _, _, rfl, _⟩
  rfl
theorem len__law_heap : ∀ ds M Q E, F__law_heap ds M Q E → ds.length = 1 := by
  rintro ds M Q E ⟨_, rfl, _⟩
  rfl
theorem len__law_pick : ∀ ds M Q E, pickF ds M Q E → ds.length = 2 := by
  rintro ds M Q E ⟨_, _, _, _, rfl, _⟩
  rfl
theorem len__law_vectors : ∀ ds M Q E, F__law_vectors ds M Q E → ds.length = 3 := by
  rintro ds M Q E ⟨_, _, _, _, rfl, _⟩
  rfl
theorem len__law_part : ∀ ds M Q E, F__law_part ds M Q E → ds.length = 3 := by
  rintro ds M Q E ⟨_, _, _, rfl, _⟩
  rfl
theorem len__law_distance : ∀ ds M Q E, F__law_distance ds M Q E → ds.length = 3 := by
  rintro ds M Q E ⟨_, _, _, _, _, rfl, _⟩
  rfl
theorem len__law_lots : ∀ ds M Q E, F__law_lots ds M Q E → ds.length = 2 := by
  rintro ds M Q E ⟨_, _, _, rfl, _⟩
  rfl
theorem len__law_pair_right : ∀ ds M Q E, F__law_pair_right ds M Q E → ds.length = 4 := by
  rintro ds M Q E ⟨_, _, _, _, _, _, rfl, _⟩
  rfl
theorem len_law : ∀ ds M Q E, F_law ds M Q E → ds.length = 1 := by
  rintro ds M Q E ⟨_, rfl, _⟩
  rfl
/-! ### all together -/
theorem all_mk {l : PySem.W.OpenLaw} (hl : l.prog = PySem.Challenge.pw_nonearer_k03_whole_distances) {w : World} {K : PySem.W.Frag} {h : Heap} {mg : Str → Option Value} {fa : Addr} (X : K.In h) (G : h.Ns mainGlobals mg) (hfa : mg "law" = some (.ref fa))
    {f0 : Addr} {od0 an0 : Option Addr} {sl0 : Array (Option Value)} {oc0 kV0 dc0 pm0 cd0 ct0 : Value}
    {f1 : Addr} {od1 an1 : Option Addr} {sl1 : Array (Option Value)} {oc1 kV1 dc1 pm1 cd1 ct1 : Value}
    {f2 : Addr} {od2 an2 : Option Addr} {sl2 : Array (Option Value)} {oc2 kV2 dc2 pm2 cd2 ct2 : Value}
    {f3 : Addr} {od3 an3 : Option Addr} {sl3 : Array (Option Value)} {oc3 kV3 dc3 pm3 cd3 ct3 : Value}
    {f4 : Addr} {od4 an4 : Option Addr} {sl4 : Array (Option Value)} {oc4 kV4 dc4 pm4 cd4 ct4 : Value}
    {f5 : Addr} {od5 an5 : Option Addr} {sl5 : Array (Option Value)} {oc5 kV5 dc5 pm5 cd5 ct5 : Value}
    {f6 : Addr} {od6 an6 : Option Addr} {sl6 : Array (Option Value)} {oc6 kV6 dc6 pm6 cd6 ct6 : Value}
    {f7 : Addr} {od7 an7 : Option Addr} {sl7 : Array (Option Value)} {oc7 kV7 dc7 pm7 cd7 ct7 : Value}
    {f8 : Addr} {od8 an8 : Option Addr} {sl8 : Array (Option Value)} {oc8 kV8 dc8 pm8 cd8 ct8 : Value}
    {f9 : Addr} {od9 an9 : Option Addr} {sl9 : Array (Option Value)} {oc9 kV9 dc9 pm9 cd9 ct9 : Value}
    {f10 : Addr} {od10 an10 : Option Addr} {sl10 : Array (Option Value)} {oc10 kV10 dc10 pm10 cd10 ct10 : Value}
    {f11 : Addr} {od11 an11 : Option Addr} {sl11 : Array (Option Value)} {oc11 kV11 dc11 pm11 cd11 ct11 : Value}
    {f12 : Addr} {od12 an12 : Option Addr} {sl12 : Array (Option Value)} {oc12 kV12 dc12 pm12 cd12 ct12 : Value}
    {f13 : Addr} {od13 an13 : Option Addr} {sl13 : Array (Option Value)} {oc13 kV13 dc13 pm13 cd13 ct13 : Value}
    {f14 : Addr} {od14 an14 : Option Addr} {sl14 : Array (Option Value)} {oc14 kV14 dc14 pm14 cd14 ct14 : Value}
    {f15 : Addr} {od15 an15 : Option Addr} {sl15 : Array (Option Value)} {oc15 kV15 dc15 pm15 cd15 ct15 : Value}
    {aKINDS : Addr} {odKINDS : Option Addr} {nKINDS : Nat} {slKINDS : Array (Option Value)} {tKINDS0 tKINDS1 tKINDS2 tKINDS3 : Tok}
    (a0 : PySem.W.nsIn K mainGlobals "differences" = some (some (.ref f0))) (l0 : K.lookup f0 = some ⟨oc0, od0, .func (PySem.W.fnOf "differences" "differences" (defArgs s_differences) (defBody s_differences) (defScope s_differences) .none kV0 dc0 pm0 an0 cd0 ct0), sl0⟩) (c0 : PySem.W.codeIn K cd0 "differences" = true) (k0 : PySem.W.keepIn K (.ref f0) = true)
    (a1 : PySem.W.nsIn K mainGlobals "at_places" = some (some (.ref f1))) (l1 : K.lookup f1 = some ⟨oc1, od1, .func (PySem.W.fnOf "at_places" "at_places" (defArgs s_at_places) (defBody s_at_places) (defScope s_at_places) .none kV1 dc1 pm1 an1 cd1 ct1), sl1⟩) (c1 : PySem.W.codeIn K cd1 "at_places" = true) (k1 : PySem.W.keepIn K (.ref f1) = true)
    (a2 : PySem.W.nsIn K mainGlobals "part_of" = some (some (.ref f2))) (l2 : K.lookup f2 = some ⟨oc2, od2, .func (PySem.W.fnOf "part_of" "part_of" (defArgs s_part_of) (defBody s_part_of) (defScope s_part_of) .none kV2 dc2 pm2 an2 cd2 ct2), sl2⟩) (c2 : PySem.W.codeIn K cd2 "part_of" = true) (k2 : PySem.W.keepIn K (.ref f2) = true)
    (a3 : PySem.W.nsIn K mainGlobals "joined_parts" = some (some (.ref f3))) (l3 : K.lookup f3 = some ⟨oc3, od3, .func (PySem.W.fnOf "joined_parts" "joined_parts" (defArgs s_joined_parts) (defBody s_joined_parts) (defScope s_joined_parts) .none kV3 dc3 pm3 an3 cd3 ct3), sl3⟩) (c3 : PySem.W.codeIn K cd3 "joined_parts" = true) (k3 : PySem.W.keepIn K (.ref f3) = true)
    (a4 : PySem.W.nsIn K mainGlobals "distance" = some (some (.ref f4))) (l4 : K.lookup f4 = some ⟨oc4, od4, .func (PySem.W.fnOf "distance" "distance" (defArgs s_distance) (defBody s_distance) (defScope s_distance) .none kV4 dc4 pm4 an4 cd4 ct4), sl4⟩) (c4 : PySem.W.codeIn K cd4 "distance" = true) (k4 : PySem.W.keepIn K (.ref f4) = true)
    (a5 : PySem.W.nsIn K mainGlobals "distance_at" = some (some (.ref f5))) (l5 : K.lookup f5 = some ⟨oc5, od5, .func (PySem.W.fnOf "distance_at" "distance_at" (defArgs s_distance_at) (defBody s_distance_at) (defScope s_distance_at) .none kV5 dc5 pm5 an5 cd5 ct5), sl5⟩) (c5 : PySem.W.codeIn K cd5 "distance_at" = true) (k5 : PySem.W.keepIn K (.ref f5) = true)
    (a6 : PySem.W.nsIn K mainGlobals "is_within" = some (some (.ref f6))) (l6 : K.lookup f6 = some ⟨oc6, od6, .func (PySem.W.fnOf "is_within" "is_within" (defArgs s_is_within) (defBody s_is_within) (defScope s_is_within) .none kV6 dc6 pm6 an6 cd6 ct6), sl6⟩) (c6 : PySem.W.codeIn K cd6 "is_within" = true) (k6 : PySem.W.keepIn K (.ref f6) = true)
    (a7 : PySem.W.nsIn K mainGlobals "_law_heap" = some (some (.ref f7))) (l7 : K.lookup f7 = some ⟨oc7, od7, .func (PySem.W.fnOf "_law_heap" "_law_heap" (defArgs s__law_heap) (defBody s__law_heap) (defScope s__law_heap) .none kV7 dc7 pm7 an7 cd7 ct7), sl7⟩) (c7 : PySem.W.codeIn K cd7 "_law_heap" = true) (k7 : PySem.W.keepIn K (.ref f7) = true)
    (a8 : PySem.W.nsIn K mainGlobals "_law_draw" = some (some (.ref f8))) (l8 : K.lookup f8 = some ⟨oc8, od8, .func (PySem.W.fnOf "_law_draw" "_law_draw" (defArgs s__law_draw) (defBody s__law_draw) (defScope s__law_draw) .none kV8 dc8 pm8 an8 cd8 ct8), sl8⟩) (c8 : PySem.W.codeIn K cd8 "_law_draw" = true) (k8 : PySem.W.keepIn K (.ref f8) = true)
    (a9 : PySem.W.nsIn K mainGlobals "_law_pick" = some (some (.ref f9))) (l9 : K.lookup f9 = some ⟨oc9, od9, .func (PySem.W.fnOf "_law_pick" "_law_pick" (defArgs s__law_pick) (defBody s__law_pick) (defScope s__law_pick) .none kV9 dc9 pm9 an9 cd9 ct9), sl9⟩) (c9 : PySem.W.codeIn K cd9 "_law_pick" = true) (k9 : PySem.W.keepIn K (.ref f9) = true)
    (a10 : PySem.W.nsIn K mainGlobals "_law_vectors" = some (some (.ref f10))) (l10 : K.lookup f10 = some ⟨oc10, od10, .func (PySem.W.fnOf "_law_vectors" "_law_vectors" (defArgs s__law_vectors) (defBody s__law_vectors) (defScope s__law_vectors) .none kV10 dc10 pm10 an10 cd10 ct10), sl10⟩) (c10 : PySem.W.codeIn K cd10 "_law_vectors" = true) (k10 : PySem.W.keepIn K (.ref f10) = true)
    (a11 : PySem.W.nsIn K mainGlobals "_law_part" = some (some (.ref f11))) (l11 : K.lookup f11 = some ⟨oc11, od11, .func (PySem.W.fnOf "_law_part" "_law_part" (defArgs s__law_part) (defBody s__law_part) (defScope s__law_part) .none kV11 dc11 pm11 an11 cd11 ct11), sl11⟩) (c11 : PySem.W.codeIn K cd11 "_law_part" = true) (k11 : PySem.W.keepIn K (.ref f11) = true)
    (a12 : PySem.W.nsIn K mainGlobals "_law_distance" = some (some (.ref f12))) (l12 : K.lookup f12 = some ⟨oc12, od12, .func (PySem.W.fnOf "_law_distance" "_law_distance" (defArgs s__law_distance) (defBody s__law_distance) (defScope s__law_distance) .none kV12 dc12 pm12 an12 cd12 ct12), sl12⟩) (c12 : PySem.W.codeIn K cd12 "_law_distance" = true) (k12 : PySem.W.keepIn K (.ref f12) = true)
    (a13 : PySem.W.nsIn K mainGlobals "_law_lots" = some (some (.ref f13))) (l13 : K.lookup f13 = some ⟨oc13, od13, .func (PySem.W.fnOf "_law_lots" "_law_lots" (defArgs s__law_lots) (defBody s__law_lots) (defScope s__law_lots) .none kV13 dc13 pm13 an13 cd13 ct13), sl13⟩) (c13 : PySem.W.codeIn K cd13 "_law_lots" = true) (k13 : PySem.W.keepIn K (.ref f13) = true)
    (a14 : PySem.W.nsIn K mainGlobals "_law_pair_right" = some (some (.ref f14))) (l14 : K.lookup f14 = some ⟨oc14, od14, .func (PySem.W.fnOf "_law_pair_right" "_law_pair_right" (defArgs s__law_pair_right) (defBody s__law_pair_right) (defScope s__law_pair_right) .none kV14 dc14 pm14 an14 cd14 ct14), sl14⟩) (c14 : PySem.W.codeIn K cd14 "_law_pair_right" = true) (k14 : PySem.W.keepIn K (.ref f14) = true)
    (a15 : PySem.W.nsIn K mainGlobals "law" = some (some (.ref f15))) (l15 : K.lookup f15 = some ⟨oc15, od15, .func (PySem.W.fnOf "law" "law" (defArgs s_law) (defBody s_law) (defScope s_law) .none kV15 dc15 pm15 an15 cd15 ct15), sl15⟩) (c15 : PySem.W.codeIn K cd15 "law" = true) (k15 : PySem.W.keepIn K (.ref f15) = true)
    (z_abs : PySem.W.nsIn K mainGlobals "abs" = some none)
    (z_int : PySem.W.nsIn K mainGlobals "int" = some none)
    (z_len : PySem.W.nsIn K mainGlobals "len" = some none)
    (z_list : PySem.W.nsIn K mainGlobals "list" = some none)
    (z_max : PySem.W.nsIn K mainGlobals "max" = some none)
    (z_min : PySem.W.nsIn K mainGlobals "min" = some none)
    (z_range : PySem.W.nsIn K mainGlobals "range" = some none)
    (z_repr : PySem.W.nsIn K mainGlobals "repr" = some none)
    (z_sum : PySem.W.nsIn K mainGlobals "sum" = some none)
    (z_tuple : PySem.W.nsIn K mainGlobals "tuple" = some none)
    (z_zip : PySem.W.nsIn K mainGlobals "zip" = some none)
    (g_KINDS : PySem.W.nsIn K mainGlobals "KINDS" = some (some (.ref aKINDS))) (lk_KINDS : K.lookup aKINDS = some ⟨.type "tuple", odKINDS, .seq #[.str "square" tKINDS0, .str "sum" tKINDS1, .str "most" tKINDS2, .str "unlike" tKINDS3] nKINDS, slKINDS⟩)
    :
    ∃ fd : FuncData, (∀ (s : Shared) (v : Value), BindsTo s fd ⟨[v], []⟩ [("script", v)]) ∧ ∀ base : Heap, K.In base → base.Ns mainGlobals mg → FnG l.prog w K mg base 5 fa fd ["script"] (lift K F_law) := by
  have e := hfa.symm.trans (PySem.W.mg_of X G a15)
  cases e
  have T : Txt K mg aKINDS := ⟨PySem.W.mg_none_of X G z_abs, PySem.W.mg_none_of X G z_int, PySem.W.mg_none_of X G z_len, PySem.W.mg_none_of X G z_list, PySem.W.mg_none_of X G z_max, PySem.W.mg_none_of X G z_min, PySem.W.mg_none_of X G z_range, PySem.W.mg_none_of X G z_repr, PySem.W.mg_none_of X G z_sum, PySem.W.mg_none_of X G z_tuple, PySem.W.mg_none_of X G z_zip, PySem.W.mg_of X G g_KINDS, fun H => .tup (vs := [.str "square", .str "sum", .str "most", .str "unlike"]) (.inr ⟨_, _, _, lk_KINDS, rfl, rfl, (by show 4 ≤ sizeLine; decide), (.cons ⟨_, rfl⟩ (.cons ⟨_, rfl⟩ (.cons ⟨_, rfl⟩ (.cons ⟨_, rfl⟩ (.nil)))))⟩) (.cons (.str _) (.cons (.str _) (.cons (.str _) (.cons (.str _) (.nil)))))⟩
  refine ⟨PySem.W.fnOf "law" "law" (defArgs s_law) (defBody s_law) (defScope s_law) .none kV15 dc15 pm15 an15 cd15 ct15, fun s v => .of_eq rfl, fun base KB NB => ?_⟩
  have h_differences : Has l.prog w K mg base 1 "differences" s_differences ["one", "other"] F_differences := Has.mk' (fun_mk (st := s_differences) l0 c0 k0) (PySem.W.mg_of X G a0) (ok_differences (P := l.prog) (w := w) (base := base) (fun_mk (st := s_differences) l0 c0 k0) T len_differences wp_differences) fun _ _ _ _ _ _ us hl => match us, hl with | [_, _], _ => rfl
  have h_at_places : Has l.prog w K mg base 1 "at_places" s_at_places ["vector", "places"] F_at_places := Has.mk' (fun_mk (st := s_at_places) l1 c1 k1) (PySem.W.mg_of X G a1) (ok_at_places (P := l.prog) (w := w) (base := base) (fun_mk (st := s_at_places) l1 c1 k1) T len_at_places wp_at_places) fun _ _ _ _ _ _ us hl => match us, hl with | [_, _], _ => rfl
  have h_part_of : Has l.prog w K mg base 1 "part_of" s_part_of ["kind", "difference"] F_part_of := Has.mk' (fun_mk (st := s_part_of) l2 c2 k2) (PySem.W.mg_of X G a2) (ok_part_of (P := l.prog) (w := w) (base := base) (fun_mk (st := s_part_of) l2 c2 k2) T len_part_of wp_part_of) fun _ _ _ _ _ _ us hl => match us, hl with | [_, _], _ => rfl
  have h_joined_parts : Has l.prog w K mg base 1 "joined_parts" s_joined_parts ["kind", "parts"] F_joined_parts := Has.mk' (fun_mk (st := s_joined_parts) l3 c3 k3) (PySem.W.mg_of X G a3) (ok_joined_parts (P := l.prog) (w := w) (base := base) (fun_mk (st := s_joined_parts) l3 c3 k3) T len_joined_parts wp_joined_parts) fun _ _ _ _ _ _ us hl => match us, hl with | [_, _], _ => rfl
  have h__law_heap : Has l.prog w K mg base 1 "_law_heap" s__law_heap ["script"] F__law_heap := Has.mk' (fun_mk (st := s__law_heap) l7 c7 k7) (PySem.W.mg_of X G a7) (ok__law_heap (P := l.prog) (w := w) (base := base) (fun_mk (st := s__law_heap) l7 c7 k7) T len__law_heap wp__law_heap) fun _ _ _ _ _ _ us hl => match us, hl with | [_], _ => rfl
  have h__law_draw : Has l.prog w K mg base 1 "_law_draw" s__law_draw ["heap", "many"] F__law_draw := Has.mk' (fun_mk (st := s__law_draw) l8 c8 k8) (PySem.W.mg_of X G a8) (ok__law_draw (P := l.prog) (w := w) (base := base) (fun_mk (st := s__law_draw) l8 c8 k8) T) fun _ _ _ _ _ _ us hl => match us, hl with | [_, _], _ => rfl
  have h__law_part : Has l.prog w K mg base 1 "_law_part" s__law_part ["kind", "one", "other"] F__law_part := Has.mk' (fun_mk (st := s__law_part) l11 c11 k11) (PySem.W.mg_of X G a11) (ok__law_part (P := l.prog) (w := w) (base := base) (fun_mk (st := s__law_part) l11 c11 k11) T len__law_part wp__law_part) fun _ _ _ _ _ _ us hl => match us, hl with | [_, _, _], _ => rfl
  have h_distance : Has l.prog w K mg base 2 "distance" s_distance ["kind", "one", "other"] F_distance := Has.mk' (fun_mk (st := s_distance) l4 c4 k4) (PySem.W.mg_of X G a4) (ok_distance (P := l.prog) (w := w) (base := base) (fun_mk (st := s_distance) l4 c4 k4) T h_differences h_part_of h_joined_parts len_distance wp_distance) fun _ _ _ _ _ _ us hl => match us, hl with | [_, _, _], _ => rfl
  have h__law_pick : Has l.prog w K mg base 2 "_law_pick" s__law_pick ["heap", "some"] F__law_pick := Has.mk' (fun_mk (st := s__law_pick) l9 c9 k9) (PySem.W.mg_of X G a9) (ok__law_pick (P := l.prog) (w := w) (base := base) (fun_mk (st := s__law_pick) l9 c9 k9) T h__law_draw len__law_pick wp__law_pick) fun _ _ _ _ _ _ us hl => match us, hl with | [_, _], _ => rfl
  have h__law_distance : Has l.prog w K mg base 2 "_law_distance" s__law_distance ["kind", "one", "other"] F__law_distance := Has.mk' (fun_mk (st := s__law_distance) l12 c12 k12) (PySem.W.mg_of X G a12) (ok__law_distance (P := l.prog) (w := w) (base := base) (fun_mk (st := s__law_distance) l12 c12 k12) T h__law_part len__law_distance wp__law_distance) fun _ _ _ _ _ _ us hl => match us, hl with | [_, _, _], _ => rfl
  have h_distance_at : Has l.prog w K mg base 3 "distance_at" s_distance_at ["kind", "one", "other", "places"] F_distance_at := Has.mk' (fun_mk (st := s_distance_at) l5 c5 k5) (PySem.W.mg_of X G a5) (ok_distance_at (P := l.prog) (w := w) (base := base) (fun_mk (st := s_distance_at) l5 c5 k5) T h_at_places h_distance len_distance_at wp_distance_at) fun _ _ _ _ _ _ us hl => match us, hl with | [_, _, _, _], _ => rfl
  have h_is_within : Has l.prog w K mg base 3 "is_within" s_is_within ["kind", "one", "other", "reach"] F_is_within := Has.mk' (fun_mk (st := s_is_within) l6 c6 k6) (PySem.W.mg_of X G a6) (ok_is_within (P := l.prog) (w := w) (base := base) (fun_mk (st := s_is_within) l6 c6 k6) T h_distance len_is_within wp_is_within) fun _ _ _ _ _ _ us hl => match us, hl with | [_, _, _, _], _ => rfl
  have h__law_vectors : Has l.prog w K mg base 3 "_law_vectors" s__law_vectors ["heap", "places", "many"] F__law_vectors := Has.mk' (fun_mk (st := s__law_vectors) l10 c10 k10) (PySem.W.mg_of X G a10) (ok__law_vectors (P := l.prog) (w := w) (base := base) (fun_mk (st := s__law_vectors) l10 c10 k10) T h__law_draw h__law_pick len__law_vectors wp__law_vectors) fun _ _ _ _ _ _ us hl => match us, hl with | [_, _, _], _ => rfl
  have h__law_lots : Has l.prog w K mg base 3 "_law_lots" s__law_lots ["heap", "places"] F__law_lots := Has.mk' (fun_mk (st := s__law_lots) l13 c13 k13) (PySem.W.mg_of X G a13) (ok__law_lots (P := l.prog) (w := w) (base := base) (fun_mk (st := s__law_lots) l13 c13 k13) T h__law_draw h__law_pick len__law_lots wp__law_lots) fun _ _ _ _ _ _ us hl => match us, hl with | [_, _], _ => rfl
  have h__law_pair_right : Has l.prog w K mg base 4 "_law_pair_right" s__law_pair_right ["heap", "kind", "one", "other"] F__law_pair_right := Has.mk' (fun_mk (st := s__law_pair_right) l14 c14 k14) (PySem.W.mg_of X G a14) (ok__law_pair_right (P := l.prog) (w := w) (base := base) (fun_mk (st := s__law_pair_right) l14 c14 k14) T h_part_of h_joined_parts h_distance h_distance_at h_is_within h__law_draw h__law_part h__law_distance h__law_lots len__law_pair_right wp__law_pair_right) fun _ _ _ _ _ _ us hl => match us, hl with | [_, _, _, _], _ => rfl
  exact ok_law (P := l.prog) (w := w) (base := base) (fun_mk (st := s_law) l15 c15 k15) T h_distance h_distance_at h__law_heap h__law_pick h__law_vectors h__law_pair_right len_law wp_law
theorem at_end {K : PySem.W.Frag} {H : Hp} {a : Addr} {ns : List Int} (hl : ns.length ≤ 63) (hS : SqL K H a (ns.map V.int)) : lift K F_law [.ref a] H (fun v _ => v = .bl true) fun _ _ _ => False := by
  have fe : fz (fun _ => none) H (fun _ => none) = H := by
    funext b
    exact fz_none rfl rfl
  refine ⟨fun _ => none, [.lst (ns.map .int)], fun _ => none, fun d _ => d = .bl true, fun _ _ _ => False, ⟨(fun _ _ e => nomatch e), (fun _ _ e => nomatch e)⟩, ?_, ⟨ns, rfl, hl, fun _ => rfl⟩, fun v d H' M' _ r e => ?_, fun _ _ _ _ _ _ _ _ _ z => z⟩
  · rw [fe]
    exact .cons (.lst hS (.ofInts ns)) .nil
  · subst e
    cases r
    rfl
end K03
open PySem PySem.W PyProof.Rows in
set_option maxRecDepth 100000 in
set_option maxHeartbeats 0 in
theorem PySem.Challenge.cw_nonearer_k03_whole_distances_holds : PySem.Challenge.rw_nonearer_k03_whole_distances.Holds := by
  w_on; o_law; k_head; (case hw => w_witness2)
  k_fill
  refine L3.walk_g (l := PySem.Challenge.rw_nonearer_k03_whole_distances) (n := 63) (k := 5) (x := "script") (sp := fun w => L3.lift _ K03.F_law) rfl (by decide) rfl ⟨rfl, by decide, by decide⟩ (fun w h Y => PySem.W.kIn_of Y) ?F (fun w H a ns hl hS => K03.at_end hl hS)
  case F =>
    intro w mg fa h KX G hmg
    refine' K03.all_mk rfl KX G hmg ?a0 ?l0 ?c0 ?k0 ?a1 ?l1 ?c1 ?k1 ?a2 ?l2 ?c2 ?k2 ?a3 ?l3 ?c3 ?k3 ?a4 ?l4 ?c4 ?k4 ?a5 ?l5 ?c5 ?k5 ?a6 ?l6 ?c6 ?k6 ?a7 ?l7 ?c7 ?k7 ?a8 ?l8 ?c8 ?k8 ?a9 ?l9 ?c9 ?k9 ?a10 ?l10 ?c10 ?k10 ?a11 ?l11 ?c11 ?k11 ?a12 ?l12 ?c12 ?k12 ?a13 ?l13 ?c13 ?k13 ?a14 ?l14 ?c14 ?k14 ?a15 ?l15 ?c15 ?k15 ?z_abs ?z_int ?z_len ?z_list ?z_max ?z_min ?z_range ?z_repr ?z_sum ?z_tuple ?z_zip ?g_KINDS ?lk_KINDS
    (case a0 => k_is)
    (case l0 => k_is)
    (case c0 => k_is)
    (case k0 => k_is)
    (case a1 => k_is)
    (case l1 => k_is)
    (case c1 => k_is)
    (case k1 => k_is)
    (case a2 => k_is)
    (case l2 => k_is)
    (case c2 => k_is)
    (case k2 => k_is)
    (case a3 => k_is)
    (case l3 => k_is)
    (case c3 => k_is)
    (case k3 => k_is)
    (case a4 => k_is)
    (case l4 => k_is)
    (case c4 => k_is)
    (case k4 => k_is)
    (case a5 => k_is)
    (case l5 => k_is)
    (case c5 => k_is)
    (case k5 => k_is)
    (case a6 => k_is)
    (case l6 => k_is)
    (case c6 => k_is)
    (case k6 => k_is)
    (case a7 => k_is)
    (case l7 => k_is)
    (case c7 => k_is)
    (case k7 => k_is)
    (case a8 => k_is)
    (case l8 => k_is)
    (case c8 => k_is)
    (case k8 => k_is)
    (case a9 => k_is)
    (case l9 => k_is)
    (case c9 => k_is)
    (case k9 => k_is)
    (case a10 => k_is)
    (case l10 => k_is)
    (case c10 => k_is)
    (case k10 => k_is)
    (case a11 => k_is)
    (case l11 => k_is)
    (case c11 => k_is)
    (case k11 => k_is)
    (case a12 => k_is)
    (case l12 => k_is)
    (case c12 => k_is)
    (case k12 => k_is)
    (case a13 => k_is)
    (case l13 => k_is)
    (case c13 => k_is)
    (case k13 => k_is)
    (case a14 => k_is)
    (case l14 => k_is)
    (case c14 => k_is)
    (case k14 => k_is)
    (case a15 => k_is)
    (case l15 => k_is)
    (case c15 => k_is)
    (case k15 => k_is)
    (case z_abs => k_is)
    (case z_int => k_is)
    (case z_len => k_is)
    (case z_list => k_is)
    (case z_max => k_is)
    (case z_min => k_is)
    (case z_range => k_is)
    (case z_repr => k_is)
    (case z_sum => k_is)
    (case z_tuple => k_is)
    (case z_zip => k_is)
    (case g_KINDS => k_is)
    (case lk_KINDS => k_is)
#print axioms PySem.Challenge.cw_nonearer_k03_whole_distances_holds
