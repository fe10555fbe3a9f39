import PyProof.Rows.All
import Wide.All
import OpenK.AllK
import Wide.FinOn
import HandS.ForMost
import HandS.ForExc
import HandS.Wide
import HandS.Zip
import HandS.Defaults
import HandS.TupAny
import HandS.Conv
import HandS.Style
import HandS.FStr
import PyProof.Rows.NestShow
import HandS.Gcd
import PySem.Challenge.RW_nonearer_k04_whole_what_lies_beyond
set_option Elab.async false
set_option linter.all false
set_option maxRecDepth 100000
set_option exponentiation.threshold 20000
/-! A second layer over HandS: data by value (D), mutable objects as tokens in a store (Mp), readings as predicate transformers over data. -/
namespace L3
open PySem L2

/-! ### data -/
inductive D where
  | non | bl (b : Bool) | int (i : Int) | str (x : Str) | ty (n : String) | tok (a : Addr)
  | tup (ds : List D) | lst (ds : List D)

mutual
inductive Rep (K : PySem.W.Frag) (H : Hp) : V → D → Prop
  | non : Rep K H .non .non
  | bl (b : Bool) : Rep K H (.bl b) (.bl b)
  | int (i : Int) : Rep K H (.int i) (.int i)
  | str (x : Str) : Rep K H (.str x) (.str x)
  | ty (n : String) : Rep K H (.ty n) (.ty n)
  | tok (a : Addr) : Rep K H (.ref a) (.tok a)
  | tup {a : Addr} {vs : List V} {ds : List D} : SqT K H a vs → RepL K H vs ds → Rep K H (.ref a) (.tup ds)
  | lst {a : Addr} {vs : List V} {ds : List D} : SqL K H a vs → RepL K H vs ds → Rep K H (.ref a) (.lst ds)
inductive RepL (K : PySem.W.Frag) (H : Hp) : List V → List D → Prop
  | nil : RepL K H [] []
  | cons {v : V} {vs : List V} {d : D} {ds : List D} : Rep K H v d → RepL K H vs ds → RepL K H (v :: vs) (d :: ds)
end

theorem sqt_mono {K : PySem.W.Frag} {H H' : Hp} {a : Addr} {xs : List V} (e : Same H H') (h : SqT K H a xs) : SqT K H' a xs := by
  rcases h with (h | ⟨o, h⟩) | h
  · exact .inl (.inl (e _ _ h))
  · exact .inl (.inr ⟨o, e _ _ h⟩)
  · exact .inr h

mutual
theorem Rep.mono {K : PySem.W.Frag} {H H' : Hp} (e : Same H H') : ∀ (d : D) (v : V), Rep K H v d → Rep K H' v d
  | .non, _, h => by cases h; exact .non
  | .bl b, _, h => by cases h; exact .bl b
  | .int i, _, h => by cases h; exact .int i
  | .str x, _, h => by cases h; exact .str x
  | .ty n, _, h => by cases h; exact .ty n
  | .tok a, _, h => by cases h; exact .tok a
  | .tup ds, _, h => by
    cases h with
    | tup hs ha => exact .tup (sqt_mono e hs) (RepL.mono e ds _ ha)
  | .lst ds, _, h => by
    cases h with
    | lst hs ha => exact .lst (e.seq hs) (RepL.mono e ds _ ha)
theorem RepL.mono {K : PySem.W.Frag} {H H' : Hp} (e : Same H H') : ∀ (ds : List D) (vs : List V), RepL K H vs ds → RepL K H' vs ds
  | [], _, h => by cases h; exact .nil
  | d :: ds, _, h => by
    cases h with
    | cons h1 h2 => exact .cons (Rep.mono e d _ h1) (RepL.mono e ds _ h2)
end
theorem Rep.up {K : PySem.W.Frag} {H H' : Hp} {v : V} {d : D} (h : Rep K H v d) (e : Same H H') : Rep K H' v d := Rep.mono e d v h
theorem RepL.up {K : PySem.W.Frag} {H H' : Hp} {v : List V} {d : List D} (h : RepL K H v d) (e : Same H H') : RepL K H' v d := RepL.mono e d v h
theorem RepL.len {K : PySem.W.Frag} {H : Hp} : ∀ {vs : List V} {ds : List D}, RepL K H vs ds → vs.length = ds.length
  | _, _, .nil => rfl
  | _, _, .cons _ r => by rw [List.length_cons, List.length_cons, r.len]
theorem RepL.app {K : PySem.W.Frag} {H : Hp} : ∀ {vs ws : List V} {ds es : List D}, RepL K H vs ds → RepL K H ws es → RepL K H (vs ++ ws) (ds ++ es)
  | _, _, _, _, .nil, s => s
  | _, _, _, _, .cons r t, s => .cons r (RepL.app t s)
theorem RepL.get {K : PySem.W.Frag} {H : Hp} : ∀ {vs : List V} {ds : List D} {i : Nat} {d : D}, RepL K H vs ds → ds[i]? = some d → ∃ v, vs[i]? = some v ∧ Rep K H v d
  | _, _, i, d, .nil, e => by simp at e
  | _, _, 0, d, .cons r t, e => by
    obtain rfl : _ = d := Option.some.inj e
    exact ⟨_, rfl, r⟩
  | _, _, i + 1, d, .cons r t, e => t.get (i := i) e
theorem RepL.getV {K : PySem.W.Frag} {H : Hp} : ∀ {vs : List V} {ds : List D} {i : Nat} {v : V}, RepL K H vs ds → vs[i]? = some v → ∃ d, ds[i]? = some d ∧ Rep K H v d
  | _, _, i, d, .nil, e => by simp at e
  | _, _, 0, d, .cons r t, e => by
    obtain rfl : _ = d := Option.some.inj e
    exact ⟨_, rfl, r⟩
  | _, _, i + 1, d, .cons r t, e => t.getV (i := i) e
theorem RepL.set {K : PySem.W.Frag} {H : Hp} {v : V} {d : D} (r : Rep K H v d) : ∀ {vs : List V} {ds : List D} (i : Nat), RepL K H vs ds → RepL K H (vs.set i v) (ds.set i d)
  | _, _, _, .nil => .nil
  | _, _, 0, .cons _ t => .cons r t
  | _, _, i + 1, .cons q t => .cons q (RepL.set r i t)
theorem RepL.take {K : PySem.W.Frag} {H : Hp} : ∀ {vs : List V} {ds : List D} (n : Nat), RepL K H vs ds → RepL K H (vs.take n) (ds.take n)
  | _, _, 0, _ => .nil
  | _, _, n + 1, .nil => .nil
  | _, _, n + 1, .cons r t => .cons r (RepL.take n t)
theorem RepL.drop {K : PySem.W.Frag} {H : Hp} : ∀ {vs : List V} {ds : List D} (n : Nat), RepL K H vs ds → RepL K H (vs.drop n) (ds.drop n)
  | _, _, 0, r => r
  | _, _, n + 1, .nil => .nil
  | _, _, n + 1, .cons _ t => RepL.drop n t
theorem RepL.ints {K : PySem.W.Frag} {H : Hp} : ∀ {vs : List V} {ns : List Int}, RepL K H vs (ns.map D.int) → vs = ns.map V.int
  | _, [], h => by cases h; rfl
  | _, n :: ns, h => by
    cases h with
    | cons r t =>
      cases r
      rw [List.map_cons, RepL.ints t]
theorem RepL.ofInts {K : PySem.W.Frag} {H : Hp} : ∀ (ns : List Int), RepL K H (ns.map V.int) (ns.map D.int)
  | [] => .nil
  | n :: ns => .cons (.int n) (RepL.ofInts ns)
theorem RepL.strs {K : PySem.W.Frag} {H : Hp} : ∀ {vs : List V} {ns : List Str}, RepL K H vs (ns.map D.str) → vs = ns.map V.str
  | _, [], h => by cases h; rfl
  | _, n :: ns, h => by
    cases h with
    | cons r t =>
      cases r
      rw [List.map_cons, RepL.strs t]
theorem RepL.ofStrs {K : PySem.W.Frag} {H : Hp} : ∀ (ns : List Str), RepL K H (ns.map V.str) (ns.map D.str)
  | [] => .nil
  | n :: ns => .cons (.str n) (RepL.ofStrs ns)
theorem RepL.bls {K : PySem.W.Frag} {H : Hp} : ∀ {vs : List V} {ns : List Bool}, RepL K H vs (ns.map D.bl) → vs = ns.map V.bl
  | _, [], h => by cases h; rfl
  | _, n :: ns, h => by
    cases h with
    | cons r t =>
      cases r
      rw [List.map_cons, RepL.bls t]

/-! ### the store of what may change -/
inductive Cell where
  | aux | drw (a0 : Addr) | lst (ds : List D) | ins (C : Addr) (fs : List (Str × D))
abbrev Mp := Addr → Option Cell
/-- what never changes: neither in the store nor hidden (Z) -/
def fz (Z H : Hp) (M : Mp) : Hp := fun a => match M a, Z a with
  | none, none => H a
  | _, _ => none
def setM (M : Mp) (a : Addr) (c : Cell) : Mp := fun b => if b = a then some c else M b
theorem setM_same {M : Mp} {a : Addr} {c : Cell} : setM M a c a = some c := if_pos rfl
theorem setM_ne {M : Mp} {a b : Addr} {c : Cell} (h : b ≠ a) : setM M a c b = M b := if_neg h
theorem fz_none {Z H : Hp} {M : Mp} {a : Addr} (h : M a = none) (z : Z a = none) : fz Z H M a = H a := by
  unfold fz
  rw [h, z]
theorem fz_some {Z H : Hp} {M : Mp} {a : Addr} {c : Cell} (h : M a = some c) : fz Z H M a = none := by
  unfold fz
  rw [h]
theorem fz_hid {Z H : Hp} {M : Mp} {a : Addr} {o : HO} (h : Z a = some o) : fz Z H M a = none := by
  unfold fz
  rw [h]
  split <;> first | rfl | contradiction
theorem fz_is {Z H : Hp} {M : Mp} {a : Addr} {o : HO} (h : fz Z H M a = some o) : M a = none ∧ Z a = none ∧ H a = some o := by
  cases q : M a with
  | some c =>
    rw [fz_some q] at h
    cases h
  | none =>
    cases q2 : Z a with
    | some u =>
      rw [fz_hid q2] at h
      cases h
    | none =>
      rw [fz_none q q2] at h
      exact ⟨rfl, rfl, h⟩
theorem fz_to {Z H : Hp} {M : Mp} {a : Addr} {o : HO} (h1 : M a = none) (h2 : Z a = none) (h : H a = some o) : fz Z H M a = some o := by
  rw [fz_none h1 h2]
  exact h
theorem fz_sub {Z H : Hp} {M : Mp} : Same (fz Z H M) H := fun _ _ e => (fz_is e).2.2
def RepF (K : PySem.W.Frag) (H : Hp) (fv : List (Str × V)) (fs : List (Str × D)) : Prop := fv.map (·.1) = fs.map (·.1) ∧ RepL K H (fv.map (·.2)) (fs.map (·.2))
/-- the numbers of the draws -/
def DrawOk (H : Hp) (a a0 : Addr) : Prop := ∃ (cs : List Int) (s : Int), H a = some (.lst [.ref a0, .int s]) ∧ H a0 = some (.lst (cs.map V.int)) ∧ 0 ≤ s ∧ s < 4294967296 ∧ cs.length ≤ 100 ∧ ∀ c ∈ cs, 0 ≤ c
def CellOk (K : PySem.W.Frag) (Z H : Hp) (M : Mp) (a : Addr) : Cell → Prop
  | .lst ds => ∃ vs, H a = some (.lst vs) ∧ RepL K (fz Z H M) vs ds
  | .drw a0 => M a0 = some .aux ∧ DrawOk H a a0
  | .aux => ∃ o, H a = some o
  | .ins C fs => ∃ dx fv, H a = some (.ins C dx fv) ∧ RepF K (fz Z H M) fv fs
structure Sat (K : PySem.W.Frag) (Z : Hp) (H : Hp) (M : Mp) : Prop where
  cell : ∀ a c, M a = some c → CellOk K Z H M a c
  zed : ∀ a o, Z a = some o → H a = some o ∧ M a = none
theorem Sat.there {K : PySem.W.Frag} {Z : Hp} {H : Hp} {M : Mp} {a : Addr} {c : Cell} (S : Sat K Z H M) (h : M a = some c) : ∃ o, H a = some o := by
  have q := S.cell a c h
  cases c with
  | aux => exact q
  | drw a0 => obtain ⟨_, cs, s, e, _⟩ := q; exact ⟨_, e⟩
  | lst ds => obtain ⟨vs, e, _⟩ := q; exact ⟨_, e⟩
  | ins C fs => obtain ⟨dx, fv, e, _⟩ := q; exact ⟨_, e⟩
theorem Sat.free {K : PySem.W.Frag} {Z : Hp} {H : Hp} {M : Mp} {a : Addr} (S : Sat K Z H M) (h : H a = none) : M a = none := by
  cases q : M a with
  | none => rfl
  | some c =>
    obtain ⟨o, e⟩ := S.there q
    rw [h] at e
    cases e
theorem Sat.freeZ {K : PySem.W.Frag} {Z : Hp} {H : Hp} {M : Mp} {a : Addr} (S : Sat K Z H M) (h : H a = none) : Z a = none := by
  cases q : Z a with
  | none => rfl
  | some c =>
    have e := (S.zed a c q).1
    rw [h] at e
    cases e
theorem RepF.up {K : PySem.W.Frag} {H H' : Hp} {v : List (Str × V)} {d : List (Str × D)} (h : RepF K H v d) (e : Same H H') : RepF K H' v d := ⟨h.1, h.2.up e⟩
/-- a step: the heap and the store behind it -/
structure Go (K : PySem.W.Frag) (Z : Hp) (H : Hp) (M : Mp) (H' : Hp) (M' : Mp) : Prop where
  sat : Sat K Z H' M'
  ex : Same (fz Z H M) (fz Z H' M')
theorem Go.refl {K : PySem.W.Frag} {Z : Hp} {H : Hp} {M : Mp} (S : Sat K Z H M) : Go K Z H M H M := ⟨S, Same.refl _⟩
theorem Go.trans {K : PySem.W.Frag} {Z : Hp} {H H1 H2 : Hp} {M M1 M2 : Mp} (a : Go K Z H M H1 M1) (b : Go K Z H1 M1 H2 M2) : Go K Z H M H2 M2 := ⟨b.sat, a.ex.trans b.ex⟩
/-- a cell whose object stands as it stood -/
theorem CellOk.same {K : PySem.W.Frag} {Z Z' : Hp} {H H' : Hp} {M M' : Mp} {a : Addr} {c : Cell} (q : CellOk K Z H M a c) (ex : Same (fz Z H M) (fz Z' H' M')) (ha : ∀ o, H a = some o → H' a = some o)
    (aux : ∀ b, M b = some .aux → M' b = some .aux ∧ ∀ o, H b = some o → H' b = some o) : CellOk K Z' H' M' a c := by
  cases c with
  | aux =>
    obtain ⟨o, e⟩ := q
    exact ⟨o, ha o e⟩
  | drw a0 =>
    obtain ⟨m0, cs, s, e, e0, r⟩ := q
    obtain ⟨m1, k⟩ := aux a0 m0
    exact ⟨m1, cs, s, ha _ e, k _ e0, r⟩
  | lst ds =>
    obtain ⟨vs, e, r⟩ := q
    exact ⟨vs, ha _ e, r.up ex⟩
  | ins C fs =>
    obtain ⟨dx, fv, e, r⟩ := q
    exact ⟨dx, fv, ha _ e, r.up ex⟩
/-- a new object that never changes -/
theorem Go.laid {K : PySem.W.Frag} {Z : Hp} {H : Hp} {M : Mp} {p : Addr} {o : HO} (S : Sat K Z H M) (hp : H p = none) : Go K Z H M (upd H p o) M ∧ fz Z (upd H p o) M p = some o := by
  have hm := S.free hp
  have hz := S.freeZ hp
  have up : ∀ b u, H b = some u → upd H p o b = some u := fun b u e => by
    rw [upd_ne (ne_of_none e hp)]
    exact e
  have ex : Same (fz Z H M) (fz Z (upd H p o) M) := fun b u e => fz_to (fz_is e).1 (fz_is e).2.1 (up b u (fz_is e).2.2)
  exact ⟨⟨⟨fun a c h => (S.cell a c h).same ex (up a) fun b e => ⟨e, up b⟩, fun a u h => ⟨up a u (S.zed a u h).1, (S.zed a u h).2⟩⟩, ex⟩, fz_to hm hz upd_same⟩
/-- a list of the store: new, or changed -/
theorem Go.putL {K : PySem.W.Frag} {Z : Hp} {H : Hp} {M : Mp} {p : Addr} {vs : List V} {ds : List D} (S : Sat K Z H M) (hp : (H p = none) ∨ ∃ es, M p = some (.lst es)) (r : RepL K (fz Z H M) vs ds) : Go K Z H M (upd H p (.lst vs)) (setM M p (.lst ds)) := by
  have hz : Z p = none := by
    rcases hp with h | ⟨es, h⟩
    · exact S.freeZ h
    · cases q : Z p with
      | none => rfl
      | some u =>
        have e := (S.zed p u q).2
        rw [h] at e
        cases e
  have hf : ∀ u, fz Z H M p ≠ some u := fun u e => by
    obtain ⟨e1, _, e2⟩ := fz_is e
    rcases hp with h | ⟨es, h⟩
    · rw [h] at e2
      cases e2
    · rw [h] at e1
      cases e1
  have hx : M p ≠ some .aux := fun e => by
    rcases hp with h | ⟨es, h⟩
    · obtain ⟨o, e'⟩ := S.there e
      rw [h] at e'
      cases e'
    · rw [h] at e
      cases e
  have ex : Same (fz Z H M) (fz Z (upd H p (.lst vs)) (setM M p (.lst ds))) := fun b u e => by
    have hb : b ≠ p := fun z => by
      subst z
      exact hf u e
    obtain ⟨e1, e2, e3⟩ := fz_is e
    exact fz_to (by rw [setM_ne hb]; exact e1) e2 (by rw [upd_ne hb]; exact e3)
  have aux : ∀ b, M b = some .aux → setM M p (.lst ds) b = some .aux ∧ ∀ o, H b = some o → upd H p (.lst vs) b = some o := fun b e => by
    have hb : b ≠ p := fun z => by
      subst z
      exact hx e
    exact ⟨by rw [setM_ne hb]; exact e, fun o q => by rw [upd_ne hb]; exact q⟩
  refine ⟨⟨fun a c h => ?_, fun a u h => ?_⟩, ex⟩
  · by_cases ha : a = p
    · subst ha
      rw [setM_same] at h
      cases h
      exact ⟨vs, upd_same, r.up ex⟩
    · rw [setM_ne ha] at h
      exact (S.cell a c h).same ex (fun o q => by rw [upd_ne ha]; exact q) aux
  · have ha : a ≠ p := fun z => by
      subst z
      rw [hz] at h
      cases h
    exact ⟨by rw [upd_ne ha]; exact (S.zed a u h).1, by rw [setM_ne ha]; exact (S.zed a u h).2⟩
/-- a draw: the two lists of the numbers change -/
theorem Go.drawn {K : PySem.W.Frag} {Z : Hp} {H H' : Hp} {M : Mp} {a a0 : Addr} (S : Sat K Z H M) (hp : M a = some (.drw a0)) (k : ∀ b o, b ≠ a → b ≠ a0 → H b = some o → H' b = some o) (q : DrawOk H' a a0) : Go K Z H M H' M := by
  obtain ⟨m0, _⟩ := S.cell a _ hp
  have ex : Same (fz Z H M) (fz Z H' M) := fun b u e => by
    obtain ⟨e1, e2, e3⟩ := fz_is e
    have h1 : b ≠ a := fun z => by
      subst z
      rw [hp] at e1
      cases e1
    have h2 : b ≠ a0 := fun z => by
      subst z
      rw [m0] at e1
      cases e1
    exact fz_to e1 e2 (k b _ h1 h2 e3)
  refine ⟨⟨fun b c h => ?_, fun b u h => ?_⟩, ex⟩
  · by_cases h1 : b = a
    · subst h1
      rw [hp] at h
      cases h
      exact ⟨m0, q⟩
    · by_cases h2 : b = a0
      · subst h2
        rw [m0] at h
        cases h
        obtain ⟨cs', s', _, e0', _⟩ := q
        exact ⟨_, e0'⟩
      · cases c with
        | drw b0 =>
          obtain ⟨n0, cs, s, e, e0, r⟩ := S.cell b _ h
          refine ⟨n0, ?_⟩
          by_cases h3 : b0 = a0
          · subst h3
            obtain ⟨cs', s', _, e0', _, _, l', g'⟩ := q
            exact ⟨cs', s, k b _ h1 h2 e, e0', r.1, r.2.1, l', g'⟩
          · have h4 : b0 ≠ a := fun z => by
              subst z
              rw [hp] at n0
              cases n0
            exact ⟨cs, s, k b _ h1 h2 e, k b0 _ h4 h3 e0, r⟩
        | lst ds =>
          obtain ⟨vs, e, r⟩ := S.cell b _ h
          exact ⟨vs, k b _ h1 h2 e, r.up ex⟩
        | aux =>
          obtain ⟨o, e⟩ := S.cell b _ h
          exact ⟨o, k b _ h1 h2 e⟩
        | ins C fs =>
          obtain ⟨dx, fv, e, r⟩ := S.cell b _ h
          exact ⟨dx, fv, k b _ h1 h2 e, r.up ex⟩
  · obtain ⟨e1, e2⟩ := S.zed b u h
    have h1 : b ≠ a := fun z => by
      subst z
      rw [hp] at e2
      cases e2
    have h2 : b ≠ a0 := fun z => by
      subst z
      rw [m0] at e2
      cases e2
    exact ⟨k b _ h1 h2 e1, e2⟩
def delM (M : Mp) (p : Addr) : Mp := fun b => if b = p then none else M b
/-- a list of the store is let go: it never changes again -/
theorem Go.frozen {K : PySem.W.Frag} {Z : Hp} {H : Hp} {M : Mp} {p : Addr} {es : List D} (S : Sat K Z H M) (hp : M p = some (.lst es)) :
    Go K Z H M H (delM M p) ∧ ∃ vs, fz Z H (delM M p) p = some (.lst vs) ∧ RepL K (fz Z H (delM M p)) vs es := by
  have nm : ∀ {b : Addr}, M b = none → delM M p b = none := fun {b} e => by
    unfold delM
    split <;> first | rfl | exact e
  have sm : ∀ {b : Addr} {c : Cell}, delM M p b = some c → M b = some c := fun {b c} e => by
    unfold delM at e
    split at e
    · cases e
    · exact e
  have ex : Same (fz Z H M) (fz Z H (delM M p)) := fun b u e => fz_to (nm (fz_is e).1) (fz_is e).2.1 (fz_is e).2.2
  have aux : ∀ b, M b = some .aux → delM M p b = some .aux ∧ ∀ o, H b = some o → H b = some o := fun b e => by
    have hb : b ≠ p := fun z => by
      subst z
      rw [hp] at e
      cases e
    exact ⟨by unfold delM; rw [if_neg hb]; exact e, fun _ q => q⟩
  have hz : Z p = none := by
    cases q : Z p with
    | none => rfl
    | some u =>
      have e := (S.zed p u q).2
      rw [hp] at e
      cases e
  refine ⟨⟨⟨fun a c h => (S.cell a c (sm h)).same ex (fun _ q => q) aux, fun a u h => ⟨(S.zed a u h).1, nm (S.zed a u h).2⟩⟩, ex⟩, ?_⟩
  obtain ⟨vs, e, r⟩ := S.cell p _ hp
  exact ⟨vs, fz_to (by unfold delM; rw [if_pos rfl]) hz e, r.up ex⟩
/-- an object is hidden while something else runs; it is another one then, or is shown again -/
theorem Sat.swap {K : PySem.W.Frag} {Z Z' : Hp} {H H' : Hp} {M : Mp} {p : Addr} (S : Sat K Z H M) (hm : M p = none) (hf : fz Z H M p = none) (hH : ∀ b, b ≠ p → H' b = H b) (hZ : ∀ b, b ≠ p → Z' b = Z b) (hq : ∀ o, Z' p = some o → H' p = some o) : Sat K Z' H' M ∧ Same (fz Z H M) (fz Z' H' M) := by
  have ex : Same (fz Z H M) (fz Z' H' M) := fun b v e => by
    have hb : b ≠ p := fun z => by
      subst z
      rw [hf] at e
      cases e
    obtain ⟨e1, e2, e3⟩ := fz_is e
    exact fz_to e1 (by rw [hZ b hb]; exact e2) (by rw [hH b hb]; exact e3)
  have ne : ∀ {b : Addr} {c : Cell}, M b = some c → b ≠ p := fun {b c} e z => by
    subst z
    rw [hm] at e
    cases e
  refine ⟨⟨fun a c h => (S.cell a c h).same ex (fun o q => by rw [hH a (ne h)]; exact q) fun b e => ⟨e, fun o q => by rw [hH b (ne e)]; exact q⟩, fun a v h => ?_⟩, ex⟩
  by_cases ha : a = p
  · subst ha
    exact ⟨hq v h, hm⟩
  · rw [hZ a ha] at h
    exact ⟨by rw [hH a ha]; exact (S.zed a v h).1, (S.zed a v h).2⟩

/-! ### readings over data -/
abbrev En := List (Option D)
abbrev KD := D → Mp → Prop
abbrev WE := En → Mp → KD → Prop
abbrev WT := En → Mp → (Bool → Mp → Prop) → Prop
abbrev WA := En → Mp → (List D → Mp → Prop) → Prop
structure Ends3 where
  nx : En → Mp → Prop
  rt : KD
  bk : En → Mp → Prop := fun _ _ => False
  ct : En → Mp → Prop := fun _ _ => False
  xr : Addr → List (Str × D) → Mp → Prop := fun _ _ _ => False
abbrev WS := Ends3 → En → Mp → Prop
/-- the slots hold what the environment says -/
def RelS (K : PySem.W.Frag) (Hf : Hp) (σ : L2.St) (ρ : En) : Prop := σ.length = ρ.length ∧ ∀ (i : Nat) (d : D), ρ[i]? = some (some d) → ∃ v, σ[i]? = some (some v) ∧ Rep K Hf v d
theorem RelS.up {K : PySem.W.Frag} {H H' : Hp} {σ : L2.St} {ρ : En} (h : RelS K H σ ρ) (e : Same H H') : RelS K H' σ ρ := ⟨h.1, fun i d q => by
  obtain ⟨v, a, b⟩ := h.2 i d q
  exact ⟨v, a, b.up e⟩⟩
theorem RelS.set {K : PySem.W.Frag} {H : Hp} {σ : L2.St} {ρ : En} {v : V} {d : D} (h : RelS K H σ ρ) (j : Nat) (r : Rep K H v d) : RelS K H (σ.set j (some v)) (ρ.set j (some d)) := by
  refine ⟨by rw [List.length_set, List.length_set]; exact h.1, fun i e q => ?_⟩
  by_cases hij : i = j
  · subst hij
    have hl : i < ρ.length := by
      rcases Nat.lt_or_ge i ρ.length with z | z
      · exact z
      · rw [List.getElem?_eq_none (by rw [List.length_set]; exact z)] at q
        cases q
    rw [List.getElem?_set_self hl] at q
    cases q
    exact ⟨v, List.getElem?_set_self (by rw [h.1]; exact hl), r⟩
  · rw [List.getElem?_set_ne (Ne.symm hij)] at q
    obtain ⟨u, a, b⟩ := h.2 i e q
    exact ⟨u, by rw [List.getElem?_set_ne (Ne.symm hij)]; exact a, b⟩
structure R3 (K : PySem.W.Frag) (Z : Hp) (ρ : En) (M : Mp) (σ : L2.St) (H : Hp) : Prop where
  sat : Sat K Z H M
  env : RelS K (fz Z H M) σ ρ
theorem R3.go {K : PySem.W.Frag} {Z : Hp} {ρ : En} {M M' : Mp} {σ : L2.St} {H H' : Hp} (r : R3 K Z ρ M σ H) (g : Go K Z H M H' M') : R3 K Z ρ M' σ H' := ⟨g.sat, r.env.up g.ex⟩
theorem R3.refl {K : PySem.W.Frag} {Z : Hp} {ρ : En} {M : Mp} {σ : L2.St} {H : Hp} (r : R3 K Z ρ M σ H) : Go K Z H M H M := Go.refl r.sat

def SimE (K : PySem.W.Frag) (t : TE) (w : WE) : Prop := ∀ (Z : Hp) (ρ : En) (M : Mp) (σ : L2.St) (H : Hp) (Q : KD) (Q' : VK), R3 K Z ρ M σ H → w ρ M Q → (∀ v d H' M', Go K Z H M H' M' → Rep K (fz Z H' M') v d → Q d M' → Q' v H') → t σ H Q'
def SimT (K : PySem.W.Frag) (t : TT) (w : WT) : Prop := ∀ (Z : Hp) (ρ : En) (M : Mp) (σ : L2.St) (H : Hp) (Q : Bool → Mp → Prop) (Q' : Bool → Hp → Prop), R3 K Z ρ M σ H → w ρ M Q → (∀ b H' M', Go K Z H M H' M' → Q b M' → Q' b H') → t σ H Q'
def SimA (K : PySem.W.Frag) (t : TA) (w : WA) : Prop := ∀ (Z : Hp) (ρ : En) (M : Mp) (σ : L2.St) (H : Hp) (Q : List D → Mp → Prop) (Q' : List V → Hp → Prop), R3 K Z ρ M σ H → w ρ M Q → (∀ v d H' M', Go K Z H M H' M' → RepL K (fz Z H' M') v d → Q d M' → Q' v H') → t σ H Q'
structure EndsRel (K : PySem.W.Frag) (Z : Hp) (E : XK) (H : Hp) (M : Mp) (D3 : Ends3) (D : Ends) : Prop where
  nx : ∀ ρ' M' σ' H', R3 K Z ρ' M' σ' H' → Go K Z H M H' M' → D3.nx ρ' M' → D.nx σ' H'
  rt : ∀ v d H' M', Go K Z H M H' M' → Rep K (fz Z H' M') v d → D3.rt d M' → D.rt v H'
  bk : ∀ ρ' M' σ' H', R3 K Z ρ' M' σ' H' → Go K Z H M H' M' → D3.bk ρ' M' → D.bk σ' H'
  ct : ∀ ρ' M' σ' H', R3 K Z ρ' M' σ' H' → Go K Z H M H' M' → D3.ct ρ' M' → D.ct σ' H'
  xr : ∀ C dx fv fs H' M', Go K Z H M H' M' → H' dx = some (.xd fv) → RepF K (fz Z H' M') fv fs → D3.xr C fs M' → E (.ref C) (some dx) H'
theorem EndsRel.go {K : PySem.W.Frag} {Z : Hp} {E : XK} {H H' : Hp} {M M' : Mp} {D3 : Ends3} {D : Ends} (r : EndsRel K Z E H M D3 D) (g : Go K Z H M H' M') : EndsRel K Z E H' M' D3 D :=
  ⟨fun ρ N σ J a b c => r.nx ρ N σ J a (g.trans b) c, fun v d J N a b c => r.rt v d J N (g.trans a) b c, fun ρ N σ J a b c => r.bk ρ N σ J a (g.trans b) c, fun ρ N σ J a b c => r.ct ρ N σ J a (g.trans b) c,
    fun C dx fv fs J N a b c => r.xr C dx fv fs J N (g.trans a) b c⟩
def SimS (K : PySem.W.Frag) (E : XK) (t : TS) (w : WS) : Prop := ∀ (Z : Hp) (D3 : Ends3) (ρ : En) (M : Mp) (σ : L2.St) (H : Hp) (D : Ends), R3 K Z ρ M σ H → w D3 ρ M → EndsRel K Z E H M D3 D → t D σ H

structure DE (X : Cx) (e : Expr) (t : TE) (w : WE) : Prop where
  pe : PE X e t
  sm : SimE X.K t w
structure DT (X : Cx) (e : Expr) (t : TT) (w : WT) : Prop where
  pe : PT X e t
  sm : SimT X.K t w
structure DW (X : Cx) (e : Expr) (t : TT) (w : WT) : Prop where
  pe : PW X e t
  sm : SimT X.K t w
structure DA (X : Cx) (e : List Expr) (t : TA) (w : WA) : Prop where
  pe : PA X e t
  sm : SimA X.K t w
structure DS (X : Cx) (E : XK) (st : Stmt) (t : TS) (w : WS) : Prop where
  pe : PS X st t
  sm : SimS X.K E t w
structure DSs (X : Cx) (E : XK) (st : List Stmt) (t : TS) (w : WS) : Prop where
  pe : PSs X st t
  sm : SimS X.K E t w
end L3
namespace L3
open PySem L2
open PyProof.Rows (envOfC)
/-! ### defs, called where nothing is being shown -/
structure FnG (P : Program) (w : World) (K : PySem.W.Frag) (mg : Str → Option Value) (base : Heap) (k : Nat) (f : Addr) (fd : FuncData) (ps : List Str) (sp : Sp) : Prop where
  len : ∀ vs H Q E, sp vs H Q E → vs.length = ps.length
  run : ∀ (A : Around) (outer : List Env) (s : Shared) (H : Hp) (args : Args) (us : List Value) (vs : List V) (Q : VK) (E : XK), A.guards = some [] → Room k A → Env0 P w K mg base A outer s H → BindsTo s fd args (ps.zip us) → Vals vs us → sp vs H Q E →
    codeAny (model P w) A (.call (.ref f) args) (CR (L2.CX P w) outer P w H s Q E) s
theorem FnG.mono {P : Program} {w : World} {K : PySem.W.Frag} {mg : Str → Option Value} {base : Heap} {j k : Nat} {f : Addr} {fd : FuncData} {ps : List Str} {sp : Sp} (F : FnG P w K mg base j f fd ps sp) (h : j ≤ k) : FnG P w K mg base k f fd ps sp :=
  ⟨F.len, fun A o s H ar us vs Q E g hr => F.run A o s H ar us vs Q E g (hr.mono h)⟩
section
variable {P : Program} {w : World} {K : PySem.W.Frag} {mg : Str → Option Value} {base : Heap}
theorem fn_g {x qual : Str} {st : Stmt} {f : Addr} {fd : FuncData} {N ps : List Str} {k : Nat} {sp : Sp} (F : Fun K x qual st f fd) (S : FnScope N ps (defScope st)) (len : ∀ vs H Q E, sp vs H Q E → vs.length = ps.length)
    (body : ∀ (cdv : Value) (A : Around) (outer : List Env) (s : Shared) (H : Hp) (vs : List V) (Q : VK) (E : XK), A.guards = some [] → Room k (A.deeper (envOfC qual (defScope st) s.heap.objs.size f cdv)) → sp vs H Q E →
      ∃ t, PSs (cxOf (L2.CX P w) P w K mg base N qual (defScope st) f cdv A outer s H E) (defBody st) t ∧ t { nx := fun _ J => Q .non J, rt := Q } (L2.start N vs) H) : FnG P w K mg base (k + 1) f fd ps sp := by
  obtain ⟨oc, od, kV, doc, pm, an, cdv, ct, osl, rfl, lk, hcd⟩ := F.ex
  refine ⟨len, fun A outer s H args us vs Q E gd hr e0 hb r hs => ?_⟩
  have hlen := len _ _ _ _ hs
  have kin : K.In s.heap := e0.mod.kin.keeps fun b o e => (e0.bs b o e).1
  have nol : s.heap.NoLimit := e0.mod.nolimit.keeps fun b o e => (e0.bs b o e).1
  have kinds : ∀ y ∈ ps.zip us, (defScope st).names.lookup y.1 = some .local ∨ ((defScope st).names.lookup y.1 = some .cell ∧ ((cellsFrom (s.heap.objs.size + 1) (defScope st).names []).lookup y.1).isSome = true) := fun ⟨n, v⟩ hy => by
    rcases S.par n (List.of_mem_zip hy).1 with z | z
    · exact .inl z
    · exact .inr ⟨z, PySem.W.cellsFrom_some _ _ _ (.inl z)⟩
  refine codeAny_call_function hr.depth (kin _ _ lk) rfl S.co S.gen rfl (PySem.W.codeRec_of kin hcd) (hb _ _ _ _ ?_)
  refine wpAny_newFunctionEnv_cells S.kind kinds fun env he s1 c => ?_
  subst he
  refine ⟨nol.keeps c.toInCall.keep, codeAny_func ?_⟩
  obtain ⟨t, ht, hq⟩ := body cdv A outer s H vs Q E gd (hr.deeper _) hs
  have I : Inv (cxOf (L2.CX P w) P w K mg base N qual (defScope st) f cdv A outer s H E) [] (L2.start N vs) H s1 := inv_start S hr.hd e0 hlen r c
  refine wpAny_mono (ht.run [] s1 (L2.start N vs) H _ I hq) (fun fl s' hz => ?_) fun e s' hz => hz
  have fin : ∀ {σ' : L2.St} {H' : Hp} {v : V} {u : Value}, Inv (cxOf (L2.CX P w) P w K mg base N qual (defScope st) f cdv A outer s H E) [] σ' H' s' → RelV v u → Q v H' → CE outer P w H s Q u s' :=
    fun {σ' H' v u} J rv z => ⟨v, H', J.os, J.bare, J.base, J.hok, rv, z⟩
  cases fl with
  | ret u =>
    obtain ⟨v, σ', H', J, rv, z⟩ := hz
    exact fin J rv z
  | next =>
    obtain ⟨σ', H', J, z⟩ := hz
    exact fin (v := V.non) (u := Value.none) J rfl z
  | brk => exact (hz.elim fun _ h => h.elim fun _ h => h.2).elim
  | cont => exact (hz.elim fun _ h => h.elim fun _ h => h.2).elim
end
section
variable {X : Cx} {k : Nat} {f C : Addr} {fd : FuncData} {ps : List Str} {sp : Sp} {dvs : List V} {ds : List Value} {E : XK} {x m : Str} {p pos apos : Pos} {e o : Expr} {es : List Expr} {ta : TE} {t : TA}
theorem run_g {pins : List (Addr × Obj)} {σ : L2.St} {H : Hp} {s : Shared} {Q : VK} {us ws : List Value} {vs : List V} {kw : List (Str × Value)} (F : FnG X.prog X.w X.K X.mg X.base k f fd ps sp) (hr : Room k X.A) (gd : X.A.guards = some []) (hx : Passes (L2.CX X.prog X.w) X E)
    (I : Inv X pins σ H s) (hb : BindsTo s fd ⟨us, kw⟩ (ps.zip ws)) (r : Vals vs ws) (h : sp vs H Q E) : wpAny (model X.prog X.w) X.A (call (.ref f) us kw) (EP X pins σ Q) X.xe s := by
  refine wpAny_call (codeAny_mono (F.run X.A X.stack s H ⟨us, kw⟩ ws vs Q E gd hr I.env0 hb r h) fun rr s' hq => ?_)
  cases rr with
  | error er => exact hx pins σ H s er s' I hq
  | ok fl =>
    cases fl with
    | ret u => exact I.after hq
    | next => exact hq.elim
    | brk => exact hq.elim
    | cont => exact hq.elim
def tCallG (sp : Sp) (dvs : List V) (E : XK) (t : TA) : TE := fun σ H Q => t σ H fun vs J => sp (vs ++ dvs) J Q E
theorem pe_callG (F : FnG X.prog X.w X.K X.mg X.base k f fd ps sp) (hr : Room k X.A) (gd : X.A.guards = some []) (hg : Gl X x) (hm : X.mg x = some (.ref f)) (hk : PySem.W.keepIn X.K (.ref f) = true) (hb : Binds X.K fd ps ds) (hd : Vals dvs ds) (hx : Passes (L2.CX X.prog X.w) X E)
    (ha : PA X (e :: es) t) (hdb : (x == ("__debug__" : Str)) = false := by decide) (he : starEach (e :: es) X.env = (false, eval e X.env) :: starEach es X.env := by rfl) (hpl : (backTo pos (starEach es X.env)).any (·.1) = false := by rfl) :
    PE X (.Call (.Name x p) (e :: es) [] pos) (tCallG sp dvs E t) := by
  constructor
  intro pins s σ H Q I h
  refine wpAny_Call_Name_kw (ld_glob I hg hm ?_ hdb)
  refine PySem.W.callWith_K (h₀ := X.base) I.ok.mod.kin hk (thn (ha.run pos pins s σ H _ I h) fun us s1 ⟨vs, J, I1, r, q⟩ => ⟨I1.kIn, ?_⟩) he hpl
  have r2 : Vals (vs ++ dvs) (us ++ ds) := r.append hd
  have hl : (us ++ ds).length = ps.length := by rw [← r2.length]; exact F.len _ _ _ _ q
  exact run_g (us := us) (kw := []) F hr gd hx I1 (hb s1 us I1.kIn hl) r2 q
theorem pe_callG0 (F : FnG X.prog X.w X.K X.mg X.base k f fd ps sp) (hr : Room k X.A) (gd : X.A.guards = some []) (hg : Gl X x) (hm : X.mg x = some (.ref f)) (hk : PySem.W.keepIn X.K (.ref f) = true) (hb : Binds X.K fd ps ds) (hd : Vals dvs ds) (hx : Passes (L2.CX X.prog X.w) X E)
    (hdb : (x == ("__debug__" : Str)) = false := by decide) : PE X (.Call (.Name x p) [] [] pos) (tCallG sp dvs E tNil) := by
  constructor
  intro pins s σ H Q I h
  refine wpAny_Call_Name_kw (ld_glob I hg hm ?_ hdb)
  have r2 : Vals ([] ++ dvs) ([] ++ ds) := Vals.append .nil hd
  have hl : (([] : List Value) ++ ds).length = ps.length := by rw [← r2.length]; exact F.len _ _ _ _ h
  exact PySem.W.callWith_K0 I.kIn hk (run_g (us := []) (kw := []) F hr gd hx I (hb s [] I.kIn hl) r2 h)
/-- the parameters' values, each by its place among what is written: first the positional ones, then the keywords' -/
def perm (idx : List Nat) (vs zs : List V) : List V := idx.map fun i => (vs ++ zs).getD i .non
def permU (idx : List Nat) (vs zs : List Value) : List Value := idx.map fun i => (vs ++ zs).getD i .none
theorem perm_rel (idx : List Nat) {vs zs : List V} {us ws : List Value} (r : Vals vs us) (q : Vals zs ws) : Vals (perm idx vs zs) (permU idx us ws) := by
  have ra := r.append q
  unfold perm permU
  induction idx with
  | nil => exact .nil
  | cons i is ih =>
    refine .cons ?_ ih
    show RelV ((vs ++ zs).getD i .non) ((us ++ ws).getD i .none)
    rw [List.getD_eq_getElem?_getD, List.getD_eq_getElem?_getD]
    cases e : (vs ++ zs)[i]? with
    | none =>
      rw [ra.none_of e]
      rfl
    | some v =>
      obtain ⟨u, h1, h2⟩ := ra.get e
      rw [h1]
      exact h2
/-- how a call with keywords binds -/
def KB (K : PySem.W.Frag) (fd : FuncData) (ps : List Str) (n : Nat) (ks : List Str) (idx : List Nat) : Prop := ∀ (s : Shared) (us ws : List Value), K.In s.heap → us.length = n → ws.length = ks.length → BindsTo s fd ⟨us, ks.zip ws⟩ (ps.zip (permU idx us ws))
def tCallGK (n m : Nat) (idx : List Nat) (sp : Sp) (E : XK) (t tk : TA) : TE := fun σ H Q => t σ H fun vs J => tk σ J fun zs J2 => vs.length = n ∧ zs.length = m ∧ sp (perm idx vs zs) J2 Q E
theorem pe_callGK {n : Nat} {ks : List Str} {kws : List Keyword} {tk : TA} {idx : List Nat} (F : FnG X.prog X.w X.K X.mg X.base k f fd ps sp) (hr : Room k X.A) (gd : X.A.guards = some []) (hg : Gl X x) (hm : X.mg x = some (.ref f))
    (hk : PySem.W.keepIn X.K (.ref f) = true) (hb : KB X.K fd ps n ks idx) (hx : Passes (L2.CX X.prog X.w) X E)
    (ha : PA X (e :: es) t) (hkw : PK X kws tk) (hall : (backToKw pos (keywordEach kws X.env)).all (·.1.isSome) = true := by rfl) (hks : (backToKw pos (keywordEach kws X.env)).filterMap (·.1) = ks := by rfl)
    (hdb : (x == ("__debug__" : Str)) = false := by decide) (he : starEach (e :: es) X.env = (false, eval e X.env) :: starEach es X.env := by rfl)
    (hpl : ((backTo pos (starEach (e :: es) X.env)).any (·.1) || (backToKw pos (keywordEach kws X.env)).any (·.1.isNone)) = false := by rfl) :
    PE X (.Call (.Name x p) (e :: es) kws pos) (tCallGK n ks.length idx sp E t tk) := by
  constructor
  intro pins s σ H Q I h
  refine wpAny_Call_Name_kw (ld_glob I hg hm ?_ hdb)
  refine PySem.W.callWith_KW (h₀ := X.base) I.ok.mod.kin hk hall (thn (ha.run pos pins s σ H _ I h) fun us s1 ⟨vs, H1, I1, r, q⟩ => ?_) hpl he
  refine thn (hkw.run pos pins s1 σ H1 _ I1 q) fun ws s2 ⟨zs, H2, I2, rz, l1, l2, q2⟩ => ⟨I2.kIn, ?_⟩
  rw [hks]
  have a1 : us.length = n := by rw [← r.length]; exact l1
  have a2 : ws.length = ks.length := by rw [← rz.length]; exact l2
  exact run_g F hr gd hx I2 (hb s2 us ws I2.kIn a1 a2) (perm_rel idx r rz) q2
theorem pe_callGK0 {ks : List Str} {kws : List Keyword} {tk : TA} {idx : List Nat} (F : FnG X.prog X.w X.K X.mg X.base k f fd ps sp) (hr : Room k X.A) (gd : X.A.guards = some []) (hg : Gl X x) (hm : X.mg x = some (.ref f))
    (hk : PySem.W.keepIn X.K (.ref f) = true) (hb : KB X.K fd ps 0 ks idx) (hx : Passes (L2.CX X.prog X.w) X E)
    (hkw : PK X kws tk) (hall : (backToKw pos (keywordEach kws X.env)).all (·.1.isSome) = true := by rfl) (hks : (backToKw pos (keywordEach kws X.env)).filterMap (·.1) = ks := by rfl)
    (hdb : (x == ("__debug__" : Str)) = false := by decide)
    (hpl : ((backTo pos (starEach [] X.env)).any (·.1) || (backToKw pos (keywordEach kws X.env)).any (·.1.isNone)) = false := by rfl) :
    PE X (.Call (.Name x p) [] kws pos) (tCallGK 0 ks.length idx sp E tNil tk) := by
  constructor
  intro pins s σ H Q I h
  refine wpAny_Call_Name_kw (ld_glob I hg hm ?_ hdb)
  refine PySem.W.callWith_KW0 (h₀ := X.base) I.ok.mod.kin hk hall ?_ hpl
  refine thn (hkw.run pos pins s σ H _ I h) fun ws s2 ⟨zs, H2, I2, rz, l1, l2, q2⟩ => ⟨I2.kIn, ?_⟩
  rw [hks]
  have a2 : ws.length = ks.length := by rw [← rz.length]; exact l2
  exact run_g (us := []) F hr gd hx I2 (hb s2 [] ws I2.kIn rfl a2) (perm_rel idx .nil rz) q2
end

/-! ### contracts over data -/
abbrev Fs := List D → Mp → KD → (Addr → List (Str × D) → Mp → Prop) → Prop
def lift (K : PySem.W.Frag) (F : Fs) : Sp := fun vs H Q E => ∃ (Z : Hp) (ds : List D) (M : Mp) (Qd : KD) (Rd : Addr → List (Str × D) → Mp → Prop), Sat K Z H M ∧ RepL K (fz Z H M) vs ds ∧ F ds M Qd Rd ∧
  (∀ v d H' M', Go K Z H M H' M' → Rep K (fz Z H' M') v d → Qd d M' → Q v H') ∧ (∀ C dx fv fs H' M', Go K Z H M H' M' → H' dx = some (.xd fv) → RepF K (fz Z H' M') fv fs → Rd C fs M' → E (.ref C) (some dx) H')
/-- the environment at a def's entry -/
def startE (n : Nat) (ds : List D) : En := ds.map some ++ List.replicate (n - ds.length) none
theorem start_rel {K : PySem.W.Frag} {H : Hp} {N : List Str} {vs : List V} {ds : List D} (r : RepL K H vs ds) : RelS K H (L2.start N vs) (startE N.length ds) := by
  unfold L2.start startE
  refine ⟨?_, fun i d e => ?_⟩
  · rw [List.length_append, List.length_append, List.length_map, List.length_map, List.length_replicate, List.length_replicate, r.len]
  · have hl := r.len
    by_cases hi : i < ds.length
    · rw [List.getElem?_append_left (by rw [List.length_map]; exact hi), List.getElem?_map] at e
      cases q : ds[i]? with
      | none =>
        rw [q] at e
        cases e
      | some d' =>
        rw [q] at e
        obtain rfl : d' = d := Option.some.inj (Option.some.inj e)
        obtain ⟨v, h1, h2⟩ := r.get q
        refine ⟨v, ?_, h2⟩
        rw [List.getElem?_append_left (by rw [List.length_map, hl]; exact hi), List.getElem?_map, h1]
        rfl
    · rw [List.getElem?_append_right (by rw [List.length_map]; omega), List.getElem?_replicate] at e
      split at e <;> cases e
/-- what a body's context is -/
structure Good (X : Cx) (P : Program) (w : World) (K : PySem.W.Frag) (mg : Str → Option Value) (base : Heap) (k : Nat) : Prop where
  prog : X.prog = P
  w : X.w = w
  K : X.K = K
  mg : X.mg = mg
  base : X.base = base
  room : Room k X.A
  gd : X.A.guards = some []
section
variable {P : Program} {w : World} {K : PySem.W.Frag} {mg : Str → Option Value} {base : Heap}
theorem ok_fn {x qual : Str} {st : Stmt} {f : Addr} {fd : FuncData} {N ps : List Str} {k : Nat} {F : Fs} (Fn : Fun K x qual st f fd) (S : FnScope N ps (defScope st)) (len : ∀ ds M Q E, F ds M Q E → ds.length = ps.length)
    (body : ∀ (cdv : Value) (A : Around) (outer : List Env) (s : Shared) (H : Hp) (E : XK), A.guards = some [] → Room k (A.deeper (envOfC qual (defScope st) s.heap.objs.size f cdv)) →
      ∃ t wr, DSs (cxOf (L2.CX P w) P w K mg base N qual (defScope st) f cdv A outer s H E) E (defBody st) t wr ∧ ∀ ds M Q R, F ds M Q R → wr { nx := fun _ M' => Q .non M', rt := Q, xr := R } (startE N.length ds) M) : FnG P w K mg base (k + 1) f fd ps (lift K F) := by
  refine fn_g Fn S (fun vs H Q E h => ?_) (fun cdv A outer s H vs Q E gd hr h => ?_)
  · obtain ⟨Z, ds, M, Qd, Rd, _, r, q, _⟩ := h
    rw [r.len]
    exact len _ _ _ _ q
  · obtain ⟨Z, ds, M, Qd, Rd, sat, r, q, kq, kr⟩ := h
    obtain ⟨t, wr, hd, hw⟩ := body cdv A outer s H E gd hr
    refine ⟨t, hd.pe, hd.sm _ _ _ _ _ _ _ ⟨sat, start_rel r⟩ (hw ds M _ _ q) ⟨fun ρ' M' σ' H' _ g z => kq _ _ _ _ g .non z, fun v d H' M' g rp z => kq v d H' M' g rp z, fun _ _ _ _ _ _ z => z.elim, fun _ _ _ _ _ _ z => z.elim, fun C dx fv fs H' M' g e1 rf z => kr C dx fv fs H' M' g e1 rf z⟩⟩
end
end L3
namespace L3
open PySem L2

/-! ### data read in full -/
/-- a list of the store, read as a value -/
def res (M : Mp) : D → D
  | .tok a => match M a with
    | some (.lst ds) => .lst ds
    | _ => .tok a
  | d => d
theorem res_rep {K : PySem.W.Frag} {Z : Hp} {H : Hp} {M : Mp} {v : V} : ∀ {d : D}, Sat K Z H M → Rep K (fz Z H M) v d → Rep K H v (res M d)
  | .non, _, r => r.up fz_sub
  | .bl _, _, r => r.up fz_sub
  | .int _, _, r => r.up fz_sub
  | .str _, _, r => r.up fz_sub
  | .ty _, _, r => r.up fz_sub
  | .tup _, _, r => r.up fz_sub
  | .lst _, _, r => r.up fz_sub
  | .tok a, S, r => by
    cases r
    show Rep K H (.ref a) (match M a with | some (.lst ds) => .lst ds | _ => .tok a)
    cases q : M a with
    | none => exact .tok a
    | some c =>
      cases c with
      | lst ds =>
        obtain ⟨vs, e, rl⟩ := S.cell a _ q
        exact .lst (.inl (.inl e)) (rl.up fz_sub)
      | aux => exact .tok a
      | drw _ => exact .tok a
      | ins _ _ => exact .tok a
/-- the items of a list, a tuple -/
def seqD (M : Mp) : D → Option (List D)
  | .tup ds => some ds
  | .lst ds => some ds
  | .tok a => match M a with
    | some (.lst ds) => some ds
    | _ => none
  | _ => none
theorem seq_of {K : PySem.W.Frag} {Z : Hp} {H : Hp} {M : Mp} {v : V} : ∀ {d : D} {ds : List D}, Sat K Z H M → Rep K (fz Z H M) v d → seqD M d = some ds → ∃ a vs, v = .ref a ∧ (SqL K H a vs ∨ SqT K H a vs) ∧ RepL K (fz Z H M) vs ds
  | .non, _, _, _, e => by cases e
  | .bl _, _, _, _, e => by cases e
  | .int _, _, _, _, e => by cases e
  | .str _, _, _, _, e => by cases e
  | .ty _, _, _, _, e => by cases e
  | .tup es, ds, S, r, e => by
    obtain rfl : es = ds := Option.some.inj e
    cases r with
    | tup hs ha => exact ⟨_, _, rfl, .inr (sqt_mono fz_sub hs), ha⟩
  | .lst es, ds, S, r, e => by
    obtain rfl : es = ds := Option.some.inj e
    cases r with
    | lst hs ha => exact ⟨_, _, rfl, .inl (fz_sub.seq hs), ha⟩
  | .tok a, ds, S, r, e => by
    cases r
    have e' : (match M a with | some (.lst ds) => some ds | _ => none) = some ds := e
    cases q : M a with
    | none =>
      rw [q] at e'
      cases e'
    | some c =>
      rw [q] at e'
      cases c with
      | lst es =>
        obtain rfl : es = ds := Option.some.inj e'
        obtain ⟨vs, e1, rl⟩ := S.cell a _ q
        exact ⟨_, _, rfl, .inl (.inl (.inl e1)), rl⟩
      | aux => cases e'
      | drw _ => cases e'
      | ins _ _ => cases e'

/-! ### plain data: equality, texts -/
mutual
def D.py : D → PyData
  | .non => .none
  | .bl b => .bool b
  | .int i => .int i
  | .str x => .str x
  | .ty _ => .none
  | .tok _ => .none
  | .tup ds => .tuple (pyL ds)
  | .lst ds => .list (pyL ds)
def pyL : List D → List PyData
  | [] => []
  | d :: ds => d.py :: pyL ds
end
/-- data without objects, so deep at most -/
def fit : Nat → D → Prop
  | _, .non => True
  | _, .bl _ => True
  | _, .int _ => True
  | _, .str x => PySem.PyData.strOk x = true
  | _, .ty _ => False
  | _, .tok _ => False
  | 0, .tup _ => False
  | 0, .lst _ => False
  | n + 1, .tup ds => ∀ d ∈ ds, fit n d
  | n + 1, .lst ds => ∀ d ∈ ds, fit n d
mutual
theorem Rep.dp {K : PySem.W.Frag} {H : Hp} : ∀ (n : Nat) (d : D) (v : V), fit n d → Rep K H v d → Dp K H v d.py
  | _, .non, _, _, r => by cases r; exact .non
  | _, .bl b, _, _, r => by cases r; exact .bl b
  | _, .int i, _, _, r => by cases r; exact .int i
  | _, .str x, _, _, r => by cases r; exact .str x
  | _, .ty _, _, f, _ => by simp [fit] at f
  | _, .tok _, _, f, _ => by simp [fit] at f
  | 0, .tup _, _, f, _ => by cases f
  | 0, .lst _, _, f, _ => by cases f
  | n + 1, .tup ds, _, f, r => by
    cases r with
    | tup hs ha => exact .tup hs (RepL.dp n ds _ f ha)
  | n + 1, .lst ds, _, f, r => by
    cases r with
    | lst hs ha => exact .lst hs (RepL.dp n ds _ f ha)
theorem RepL.dp {K : PySem.W.Frag} {H : Hp} : ∀ (n : Nat) (ds : List D) (vs : List V), (∀ d ∈ ds, fit n d) → RepL K H vs ds → DpAll K H vs (pyL ds)
  | _, [], _, _, r => by cases r; exact .nil
  | n, d :: ds, _, f, r => by
    cases r with
    | cons r1 r2 => exact .cons (Rep.dp n d _ (f d List.mem_cons_self) r1) (RepL.dp n ds _ (fun x hx => f x (List.mem_cons_of_mem _ hx)) r2)
end
mutual
theorem fit_lay : ∀ (n : Nat) (d : D), fit n d → d.py.canLay0 = true ∧ d.py.depth ≤ n
  | _, .non, _ => ⟨by simp [D.py, PyData.canLay0], by simp [D.py, PyData.depth]⟩
  | _, .bl b, _ => ⟨by simp [D.py, PyData.canLay0], by simp [D.py, PyData.depth]⟩
  | _, .int i, _ => ⟨by simp [D.py, PyData.canLay0], by simp [D.py, PyData.depth]⟩
  | _, .str x, f => by
    have f' : PySem.PyData.strOk x = true := by simpa [fit] using f
    exact ⟨by simp [D.py, PyData.canLay0, f'], by simp [D.py, PyData.depth]⟩
  | _, .ty _, f => by simp [fit] at f
  | _, .tok _, f => by simp [fit] at f
  | 0, .tup _, f => by cases f
  | 0, .lst _, f => by cases f
  | n + 1, .tup ds, f => by
    have q := fit_layL n ds f
    exact ⟨by simp [D.py, PyData.canLay0, q.1], by simp only [D.py, PyData.depth]; omega⟩
  | n + 1, .lst ds, f => by
    have q := fit_layL n ds f
    exact ⟨by simp [D.py, PyData.canLay0, q.1], by simp only [D.py, PyData.depth]; omega⟩
theorem fit_layL : ∀ (n : Nat) (ds : List D), (∀ d ∈ ds, fit n d) → PyData.canLayAll0 (pyL ds) = true ∧ PyData.depthAll (pyL ds) ≤ n
  | _, [], _ => ⟨by simp [pyL, PyData.canLayAll0], by simp [pyL, PyData.depthAll]⟩
  | n, d :: ds, f => by
    have q1 := fit_lay n d (f d List.mem_cons_self)
    have q2 := fit_layL n ds fun x hx => f x (List.mem_cons_of_mem _ hx)
    exact ⟨by simp [pyL, PyData.canLayAll0, q1.1, q2.1], by simp only [pyL, PyData.depthAll]; omega⟩
end
theorem fit_shaped {n : Nat} {d : D} (f : fit n d) (h : n ≤ 64) : SeqAt.shaped d.py = true := by
  have q := fit_lay n d f
  unfold SeqAt.shaped
  rw [q.1, Bool.true_and]
  exact decide_eq_true (by omega)
def eqD (d e : D) : Bool := PyData.eqv d.py e.py
def shown (d : D) : Str := d.py.shown
/-! how long its text is at most -/
mutual
def cost : D → Nat
  | .non => 5
  | .bl _ => 5
  | .int _ => 210
  | .str x => 10 * x.length + 4
  | .ty _ => 5
  | .tok _ => 5
  | .tup ds => costL ds + 4
  | .lst ds => costL ds + 4
def costL : List D → Nat
  | [] => 0
  | d :: ds => cost d + 2 + costL ds
end
/-- data that can be shown -/
def shw : Nat → D → Prop
  | _, .non => True
  | _, .bl _ => True
  | _, .int i => i.natAbs < 2 ^ 200
  | _, .str x => PySem.PyData.strOk x = true
  | _, .ty _ => False
  | _, .tok _ => False
  | 0, .tup _ => False
  | 0, .lst _ => False
  | n + 1, .tup ds => ∀ d ∈ ds, shw n d
  | n + 1, .lst ds => ∀ d ∈ ds, shw n d
theorem shw_fit : ∀ (n : Nat) (d : D), shw n d → fit n d
  | _, .non, _ => by simp [fit]
  | _, .bl _, _ => by simp [fit]
  | _, .int _, _ => by simp [fit]
  | _, .str x, f => by simpa [fit, shw] using f
  | _, .ty _, f => by simp [shw] at f
  | _, .tok _, f => by simp [shw] at f
  | 0, .tup _, f => by cases f
  | 0, .lst _, f => by cases f
  | n + 1, .tup ds, f => fun d hd => shw_fit n d (f d hd)
  | n + 1, .lst ds, f => fun d hd => shw_fit n d (f d hd)
theorem log200 {n : Nat} (h : n < 2 ^ 200) : n.log2 < 200 := by
  by_cases h0 : n = 0
  · subst h0
    decide
  · exact (Nat.log2_lt h0).mpr h
mutual
theorem shw_show : ∀ (n : Nat) (d : D), shw n d → d.py.showable = true ∧ d.py.hasDict = false
  | _, .non, _ => ⟨by simp [D.py, PyData.showable], by simp [D.py, PyData.hasDict]⟩
  | _, .bl b, _ => ⟨by simp [D.py, PyData.showable], by simp [D.py, PyData.hasDict]⟩
  | _, .int i, f => by
    have f' : i.natAbs < 2 ^ 200 := by simpa only [shw] using f
    have q := log200 f'
    exact ⟨by simp only [D.py, PyData.showable]; exact decide_eq_true (by omega), by simp [D.py, PyData.hasDict]⟩
  | _, .str x, f => ⟨by simp [D.py, PyData.showable], by simp [D.py, PyData.hasDict]⟩
  | _, .ty _, f => by simp [shw] at f
  | _, .tok _, f => by simp [shw] at f
  | 0, .tup _, f => by cases f
  | 0, .lst _, f => by cases f
  | n + 1, .tup ds, f => by
    have q := shw_showL n ds f
    exact ⟨by simp [D.py, PyData.showable, q.1], by simp [D.py, PyData.hasDict, q.2]⟩
  | n + 1, .lst ds, f => by
    have q := shw_showL n ds f
    exact ⟨by simp [D.py, PyData.showable, q.1], by simp [D.py, PyData.hasDict, q.2]⟩
theorem shw_showL : ∀ (n : Nat) (ds : List D), (∀ d ∈ ds, shw n d) → PyData.showableAll (pyL ds) = true ∧ PyData.hasDictAll (pyL ds) = false
  | _, [], _ => ⟨by simp [pyL, PyData.showableAll], by simp [pyL, PyData.hasDictAll]⟩
  | n, d :: ds, f => by
    have q1 := shw_show n d (f d List.mem_cons_self)
    have q2 := shw_showL n ds fun x hx => f x (List.mem_cons_of_mem _ hx)
    exact ⟨by simp [pyL, PyData.showableAll, q1.1, q2.1], by simp [pyL, PyData.hasDictAll, q1.2, q2.2]⟩
end
theorem pyL_len : ∀ ds : List D, (pyL ds).length = ds.length
  | [] => rfl
  | d :: ds => by rw [pyL, List.length_cons, List.length_cons, pyL_len ds]
theorem shownAll_len : ∀ ds : List PyData, (PyData.shownAll ds).length = ds.length
  | [] => rfl
  | d :: ds => by rw [PyData.shownAll, List.length_cons, List.length_cons, shownAll_len ds]
mutual
theorem shw_cost : ∀ (n : Nat) (d : D), shw n d → d.py.shown.length ≤ cost d
  | _, .non, _ => by decide
  | _, .bl b, _ => by cases b <;> decide
  | _, .int i, f => by
    have f' : i.natAbs < 2 ^ 200 := by simpa only [shw] using f
    have q := PySem.int_text_length_le (a := i) (k := 200) (by decide) (log200 f')
    have e : (D.int i).py.shown.length = (toString i).length := by
      show (Str.ofString (toString i)).length = _
      rw [PySem.ofString_length]
    rw [e]
    show _ ≤ 210
    omega
  | _, .str x, f => by
    have f' : PySem.PyData.strOk x = true := by simpa only [shw] using f
    have h : ∀ c ∈ x.cps.toList, c < 16 ^ 8 := fun c hc => by
      have z := (Array.all_eq_true'.mp f') c (by simpa using hc)
      have z' : c < 0x110000 := by simpa using z
      exact Nat.lt_trans z' (by decide)
    have q := PySem.StrLaws.reprText_len x h
    show (reprText x).length ≤ 10 * x.length + 4
    omega
  | _, .ty _, f => by simp [shw] at f
  | _, .tok _, f => by simp [shw] at f
  | 0, .tup _, f => by cases f
  | 0, .lst _, f => by cases f
  | n + 1, .tup ds, f => by
    have q := shw_costL n ds f
    have z := PySem.tupleText_len_le (PyData.shownAll (pyL ds))
    rw [shownAll_len, pyL_len] at z
    show (tupleText (PyData.shownAll (pyL ds))).length ≤ costL ds + 4
    omega
  | n + 1, .lst ds, f => by
    have q := shw_costL n ds f
    have z := PySem.listText_len_le (PyData.shownAll (pyL ds))
    rw [shownAll_len, pyL_len] at z
    show (listText (PyData.shownAll (pyL ds))).length ≤ costL ds + 4
    omega
theorem shw_costL : ∀ (n : Nat) (ds : List D), (∀ d ∈ ds, shw n d) → ((PyData.shownAll (pyL ds)).map (·.length)).sum + 2 * ds.length ≤ costL ds
  | _, [], _ => Nat.le_refl _
  | n, d :: ds, f => by
    have q1 := shw_cost n d (f d List.mem_cons_self)
    have q2 := shw_costL n ds fun x hx => f x (List.mem_cons_of_mem _ hx)
    simp only [pyL, PyData.shownAll, List.map_cons, List.sum_cons, List.length_cons, costL]
    omega
end
/-- repr(x), by data -/
theorem call_repr_any {X : Cx} {k : Nat} (hr : Room k X.A) (gd : X.A.guards = some []) : CallR X (.builtin "repr") (fun xs H Q => ∃ (x : V) (d : D) (n : Nat), xs = [x] ∧ Rep X.K H x d ∧ shw n d ∧ n ≤ 60 ∧ cost d ≤ 16000000 ∧ Q (.str (shown d)) H) := by
  intro pins s σ H vs us Q I r h
  obtain ⟨x, d, n, rfl, rp, sh, hn, hc, q⟩ := h
  obtain ⟨u, rfl, ru⟩ := vals1 r
  have hs := shw_show n d sh
  have hl := shw_cost n d sh
  have hz : d.py.shown.length ≤ sizeLine := by
    rw [sizeLine_eq]
    omega
  have hd := (fit_lay n d (shw_fit n d sh)).2
  have hu := hr.units
  obtain ⟨as, rd⟩ := Dp.reads I d.py x u (Rep.dp n d x (shw_fit n d sh) rp) ru
  cases d with
  | non =>
    cases rp
    cases ru
    exact P.repr_of_none ⟨.str _, H, I.tok _, ⟨_, rfl⟩, q⟩
  | bl b =>
    cases rp
    cases ru
    refine P.repr_of_bool ⟨.str _, H, I.tok _, ⟨_, rfl⟩, ?_⟩
    have e : (if b = true then Str.ofString "True" else Str.ofString "False") = shown (.bl b) := by cases b <;> rfl
    rw [e]
    exact q
  | int i =>
    cases rp
    obtain ⟨t, rfl⟩ := ru
    have sh' : i.natAbs < 2 ^ 200 := by simpa only [shw] using sh
    have q3 := log200 sh'
    exact P.repr_of_int (by omega) ⟨.str _, H, I.tok _, ⟨_, rfl⟩, q⟩
  | str y =>
    cases rp
    obtain ⟨t, rfl⟩ := ru
    exact P.repr_of_str ⟨.str _, H, I.tok _, ⟨_, rfl⟩, q⟩ hz
  | ty _ => simp [shw] at sh
  | tok _ => simp [shw] at sh
  | tup ds =>
    cases rp
    cases ru
    refine repr_of_reads' (h₀ := s.heap) rd hs.1 (fun z => by rw [hs.2] at z; cases z) gd (by omega) (fun _ _ e => e) (fun h' u' tk hk => ?_) hz
    exact ⟨.str _, H, I.kept hk, ⟨_, rfl⟩, q⟩
  | lst ds =>
    cases rp
    cases ru
    refine repr_of_reads' (h₀ := s.heap) rd hs.1 (fun z => by rw [hs.2] at z; cases z) gd (by omega) (fun _ _ e => e) (fun h' u' tk hk => ?_) hz
    exact ⟨.str _, H, I.kept hk, ⟨_, rfl⟩, q⟩
end L3
namespace L3
open PySem L2
section
variable {X : Cx} {E : XK} {e a b c : Expr} {es : List Expr} {t ta tb tc te : TE} {w wa wb wc we : WE} {pos : Pos} {k : Nat}

/-! ### names, constants -/
def wVar (i : Nat) : WE := fun ρ M Q => match ρ[i]? with
  | some (some d) => Q d M
  | _ => False
theorem sim_var {K : PySem.W.Frag} (i : Nat) : SimE K (tVar i) (wVar i) := by
  intro Z ρ M σ H Q Q' r h q
  unfold wVar at h
  split at h
  · rename_i d e
    obtain ⟨v, e1, rp⟩ := r.env.2 i d e
    exact ⟨v, e1, q v d H M r.refl rp h⟩
  · exact h.elim
theorem de_var (i : Nat) {x : Str} (hN : X.N[i]? = some x := by rfl) (hv : Vis X.env.scope x := by first | exact Or.inl rfl | exact Or.inr (Or.inl rfl) | exact Or.inr (Or.inr rfl)) (hd : (x == ("__debug__" : Str)) = false := by decide)
    (hcd : (x == ("__classdict__" : Str)) = false := by decide) : DE X (.Name x pos) (tVar i) (wVar i) := ⟨pe_var hN hv hd hcd, sim_var i⟩
def wC (d : D) : WE := fun _ M Q => Q d M
theorem sim_c {K : PySem.W.Frag} {v : V} {d : D} (h : ∀ H, Rep K H v d) : SimE K (tC v) (wC d) := fun _ _ M _ H _ _ r q z => z v d H M r.refl (h _) q
theorem de_int {i j} : DE X (.Constant (.int i) j pos) (tC (.int i)) (wC (.int i)) := ⟨pe_int, sim_c fun _ => .int i⟩
theorem de_bl {i j} : DE X (.Constant (.bool i) j pos) (tC (.bl i)) (wC (.bl i)) := ⟨pe_bl, sim_c fun _ => .bl i⟩
theorem de_non {j} : DE X (.Constant .none j pos) (tC .non) (wC .non) := ⟨pe_non, sim_c fun _ => .non⟩
theorem de_str {x j} : DE X (.Constant (.str x) j pos) (tC (.str x)) (wC (.str x)) := ⟨pe_str, sim_c fun _ => .str x⟩
/-- a name of the module that holds a value (a constant) -/
theorem de_glob {x : Str} {v : V} {d : D} {u : Value} (hg : Gl X x) (hm : X.mg x = some u) (r : RelV v u) (h : ∀ H, Rep X.K H v d) (hd : (x == ("__debug__" : Str)) = false := by decide) : DE X (.Name x pos) (tC v) (wC d) := ⟨pe_glob hg hm r hd, sim_c h⟩

/-! ### two values -/
abbrev F2 := D → D → Mp → KD → Prop
def SimR (K : PySem.W.Frag) (r : R2) (f : F2) : Prop := ∀ (Z : Hp) (x y : V) (d e : D) (H : Hp) (M : Mp) (Q : KD) (Q' : VK), Sat K Z H M → Rep K (fz Z H M) x d → Rep K (fz Z H M) y e → f d e M Q → (∀ v d' H' M', Go K Z H M H' M' → Rep K (fz Z H' M') v d' → Q d' M' → Q' v H') → r x y H Q'
def wOp (f : F2) (wa wb : WE) : WE := fun ρ M Q => wa ρ M fun d M1 => wb ρ M1 fun e M2 => f d e M2 Q
theorem sim_op {K : PySem.W.Frag} {r : R2} {f : F2} (ha : SimE K ta wa) (hb : SimE K tb wb) (hr : SimR K r f) : SimE K (tOp r ta tb) (wOp f wa wb) := by
  intro Z ρ M σ H Q Q' s h q
  refine ha Z ρ M σ H _ _ s h fun x d H1 M1 g1 r1 q1 => ?_
  refine hb Z ρ M1 σ H1 _ _ (s.go g1) q1 fun y e H2 M2 g2 r2 q2 => ?_
  exact hr Z x y d e H2 M2 Q Q' g2.sat (r1.up g2.ex) r2 q2 fun v d' H3 M3 g3 r3 q3 => q v d' H3 M3 ((g1.trans g2).trans g3) r3 q3
theorem de_op {op : Operator} {r : R2} {f : F2} (ho : OpR X (binaryOp op) r) (hs : SimR X.K r f) (ha : DE X a ta wa) (hb : DE X b tb wb) : DE X (.BinOp a op b pos) (tOp r ta tb) (wOp f wa wb) := ⟨pe_op ho ha.pe hb.pe, sim_op ha.sm hb.sm hs⟩
theorem de_cmp {op : CmpOp} {r : R2} {f : F2} (ho : OpR X (compareOp op) r) (hs : SimR X.K r f) (ha : DE X a ta wa) (hb : DE X b tb wb) (hm : behindInMarks op b = false := by first | exact nomark _ (by decide) (by decide) | rfl) : DE X (.Compare a [op] [b] pos) (tOp r ta tb) (wOp f wa wb) :=
  ⟨pe_cmpR ho ha.pe hb.pe hm, sim_op ha.sm hb.sm hs⟩
/-- a value's answer as a test -/
def wB (w : WE) : WT := fun ρ M Q => w ρ M fun d M1 => match d with
  | .bl x => Q x M1
  | _ => False
theorem sim_test {K : PySem.W.Frag} (ha : SimE K t w) : SimT K (tTest t) (wB w) := by
  intro Z ρ M σ H Q Q' s h q
  refine ha Z ρ M σ H _ _ s h fun x d H1 M1 g1 r1 q1 => ?_
  cases d with
  | bl y =>
    cases r1
    exact ⟨y, rfl, q y H1 M1 g1 q1⟩
  | _ => exact q1.elim
theorem dt_cmp {op : CmpOp} {r : R2} {f : F2} (ho : OpR X (compareOp op) r) (hs : SimR X.K r f) (ha : DE X a ta wa) (hb : DE X b tb wb) (hm : behindInMarks op b = false := by first | exact nomark _ (by decide) (by decide) | rfl) : DT X (.Compare a [op] [b] pos) (tTest (tOp r ta tb)) (wB (wOp f wa wb)) :=
  ⟨pt_cmpR ho ha.pe hb.pe hm, sim_test (sim_op ha.sm hb.sm hs)⟩
/-- a op b op' c -/
def wChain (f f' : F2) (wa wb wc : WE) : WE := fun ρ M Q => wa ρ M fun d M1 => wb ρ M1 fun e M2 => f d e M2 fun z M3 => match z with
  | .bl true => wc ρ M3 fun g M4 => f' e g M4 Q
  | .bl false => Q (.bl false) M3
  | _ => False
theorem sim_chain {K : PySem.W.Frag} {r r' : R2} {f f' : F2} (ha : SimE K ta wa) (hb : SimE K tb wb) (hc : SimE K tc wc) (hr : SimR K r f) (hr' : SimR K r' f') : SimE K (tChain r r' ta tb tc) (wChain f f' wa wb wc) := by
  intro Z ρ M σ H Q Q' s h q
  refine ha Z ρ M σ H _ _ s h fun x d H1 M1 g1 r1 q1 => ?_
  refine hb Z ρ M1 σ H1 _ _ (s.go g1) q1 fun y e H2 M2 g2 r2 q2 => ?_
  refine hr Z x y d e H2 M2 _ _ g2.sat (r1.up g2.ex) r2 q2 fun z g H3 M3 g3 r3 q3 => ?_
  have g13 := (g1.trans g2).trans g3
  cases g with
  | bl k =>
    cases r3
    refine ⟨k, rfl, ?_⟩
    cases k with
    | true =>
      rw [if_pos rfl]
      refine hc Z ρ M3 σ H3 _ _ (s.go g13) q3 fun v d4 H4 M4 g4 r4 q4 => ?_
      exact hr' Z y v e d4 H4 M4 Q Q' g4.sat ((r2.up g3.ex).up g4.ex) r4 q4 fun v5 d5 H5 M5 g5 r5 q5 => q v5 d5 H5 M5 ((g13.trans g4).trans g5) r5 q5
    | false =>
      rw [if_neg Bool.false_ne_true]
      exact q _ _ H3 M3 g13 (.bl false) q3
  | _ => exact q3.elim
theorem de_chain {op op' : CmpOp} {r r' : R2} {f f' : F2} (ho : OpR X (compareOp op) r) (hs : SimR X.K r f) (ho' : OpR X (compareOp op') r') (hs' : SimR X.K r' f') (ha : DE X a ta wa) (hb : DE X b tb wb) (hc : DE X c tc wc) (hm : lastMarks [op, op'] [b, c] = false := by with_unfolding_all rfl) :
    DE X (.Compare a [op, op'] [b, c] pos) (tChain r r' ta tb tc) (wChain f f' wa wb wc) := ⟨pe_chain ho ho' ha.pe hb.pe hc.pe hm, sim_chain ha.sm hb.sm hc.sm hs hs'⟩
theorem dt_chain {op op' : CmpOp} {r r' : R2} {f f' : F2} (ho : OpR X (compareOp op) r) (hs : SimR X.K r f) (ho' : OpR X (compareOp op') r') (hs' : SimR X.K r' f') (ha : DE X a ta wa) (hb : DE X b tb wb) (hc : DE X c tc wc) (hm : lastMarks [op, op'] [b, c] = false := by with_unfolding_all rfl) :
    DT X (.Compare a [op, op'] [b, c] pos) (tTest (tChain r r' ta tb tc)) (wB (wChain f f' wa wb wc)) := ⟨pt_chain ho ho' ha.pe hb.pe hc.pe hm, sim_test (sim_chain ha.sm hb.sm hc.sm hs hs')⟩

/-! ### arithmetic -/
def fI (C : Int → Int → Prop) (g : Int → Int → D) : F2 := fun d e M Q => match d, e with
  | .int i, .int j => C i j ∧ Q (g i j) M
  | _, _ => False
def fI0 (g : Int → Int → D) : F2 := fun d e M Q => match d, e with
  | .int i, .int j => Q (g i j) M
  | _, _ => False
theorem sim_I {K : PySem.W.Frag} {C : Int → Int → Prop} {g : Int → Int → V} {g' : Int → Int → D} (h : ∀ i j H, Rep K H (g i j) (g' i j)) : SimR K (rI C g) (fI C g') := by
  intro Z x y d e H M Q Q' S r1 r2 f q
  cases d <;> cases e <;> first | exact f.elim | skip
  cases r1
  cases r2
  exact ⟨_, _, rfl, rfl, f.1, q _ _ H M (Go.refl S) (h _ _ _) f.2⟩
theorem sim_I0 {K : PySem.W.Frag} {g : Int → Int → V} {g' : Int → Int → D} (h : ∀ i j H, Rep K H (g i j) (g' i j)) : SimR K (rI0 g) (fI0 g') := by
  intro Z x y d e H M Q Q' S r1 r2 f q
  cases d <;> cases e <;> first | exact f.elim | skip
  cases r1
  cases r2
  exact ⟨_, _, rfl, rfl, q _ _ H M (Go.refl S) (h _ _ _) f⟩
def addD : F2 := fun d e M Q => match d, e with
  | .int i, .int j => Q (.int (i + j)) M
  | .str i, .str j => i.length + j.length ≤ sizeLine ∧ Q (.str (i ++ j)) M
  | .tup i, .tup j => i.length + j.length ≤ sizeLine ∧ Q (.tup (i ++ j)) M
  | d, e => ∃ i j, (∃ a, d = .tok a ∨ d = .lst i) ∧ (∃ a, e = .tok a ∨ e = .lst j) ∧ seqD M d = some i ∧ seqD M e = some j ∧ i.length + j.length ≤ sizeLine ∧ Q (.lst (i ++ j)) M
theorem lst_of {K : PySem.W.Frag} {Z : Hp} {H : Hp} {M : Mp} {v : V} {d : D} {ds : List D} (S : Sat K Z H M) (r : Rep K (fz Z H M) v d) (h : ∃ a, d = .tok a ∨ d = .lst ds) (e : seqD M d = some ds) : ∃ a vs, v = .ref a ∧ SqL K H a vs ∧ RepL K (fz Z H M) vs ds := by
  obtain ⟨a, h⟩ := h
  rcases h with rfl | rfl
  · cases r
    have e' : (match M a with | some (.lst ds) => some ds | _ => none) = some ds := e
    cases q : M a with
    | none =>
      rw [q] at e'
      cases e'
    | some c =>
      rw [q] at e'
      cases c with
      | lst es =>
        obtain rfl : es = ds := Option.some.inj e'
        obtain ⟨vs, e1, rl⟩ := S.cell a _ q
        exact ⟨_, _, rfl, .inl (.inl e1), rl⟩
      | aux => cases e'
      | drw _ => cases e'
      | ins _ _ => cases e'
  · cases r with
    | lst hs ha => exact ⟨_, _, rfl, fz_sub.seq hs, ha⟩
/-- list + list -/
def rCatL (K : PySem.W.Frag) : R2 := fun x y H Q => ∃ l b xs zs, x = .ref l ∧ y = .ref b ∧ SqL K H l xs ∧ SqL K H b zs ∧ xs.length + zs.length ≤ sizeLine ∧ ∀ p, H p = none → Q (.ref p) (upd H p (.lst (xs ++ zs)))
theorem op_catL : OpR X (binaryOp .Add) (rCatL X.K) := by
  intro pins s σ H x y v u Q I rx ry h
  obtain ⟨l, b, xs, zs, rfl, rfl, h1, h2, hz, q⟩ := h
  cases rx
  cases ry
  obtain ⟨its, rv, p1, z1⟩ := I.list h1
  obtain ⟨its2, rv2, p2, z2⟩ := I.list h2
  have l1 := rv.length
  have l2 := rv2.length
  obtain ⟨⟨cl1, dd1, da1, sl1⟩, n1, ho1, hc1, hx1, hd1⟩ := p1
  obtain ⟨⟨cl2, dd2, da2, sl2⟩, n2, ho2, hc2, hx2, hd2⟩ := p2
  simp only at hc1 hd1 hc2 hd2
  subst hc1 hd1 hc2 hd2
  have ea : its.toArray ++ its2.toArray = (its ++ its2).toArray := by simp
  refine PySem.concat_meets ⟨_, ho1, rfl⟩ ⟨_, ho2, rfl⟩ PySem.noFill_list_add PySem.seq_list_add PySem.F.slot_list_add PySem.F.entry_list_add (PySem.F.args_list_add_2 _ _) (PyProof.Rows.list_addW l b its.toArray its2.toArray n1 n2 dd1 dd2 sl1 sl2 (by rw [List.size_toArray, List.size_toArray]; omega)) ⟨ho1, ho2, ?_⟩
  rw [ea]
  exact ⟨.ref _, _, I.lnew (t' := s.toks) (rv.append rv2) (by rw [List.length_append]; omega), rfl, q _ I.fresh⟩
theorem sim_cat {K : PySem.W.Frag} {Z : Hp} : ∀ (x y : V) (d e : D) (H : Hp) (M : Mp) (Q : KD) (Q' : VK) (i j : List D), Sat K Z H M → Rep K (fz Z H M) x d → Rep K (fz Z H M) y e → (∃ a, d = .tok a ∨ d = .lst i) → (∃ a, e = .tok a ∨ e = .lst j) → seqD M d = some i → seqD M e = some j → i.length + j.length ≤ sizeLine → Q (.lst (i ++ j)) M →
    (∀ v d' H' M', Go K Z H M H' M' → Rep K (fz Z H' M') v d' → Q d' M' → Q' v H') → rCatL K x y H Q' := by
  intro x y d e H M Q Q' i j S r1 r2 h1 h2 s1 s2 l q z
  obtain ⟨p, vs, rfl, hp, rl⟩ := lst_of S r1 h1 s1
  obtain ⟨p', ws, rfl, hp', rl'⟩ := lst_of S r2 h2 s2
  refine ⟨p, p', vs, ws, rfl, rfl, hp, hp', by rw [rl.len, rl'.len]; exact l, fun o ho => ?_⟩
  obtain ⟨g, n⟩ := Go.laid (o := .lst (vs ++ ws)) S ho
  exact z _ _ _ _ g (.lst (.inl (.inl n)) ((rl.app rl').up g.ex)) q
def rAddA (K : PySem.W.Frag) : R2 := fun x y H Q => rI0 (fun i j => .int (i + j)) x y H Q ∨ (∃ i j, x = .str i ∧ y = .str j ∧ i.length + j.length ≤ sizeLine ∧ Q (.str (i ++ j)) H) ∨ rCatL K x y H Q ∨ rCatA K x y H Q
theorem op_addA : OpR X (binaryOp .Add) (rAddA X.K) := op_add.or (op_add_str.or (op_catL.or op_catA))
theorem sim_addA {K : PySem.W.Frag} : SimR K (rAddA K) addD := by
  intro Z x y d e H M Q Q' S r1 r2 f q
  have viaL : (∃ i j, (∃ a, d = .tok a ∨ d = .lst i) ∧ (∃ a, e = .tok a ∨ e = .lst j) ∧ seqD M d = some i ∧ seqD M e = some j ∧ i.length + j.length ≤ sizeLine ∧ Q (.lst (i ++ j)) M) → rAddA K x y H Q' := fun ⟨i, j, h1, h2, s1, s2, l, z⟩ =>
    .inr (.inr (.inl (sim_cat x y d e H M Q Q' i j S r1 r2 h1 h2 s1 s2 l z q)))
  unfold addD at f
  split at f
  · cases r1
    cases r2
    exact .inl ⟨_, _, rfl, rfl, q _ _ H M (Go.refl S) (.int _) f⟩
  · cases r1
    cases r2
    exact .inr (.inl ⟨_, _, rfl, rfl, f.1, q _ _ H M (Go.refl S) (.str _) f.2⟩)
  · rename_i i j
    cases r1 with
    | @tup p vs _ h1 l1 =>
      cases r2 with
      | @tup p' ws _ h2 l2 =>
        refine .inr (.inr (.inr ⟨p, p', vs, ws, rfl, rfl, sqt_mono fz_sub h1, sqt_mono fz_sub h2, by rw [l1.len, l2.len]; exact f.1, fun en => ?_, fun _ en => ?_, fun _ _ o ho => ?_⟩))
        · subst en
          cases l1
          exact q _ _ H M (Go.refl S) (.tup h2 l2) f.2
        · subst en
          cases l2
          have z := f.2
          rw [List.append_nil] at z
          exact q _ _ H M (Go.refl S) (.tup h1 l1) z
        · obtain ⟨g, n⟩ := Go.laid (o := .tup (vs ++ ws)) S ho
          exact q _ _ _ _ g (.tup (.inl (.inl n)) ((l1.app l2).up g.ex)) f.2
  · exact viaL f
theorem de_add (ha : DE X a ta wa) (hb : DE X b tb wb) : DE X (.BinOp a .Add b pos) (tOp (rAddA X.K) ta tb) (wOp addD wa wb) := de_op op_addA sim_addA ha hb
theorem de_sub (ha : DE X a ta wa) (hb : DE X b tb wb) : DE X (.BinOp a .Sub b pos) (tOp (rI0 fun i j => .int (i - j)) ta tb) (wOp (fI0 fun i j => .int (i - j)) wa wb) := de_op op_sub (sim_I0 fun _ _ _ => .int _) ha hb
/-- products: one is not too great, or both together -/
def CM (i j : Int) : Prop := CMul i j ∨ CMulW i j
theorem op_mulM {X : Cx} : OpR X (binaryOp .Mult) (rI CM fun i j => .int (i * j)) := fun pins s σ H x y v u Q I r1 r2 ⟨i, j, e1, e2, c, q⟩ => c.elim (fun c => op_mul pins s σ H x y v u Q I r1 r2 ⟨i, j, e1, e2, c, q⟩) fun c => op_mulW pins s σ H x y v u Q I r1 r2 ⟨i, j, e1, e2, c, q⟩
theorem de_mul (ha : DE X a ta wa) (hb : DE X b tb wb) : DE X (.BinOp a .Mult b pos) (tOp (rI CM fun i j => .int (i * j)) ta tb) (wOp (fI CM fun i j => .int (i * j)) wa wb) := de_op op_mulM (sim_I fun _ _ _ => .int _) ha hb
theorem de_fdiv (ha : DE X a ta wa) (hb : DE X b tb wb) : DE X (.BinOp a .FloorDiv b pos) (tOp (rI CDivW fun i j => .int (i / j)) ta tb) (wOp (fI CDivW fun i j => .int (i / j)) wa wb) := de_op op_fdivW (sim_I fun _ _ _ => .int _) ha hb
theorem de_mod (ha : DE X a ta wa) (hb : DE X b tb wb) : DE X (.BinOp a .Mod b pos) (tOp (rI (fun _ j => 0 < j) fun i j => .int (i % j)) ta tb) (wOp (fI (fun _ j => 0 < j) fun i j => .int (i % j)) wa wb) := de_op op_mod (sim_I fun _ _ _ => .int _) ha hb
theorem de_pow (ha : DE X a ta wa) (hb : DE X b tb wb) : DE X (.BinOp a .Pow b pos) (tOp (rI CPow fun i j => .int (i ^ j.toNat)) ta tb) (wOp (fI CPow fun i j => .int (i ^ j.toNat)) wa wb) := de_op op_pow (sim_I fun _ _ _ => .int _) ha hb
def wNeg (wa : WE) : WE := fun ρ M Q => wa ρ M fun d M1 => match d with
  | .int i => Q (.int (-i)) M1
  | _ => False
theorem de_neg (ha : DE X a ta wa) : DE X (.UnaryOp .USub a pos) (tUn (rU fun i => .int (-i)) ta) (wNeg wa) := by
  refine ⟨pe_un un_neg ha.pe, fun Z ρ M σ H Q Q' s h q => ?_⟩
  refine ha.sm Z ρ M σ H _ _ s h fun x d H1 M1 g1 r1 q1 => ?_
  cases d with
  | int i =>
    cases r1
    exact ⟨i, rfl, q _ _ H1 M1 g1 (.int _) q1⟩
  | _ => exact q1.elim

/-! ### comparisons -/
def eqD2 (neg : Bool) : F2 := fun d e M Q => (∃ n, n ≤ 60 ∧ fit n (res M d) ∧ fit n (res M e)) ∧ Q (.bl (if neg then !eqD (res M d) (res M e) else eqD (res M d) (res M e))) M
theorem sim_eq {K : PySem.W.Frag} : SimR K (rEqD K) (eqD2 false) := by
  intro Z x y d e H M Q Q' S r1 r2 ⟨⟨n, hn, f1, f2⟩, f⟩ q
  exact ⟨_, _, Rep.dp n _ _ f1 (res_rep S r1), Rep.dp n _ _ f2 (res_rep S r2), fit_shaped f1 (by omega), fit_shaped f2 (by omega), q _ _ H M (Go.refl S) (.bl _) f⟩
theorem sim_ne {K : PySem.W.Frag} : SimR K (rNeD K) (eqD2 true) := by
  intro Z x y d e H M Q Q' S r1 r2 ⟨⟨n, hn, f1, f2⟩, f⟩ q
  exact ⟨_, _, Rep.dp n _ _ f1 (res_rep S r1), Rep.dp n _ _ f2 (res_rep S r2), fit_shaped f1 (by omega), fit_shaped f2 (by omega), q _ _ H M (Go.refl S) (.bl _) f⟩
theorem op_eqG (hr : Room k X.A) : OpR X (compareOp .Eq) (rEqD X.K) := op_eqD hr.units
theorem op_neG (hr : Room k X.A) : OpR X (compareOp .NotEq) (rNeD X.K) := op_neD hr.units
abbrev fLt : F2 := fI0 fun i j => .bl (decide (i < j))
abbrev fLe : F2 := fI0 fun i j => .bl (decide (i ≤ j))
abbrev fGt : F2 := fI0 fun i j => .bl (decide (j < i))
abbrev fGe : F2 := fI0 fun i j => .bl (decide (j ≤ i))
theorem sim_lt {K : PySem.W.Frag} : SimR K (rI0 fun i j => .bl (decide (i < j))) fLt := sim_I0 fun _ _ _ => .bl _
theorem sim_le {K : PySem.W.Frag} : SimR K (rI0 fun i j => .bl (decide (i ≤ j))) fLe := sim_I0 fun _ _ _ => .bl _
theorem sim_gt {K : PySem.W.Frag} : SimR K (rI0 fun i j => .bl (decide (j < i))) fGt := sim_I0 fun _ _ _ => .bl _
theorem sim_ge {K : PySem.W.Frag} : SimR K (rI0 fun i j => .bl (decide (j ≤ i))) fGe := sim_I0 fun _ _ _ => .bl _
def fIsN (neg : Bool) : F2 := fun d e M Q => match d, e with
  | .non, .non => Q (.bl (!neg)) M
  | _, .non => Q (.bl neg) M
  | _, _ => False
theorem rep_non {K : PySem.W.Frag} {H : Hp} {x : V} {d : D} (r : Rep K H x d) (h : d ≠ .non) : x ≠ .non := fun z => by
  subst z
  cases r
  exact h rfl
theorem sim_isN {K : PySem.W.Frag} : SimR K (fun x y H Q => y = .non ∧ Q (.bl (decide (x = .non))) H) (fIsN false) := by
  intro Z x y d e H M Q Q' S r1 r2 f q
  unfold fIsN at f
  split at f
  · cases r1
    cases r2
    exact ⟨rfl, q _ _ H M (Go.refl S) (.bl _) f⟩
  · rename_i h
    cases r2
    rw [decide_eq_false (rep_non r1 h)]
    exact ⟨rfl, q _ _ H M (Go.refl S) (.bl _) f⟩
  · exact f.elim
theorem sim_notN {K : PySem.W.Frag} : SimR K (fun x y H Q => y = .non ∧ Q (.bl (!decide (x = .non))) H) (fIsN true) := by
  intro Z x y d e H M Q Q' S r1 r2 f q
  unfold fIsN at f
  split at f
  · cases r1
    cases r2
    exact ⟨rfl, q _ _ H M (Go.refl S) (.bl _) f⟩
  · rename_i h
    cases r2
    rw [decide_eq_false (rep_non r1 h)]
    exact ⟨rfl, q _ _ H M (Go.refl S) (.bl _) f⟩
  · exact f.elim

/-! ### tests -/
/-- a bool's own value as a test: a name, a call, a subscript .. -/
theorem dt_val (h : DE X e t w) (he : ∀ whole, isTrue e X.env whole = (do let v ← whole; standAt e.pos; holding [v] (truthy v)) := by intro _; rfl) : DT X e (tB t) (wB w) := ⟨pt_val h.pe he, sim_test h.sm⟩
def wNot (w : WT) : WT := fun ρ M Q => w ρ M fun b M1 => Q (!b) M1
def wAnd (w u : WT) : WT := fun ρ M Q => w ρ M fun b M1 => if b = true then u ρ M1 Q else Q false M1
def wOr (w u : WT) : WT := fun ρ M Q => w ρ M fun b M1 => if b = true then Q true M1 else u ρ M1 Q
variable {tA tB' : TT} {wA wB' : WT} {rest : List Expr}
theorem dt_not (ha : DT X a tA wA) : DT X (.UnaryOp .Not a pos) (tNot tA) (wNot wA) := ⟨pt_not ha.pe, fun Z ρ M σ H Q Q' s h q => ha.sm Z ρ M σ H _ _ s h fun b H1 M1 g z => q _ H1 M1 g z⟩
theorem sim_and {K : PySem.W.Frag} (ha : SimT K tA wA) (hb : SimT K tB' wB') : SimT K (tAnd tA tB') (wAnd wA wB') := by
  intro Z ρ M σ H Q Q' s h q
  refine ha Z ρ M σ H _ _ s h fun b H1 M1 g z => ?_
  cases b with
  | true => exact hb Z ρ M1 σ H1 _ _ (s.go g) z fun b' H2 M2 g2 z2 => q b' H2 M2 (g.trans g2) z2
  | false => exact q _ H1 M1 g z
theorem sim_or {K : PySem.W.Frag} (ha : SimT K tA wA) (hb : SimT K tB' wB') : SimT K (tOr tA tB') (wOr wA wB') := by
  intro Z ρ M σ H Q Q' s h q
  refine ha Z ρ M σ H _ _ s h fun b H1 M1 g z => ?_
  cases b with
  | false => exact hb Z ρ M1 σ H1 _ _ (s.go g) z fun b' H2 M2 g2 z2 => q b' H2 M2 (g.trans g2) z2
  | true => exact q _ H1 M1 g z
theorem dw_and1 (ha : DT X a tA wA) : DW X (.BoolOp .And [a] pos) tA wA := ⟨pw_and1 ha.pe, ha.sm⟩
theorem dw_or1 (ha : DT X a tA wA) : DW X (.BoolOp .Or [a] pos) tA wA := ⟨pw_or1 ha.pe, ha.sm⟩
theorem dw_and (ha : DT X a tA wA) (hb : DW X (.BoolOp .And (b :: rest) pos) tB' wB') : DW X (.BoolOp .And (a :: b :: rest) pos) (tAnd tA tB') (wAnd wA wB') := ⟨pw_and ha.pe hb.pe, sim_and ha.sm hb.sm⟩
theorem dw_or (ha : DT X a tA wA) (hb : DW X (.BoolOp .Or (b :: rest) pos) tB' wB') : DW X (.BoolOp .Or (a :: b :: rest) pos) (tOr tA tB') (wOr wA wB') := ⟨pw_or ha.pe hb.pe, sim_or ha.sm hb.sm⟩
theorem DW.dt {t : TT} {w : WT} (h : DW X e t w) : DT X e t w := ⟨h.pe.pt, h.sm⟩
/-! .. as values -/
def wAndV (wa wb : WE) : WE := fun ρ M Q => wa ρ M fun d M1 => match d with
  | .bl true => wb ρ M1 Q
  | .bl false => Q (.bl false) M1
  | _ => False
def wOrV (wa wb : WE) : WE := fun ρ M Q => wa ρ M fun d M1 => match d with
  | .bl false => wb ρ M1 Q
  | .bl true => Q (.bl true) M1
  | _ => False
def wNotV (wa : WE) : WE := fun ρ M Q => wa ρ M fun d M1 => match d with
  | .bl b => Q (.bl (!b)) M1
  | _ => False
theorem de_one {op} (h : DE X a t w) : DE X (.BoolOp op [a] pos) t w := ⟨pe_one h.pe, h.sm⟩
theorem de_and (ha : DE X a ta wa) (hb : DE X (.BoolOp .And (b :: rest) pos) tb wb) : DE X (.BoolOp .And (a :: b :: rest) pos) (tAndV ta tb) (wAndV wa wb) := by
  refine ⟨pe_and ha.pe hb.pe, fun Z ρ M σ H Q Q' s h q => ?_⟩
  refine ha.sm Z ρ M σ H _ _ s h fun x d H1 M1 g1 r1 q1 => ?_
  cases d with
  | bl y =>
    cases r1
    cases y with
    | true => exact ⟨true, rfl, hb.sm Z ρ M1 σ H1 _ _ (s.go g1) q1 fun v d2 H2 M2 g2 r2 q2 => q v d2 H2 M2 (g1.trans g2) r2 q2⟩
    | false => exact ⟨false, rfl, q _ _ H1 M1 g1 (.bl _) q1⟩
  | _ => exact q1.elim
theorem de_or (ha : DE X a ta wa) (hb : DE X (.BoolOp .Or (b :: rest) pos) tb wb) : DE X (.BoolOp .Or (a :: b :: rest) pos) (tOrV ta tb) (wOrV wa wb) := by
  refine ⟨pe_or ha.pe hb.pe, fun Z ρ M σ H Q Q' s h q => ?_⟩
  refine ha.sm Z ρ M σ H _ _ s h fun x d H1 M1 g1 r1 q1 => ?_
  cases d with
  | bl y =>
    cases r1
    cases y with
    | false => exact ⟨false, rfl, hb.sm Z ρ M1 σ H1 _ _ (s.go g1) q1 fun v d2 H2 M2 g2 r2 q2 => q v d2 H2 M2 (g1.trans g2) r2 q2⟩
    | true => exact ⟨true, rfl, q _ _ H1 M1 g1 (.bl _) q1⟩
  | _ => exact q1.elim
theorem de_not (ha : DE X a ta wa) : DE X (.UnaryOp .Not a pos) (tNotV ta) (wNotV wa) := by
  refine ⟨pe_not ha.pe, fun Z ρ M σ H Q Q' s h q => ?_⟩
  refine ha.sm Z ρ M σ H _ _ s h fun x d H1 M1 g1 r1 q1 => ?_
  cases d with
  | bl y =>
    cases r1
    exact ⟨y, rfl, q _ _ H1 M1 g1 (.bl _) q1⟩
  | _ => exact q1.elim
def wIf (c : WT) (wa wb : WE) : WE := fun ρ M Q => c ρ M fun b M1 => if b = true then wa ρ M1 Q else wb ρ M1 Q
theorem de_if {c : Expr} (hc : DT X c tA wA) (ha : DE X a ta wa) (hb : DE X b tb wb) : DE X (.IfExp c a b pos) (tIf tA ta tb) (wIf wA wa wb) := by
  refine ⟨pe_ifExp hc.pe ha.pe hb.pe, fun Z ρ M σ H Q Q' s h q => ?_⟩
  refine hc.sm Z ρ M σ H _ _ s h fun y H1 M1 g1 q1 => ?_
  cases y with
  | true => exact ha.sm Z ρ M1 σ H1 _ _ (s.go g1) q1 fun v d2 H2 M2 g2 r2 q2 => q v d2 H2 M2 (g1.trans g2) r2 q2
  | false => exact hb.sm Z ρ M1 σ H1 _ _ (s.go g1) q1 fun v d2 H2 M2 g2 r2 q2 => q v d2 H2 M2 (g1.trans g2) r2 q2

/-! ### arguments, displays, calls -/
def wNil : WA := fun _ M Q => Q [] M
def wCons (w : WE) (r : WA) : WA := fun ρ M Q => w ρ M fun d M1 => r ρ M1 fun ds M2 => Q (d :: ds) M2
variable {tr : TA} {wr : WA}
theorem sim_nil {K : PySem.W.Frag} : SimA K tNil wNil := fun Z ρ M σ H Q Q' s h q => q [] [] H M s.refl .nil h
theorem sim_cons {K : PySem.W.Frag} (ha : SimE K te we) (hr : SimA K tr wr) : SimA K (tCons te tr) (wCons we wr) := by
  intro Z ρ M σ H Q Q' s h q
  refine ha Z ρ M σ H _ _ s h fun x d H1 M1 g1 r1 q1 => ?_
  refine hr Z ρ M1 σ H1 _ _ (s.go g1) q1 fun xs ds H2 M2 g2 r2 q2 => ?_
  exact q (x :: xs) (d :: ds) H2 M2 (g1.trans g2) (.cons (r1.up g2.ex) r2) q2
theorem da_nil : DA X [] tNil wNil := ⟨pa_nil, sim_nil⟩
theorem da_cons (ha : DE X e te we) (hr : DA X es tr wr) (hs : starEach (e :: es) X.env = (false, eval e X.env) :: starEach es X.env := by rfl) : DA X (e :: es) (tCons te tr) (wCons we wr) := ⟨pa_cons ha.pe hr.pe hs, sim_cons ha.sm hr.sm⟩
def wTup (r : WA) : WE := fun ρ M Q => r ρ M fun ds M1 => ds.length ≤ sizeLine ∧ Q (.tup ds) M1
def wLst (r : WA) : WE := fun ρ M Q => r ρ M fun ds M1 => ds.length ≤ sizeLine ∧ Q (.lst ds) M1
theorem de_tup {x1} (h : DA X es tr wr) : DE X (.Tuple es x1 pos) (tTup tr) (wTup wr) := by
  refine ⟨pe_tup h.pe, fun Z ρ M σ H Q Q' s hh q => ?_⟩
  refine h.sm Z ρ M σ H _ _ s hh fun xs ds H1 M1 g1 r1 ⟨l, q1⟩ => ⟨by rw [r1.len]; exact l, fun p hp => ?_⟩
  obtain ⟨g, n⟩ := Go.laid (o := .tup xs) g1.sat hp
  exact q _ _ _ _ (g1.trans g) (.tup (.inl (.inl n)) (r1.up g.ex)) q1
theorem de_lst (h : DA X es tr wr) : DE X (.List es pos) (tLst tr) (wLst wr) := by
  refine ⟨pe_lst h.pe, fun Z ρ M σ H Q Q' s hh q => ?_⟩
  refine h.sm Z ρ M σ H _ _ s hh fun xs ds H1 M1 g1 r1 ⟨l, q1⟩ => ⟨by rw [r1.len]; exact l, fun p hp => ?_⟩
  obtain ⟨g, n⟩ := Go.laid (o := .lst xs) g1.sat hp
  exact q _ _ _ _ (g1.trans g) (.lst (.inl (.inl n)) (r1.up g.ex)) q1
/-- a list that is to change -/
def wLstM (r : WA) : WE := fun ρ M Q => r ρ M fun ds M1 => ds.length ≤ sizeLine ∧ ∀ p, M1 p = none → Q (.tok p) (setM M1 p (.lst ds))
theorem de_lstM (h : DA X es tr wr) : DE X (.List es pos) (tLst tr) (wLstM wr) := by
  refine ⟨pe_lst h.pe, fun Z ρ M σ H Q Q' s hh q => ?_⟩
  refine h.sm Z ρ M σ H _ _ s hh fun xs ds H1 M1 g1 r1 ⟨l, q1⟩ => ⟨by rw [r1.len]; exact l, fun p hp => ?_⟩
  exact q _ _ _ _ (g1.trans (Go.putL g1.sat (.inl hp) r1)) (.tok p) (q1 p (g1.sat.free hp))
/-- f(e, ..) by its contract -/
def wCall (F : Fs) (r : WA) : WE := fun ρ M Q => r ρ M fun ds M1 => F ds M1 Q fun _ _ _ => False
theorem sim_call {K : PySem.W.Frag} {F : Fs} (ha : SimA K tr wr) : SimE K (tCallG (lift K F) [] E0 tr) (wCall F wr) := by
  intro Z ρ M σ H Q Q' s h q
  refine ha Z ρ M σ H _ _ s h fun xs ds H1 M1 g1 r1 q1 => ?_
  show lift K F (xs ++ []) H1 Q' E0
  rw [List.append_nil]
  exact ⟨Z, ds, M1, Q, _, g1.sat, r1, q1, fun v d H2 M2 g2 r2 q2 => q v d H2 M2 (g1.trans g2) r2 q2, fun _ _ _ _ _ _ _ _ _ z => z.elim⟩
variable {f : Addr} {fd : FuncData} {ps : List Str} {F : Fs} {x : Str} {p : Pos}
theorem de_call (G : FnG X.prog X.w X.K X.mg X.base k f fd ps (lift X.K F)) (hr : Room k X.A) (gd : X.A.guards = some []) (hm : X.mg x = some (.ref f)) (hk : PySem.W.keepIn X.K (.ref f) = true) (hb : Binds X.K fd ps [])
    (ha : DA X (e :: es) tr wr) (hg : Gl X x := by rfl) (hdb : (x == ("__debug__" : Str)) = false := by decide) (he : starEach (e :: es) X.env = (false, eval e X.env) :: starEach es X.env := by rfl) (hpl : (backTo pos (starEach es X.env)).any (·.1) = false := by rfl) :
    DE X (.Call (.Name x p) (e :: es) [] pos) (tCallG (lift X.K F) [] E0 tr) (wCall F wr) := ⟨pe_callG G hr gd hg hm hk hb .nil passL ha.pe hdb he hpl, sim_call ha.sm⟩
theorem de_call0 (G : FnG X.prog X.w X.K X.mg X.base k f fd ps (lift X.K F)) (hr : Room k X.A) (gd : X.A.guards = some []) (hm : X.mg x = some (.ref f)) (hk : PySem.W.keepIn X.K (.ref f) = true) (hb : Binds X.K fd ps [])
    (hg : Gl X x := by rfl) (hdb : (x == ("__debug__" : Str)) = false := by decide) : DE X (.Call (.Name x p) [] [] pos) (tCallG (lift X.K F) [] E0 tNil) (wCall F wNil) := ⟨pe_callG0 G hr gd hg hm hk hb .nil passL hdb, sim_call sim_nil⟩
end
end L3
namespace L3
open PySem L2
section
variable {X : Cx} {E : XK} {e a b c : Expr} {es : List Expr} {t ta tb tc te : TE} {w wa wb wc we : WE} {pos : Pos} {k : Nat} {tr : TA} {wr : WA}
/-! ### keywords -/
structure DK (X : Cx) (kws : List Keyword) (t : TA) (w : WA) : Prop where
  pe : PK X kws t
  sm : SimA X.K t w
variable {nm : Option Str} {kpos : Pos} {kws : List Keyword} {tk : TA} {wk : WA}
theorem dk_nil : DK X [] tNil wNil := ⟨pk_nil, sim_nil⟩
theorem dk_cons (ha : DE X e te we) (hr : DK X kws tk wk) : DK X (⟨nm, e, kpos⟩ :: kws) (tCons te tk) (wCons we wk) := ⟨pk_cons ha.pe hr.pe, sim_cons ha.sm hr.sm⟩
def permD (idx : List Nat) (ds es : List D) : List D := idx.map fun i => (ds ++ es).getD i .non
theorem rep_getD {K : PySem.W.Frag} {H : Hp} : ∀ {vs : List V} {ds : List D} (i : Nat), RepL K H vs ds → Rep K H (vs.getD i .non) (ds.getD i .non)
  | _, _, _, .nil => .non
  | _, _, 0, .cons r _ => r
  | _, _, i + 1, .cons _ q => rep_getD i q
theorem perm_repL {K : PySem.W.Frag} {H : Hp} (idx : List Nat) {vs zs : List V} {ds es : List D} (r : RepL K H vs ds) (q : RepL K H zs es) : RepL K H (perm idx vs zs) (permD idx ds es) := by
  have ra := r.app q
  unfold perm permD
  induction idx with
  | nil => exact .nil
  | cons i is ih => exact .cons (rep_getD i ra) ih
def wCallK (n m : Nat) (idx : List Nat) (F : Fs) (r rk : WA) : WE := fun ρ M Q => r ρ M fun ds M1 => rk ρ M1 fun es M2 => ds.length = n ∧ es.length = m ∧ F (permD idx ds es) M2 Q fun _ _ _ => False
theorem sim_callK {K : PySem.W.Frag} {F : Fs} {n m : Nat} {idx : List Nat} (ha : SimA K tr wr) (hk : SimA K tk wk) : SimE K (tCallGK n m idx (lift K F) E0 tr tk) (wCallK n m idx F wr wk) := by
  intro Z ρ M σ H Q Q' s h q
  refine ha Z ρ M σ H _ _ s h fun xs ds H1 M1 g1 r1 q1 => ?_
  refine hk Z ρ M1 σ H1 _ _ (s.go g1) q1 fun ys es H2 M2 g2 r2 ⟨l1, l2, q2⟩ => ⟨by rw [r1.len]; exact l1, by rw [r2.len]; exact l2, ?_⟩
  exact ⟨Z, _, M2, Q, _, g2.sat, perm_repL idx (r1.up g2.ex) r2, q2, fun v d H3 M3 g3 r3 q3 => q v d H3 M3 ((g1.trans g2).trans g3) r3 q3, fun _ _ _ _ _ _ _ _ _ z => z.elim⟩
variable {f : Addr} {fd : FuncData} {ps : List Str} {F : Fs} {x : Str} {p : Pos}
theorem de_callK {n : Nat} {ks : List Str} {idx : List Nat} (G : FnG X.prog X.w X.K X.mg X.base k f fd ps (lift X.K F)) (hr : Room k X.A) (gd : X.A.guards = some []) (hm : X.mg x = some (.ref f)) (hk : PySem.W.keepIn X.K (.ref f) = true) (hb : KB X.K fd ps n ks idx)
    (ha : DA X (e :: es) tr wr) (hkw : DK X kws tk wk) (hg : Gl X x := by rfl) (hall : (backToKw pos (keywordEach kws X.env)).all (·.1.isSome) = true := by rfl) (hks : (backToKw pos (keywordEach kws X.env)).filterMap (·.1) = ks := by rfl)
    (hdb : (x == ("__debug__" : Str)) = false := by decide) (he : starEach (e :: es) X.env = (false, eval e X.env) :: starEach es X.env := by rfl)
    (hpl : ((backTo pos (starEach (e :: es) X.env)).any (·.1) || (backToKw pos (keywordEach kws X.env)).any (·.1.isNone)) = false := by rfl) :
    DE X (.Call (.Name x p) (e :: es) kws pos) (tCallGK n ks.length idx (lift X.K F) E0 tr tk) (wCallK n ks.length idx F wr wk) := ⟨pe_callGK G hr gd hg hm hk hb passL ha.pe hkw.pe hall hks hdb he hpl, sim_callK ha.sm hkw.sm⟩
theorem de_callK0 {ks : List Str} {idx : List Nat} (G : FnG X.prog X.w X.K X.mg X.base k f fd ps (lift X.K F)) (hr : Room k X.A) (gd : X.A.guards = some []) (hm : X.mg x = some (.ref f)) (hk : PySem.W.keepIn X.K (.ref f) = true) (hb : KB X.K fd ps 0 ks idx)
    (hkw : DK X kws tk wk) (hg : Gl X x := by rfl) (hall : (backToKw pos (keywordEach kws X.env)).all (·.1.isSome) = true := by rfl) (hks : (backToKw pos (keywordEach kws X.env)).filterMap (·.1) = ks := by rfl)
    (hdb : (x == ("__debug__" : Str)) = false := by decide)
    (hpl : ((backTo pos (starEach [] X.env)).any (·.1) || (backToKw pos (keywordEach kws X.env)).any (·.1.isNone)) = false := by rfl) :
    DE X (.Call (.Name x p) [] kws pos) (tCallGK 0 ks.length idx (lift X.K F) E0 tNil tk) (wCallK 0 ks.length idx F wNil wk) := ⟨pe_callGK0 G hr gd hg hm hk hb passL hkw.pe hall hks hdb hpl, sim_callK sim_nil hkw.sm⟩

/-! ### places of lists, tuples, texts -/
def ixD : F2 := fun d e M Q => match d, e with
  | .str z, .int i => z.length ≤ sizeLine ∧ ∃ c, atI z.cps.toList i = some c ∧ Q (.str ⟨#[c]⟩) M
  | d, .int i => ∃ ds x, seqD M d = some ds ∧ atI ds i = some x ∧ Q x M
  | _, _ => False
theorem atI_len {α β : Type} {xs : List α} {ys : List β} {i : Int} {x : α} (h : atI xs i = some x) (l : xs.length = ys.length) : ∃ (y : β) (j : Nat), atI ys i = some y ∧ ys[j]? = some y ∧ xs[j]? = some x := by
  unfold atI at h ⊢
  rw [l] at h
  cases q : ixN ys.length i with
  | none =>
    rw [q] at h
    cases h
  | some j =>
    rw [q] at h
    have h' : xs[j]? = some x := h
    have hj : j < ys.length := by
      rw [← l]
      exact (List.getElem?_eq_some_iff.mp h').1
    exact ⟨ys[j], j, List.getElem?_eq_getElem hj, List.getElem?_eq_getElem hj, h'⟩
theorem sim_ix {K : PySem.W.Frag} : SimR K (rIx K) ixD := by
  intro Z x y d e H M Q Q' S r1 r2 f q
  unfold ixD at f
  split at f
  · cases r1
    cases r2
    obtain ⟨l, c, ha, z⟩ := f
    exact .inr (.inr ⟨_, _, c, rfl, rfl, l, ha, q _ _ H M (Go.refl S) (.str _) z⟩)
  · cases r2
    obtain ⟨ds, x', hs, ha, z⟩ := f
    obtain ⟨a, vs, rfl, hv, rl⟩ := seq_of S r1 hs
    obtain ⟨v, j, a1, a2, a3⟩ := atI_len ha rl.len.symm
    obtain ⟨v', b1, b2⟩ := rl.get a3
    rw [a2] at b1
    cases b1
    rcases hv with hv | hv
    · exact .inl ⟨a, vs, _, v, rfl, rfl, hv, a1, q _ _ H M (Go.refl S) b2 z⟩
    · exact .inr (.inl ⟨a, vs, _, v, rfl, rfl, hv, a1, q _ _ H M (Go.refl S) b2 z⟩)
  · exact f.elim
theorem de_ix (ha : DE X a ta wa) (hb : DE X b tb wb) (hs : PlainIx b := by intro _ _; rfl) : DE X (.Subscript a b pos) (tOp (rIx X.K) ta tb) (wOp ixD wa wb) := ⟨pe_ix ix_seq ha.pe hb.pe hs, sim_op ha.sm hb.sm sim_ix⟩

/-! ### slices -/
abbrev WO := En → Mp → (Option Int → Mp → Prop) → Prop
def SimO (K : PySem.W.Frag) (t : TO) (w : WO) : Prop := ∀ (Z : Hp) (ρ : En) (M : Mp) (σ : L2.St) (H : Hp) (Q : Option Int → Mp → Prop) (Q' : Option Int → Hp → Prop), R3 K Z ρ M σ H → w ρ M Q → (∀ b H' M', Go K Z H M H' M' → Q b M' → Q' b H') → t σ H Q'
structure DO (X : Cx) (e : Option Expr) (t : TO) (w : WO) : Prop where
  pe : PO X e t
  sm : SimO X.K t w
def wNoP : WO := fun _ M Q => Q none M
def wPart (w : WE) : WO := fun ρ M Q => w ρ M fun d M1 => match d with
  | .int i => Q (some i) M1
  | _ => False
theorem do_none : DO X none tNoPart wNoP := ⟨po_none, fun Z ρ M σ H Q Q' s h q => q _ H M s.refl h⟩
theorem do_some (h : DE X e te we) : DO X (some e) (tPart te) (wPart we) := by
  refine ⟨po_some h.pe, fun Z ρ M σ H Q Q' s hh q => ?_⟩
  refine h.sm Z ρ M σ H _ _ s hh fun x d H1 M1 g1 r1 q1 => ?_
  cases d with
  | int i =>
    cases r1
    exact ⟨i, rfl, q _ H1 M1 g1 q1⟩
  | _ => exact q1.elim
def cutD (xs : List D) (lo hi : Option Int) : List D := (xs.drop (HT.sIx xs.length 0 lo)).take (HT.sIx xs.length xs.length hi - HT.sIx xs.length 0 lo)
theorem cut_rep {K : PySem.W.Frag} {H : Hp} {vs : List V} {ds : List D} (r : RepL K H vs ds) (lo hi : Option Int) : RepL K H (cutV vs lo hi) (cutD ds lo hi) := by
  unfold cutV cutD
  rw [r.len]
  exact (r.drop _).take _
def slD : D → Option Int → Option Int → Mp → KD → Prop := fun d lo hi M Q => match d with
  | .tup ds => Q (.tup (cutD ds lo hi)) M
  | .str z => z.length ≤ sizeLine ∧ Q (.str (cutS z lo hi)) M
  | d => ∃ ds, (∃ a, d = .tok a ∨ d = .lst ds) ∧ seqD M d = some ds ∧ Q (.lst (cutD ds lo hi)) M
def rSlU (K : PySem.W.Frag) : V → Option Int → Option Int → Hp → VK → Prop := fun x lo hi H Q => rSlL K x lo hi H Q ∨ rSlA K x lo hi H Q ∨ rSlS x lo hi H Q
theorem sl_any : SlR X (rSlU X.K) := sl_list.or (sl_tupA.or sl_str)
def wSl (w : WE) (wl wh : WO) : WE := fun ρ M Q => w ρ M fun d M1 => wl ρ M1 fun l M2 => wh ρ M2 fun u M3 => slD d l u M3 Q
theorem sim_sl {K : PySem.W.Frag} {tl th : TO} {wl wh : WO} (h : SimE K te we) (hl : SimO K tl wl) (hh : SimO K th wh) : SimE K (tSl (rSlU K) te tl th) (wSl we wl wh) := by
  intro Z ρ M σ H Q Q' s hw q
  refine h Z ρ M σ H _ _ s hw fun x d H1 M1 g1 r1 q1 => ?_
  refine hl Z ρ M1 σ H1 _ _ (s.go g1) q1 fun lo H2 M2 g2 q2 => ?_
  refine hh Z ρ M2 σ H2 _ _ (s.go (g1.trans g2)) q2 fun hi H3 M3 g3 q3 => ?_
  have g := (g1.trans g2).trans g3
  have r3 := (r1.up g2.ex).up g3.ex
  unfold slD at q3
  split at q3
  · rename_i ds
    cases r3 with
    | @tup a vs _ hs rl =>
      refine .inr (.inl ⟨a, vs, rfl, sqt_mono fz_sub hs, fun ⟨e1, e2⟩ => ?_, fun _ p hp => ?_⟩)
      · have e : cutD ds lo hi = ds := by
          unfold cutD
          rw [← rl.len, e1, e2, Nat.sub_zero, List.drop_zero, rl.len, List.take_length]
        rw [e] at q3
        exact q _ _ H3 M3 g (.tup hs rl) q3
      · obtain ⟨g4, n⟩ := Go.laid (o := .tup (cutV vs lo hi)) g3.sat hp
        exact q _ _ _ _ (g.trans g4) (.tup (.inl (.inl n)) ((cut_rep rl lo hi).up g4.ex)) q3
  · rename_i z
    cases r3
    exact .inr (.inr ⟨z, rfl, q3.1, q _ _ H3 M3 g (.str _) q3.2⟩)
  · obtain ⟨ds, hd, hs, z⟩ := q3
    obtain ⟨a, vs, rfl, ha, rl⟩ := lst_of g3.sat r3 hd hs
    refine .inl ⟨a, vs, rfl, ha, fun p hp => ?_⟩
    obtain ⟨g4, n⟩ := Go.laid (o := .lst (cutV vs lo hi)) g3.sat hp
    exact q _ _ _ _ (g.trans g4) (.lst (.inl (.inl n)) ((cut_rep rl lo hi).up g4.ex)) z
theorem de_slice {lo hi : Option Expr} {tl th : TO} {wl wh : WO} {p2 : Pos} (he : DE X e te we) (hl : DO X lo tl wl) (hu : DO X hi th wh) : DE X (.Subscript e (.Slice lo hi none p2) pos) (tSl (rSlU X.K) te tl th) (wSl we wl wh) := ⟨pe_slice sl_any he.pe hl.pe hu.pe, sim_sl he.sm hl.sm hu.sm⟩
end
end L3
namespace L3
open PySem L2
section
variable {X : Cx} {E : XK} {e a b c : Expr} {es : List Expr} {t ta tb tc te : TE} {w wa wb wc we : WE} {pos : Pos} {k : Nat} {tr : TA} {wr : WA} {st : Stmt} {rest : List Stmt} {ts tu : TS} {ws wu : WS} {tA : TT} {wA : WT}
/-! ### truth of any value -/
def truD : D → Mp → Option Bool
  | .non, _ => some false
  | .bl b, _ => some b
  | .int i, _ => some (i != 0)
  | .str x, _ => if x.length ≤ sizeLine then some ((x.length : Int) != 0) else none
  | .tup ds, _ => some (!ds.isEmpty)
  | .lst ds, _ => some (!ds.isEmpty)
  | .tok a, M => match M a with
    | some (.lst ds) => some (!ds.isEmpty)
    | _ => none
  | .ty _, _ => none
def wTru (w : WE) : WT := fun ρ M Q => w ρ M fun d M1 => match truD d M1 with
  | some b => Q b M1
  | none => False
theorem rep_empty {K : PySem.W.Frag} {H : Hp} {vs : List V} {ds : List D} (r : RepL K H vs ds) : vs.isEmpty = ds.isEmpty := by
  cases r <;> rfl
theorem tru_of {K : PySem.W.Frag} {Z H : Hp} {M : Mp} {v : V} : ∀ {d : D} {b : Bool}, Sat K Z H M → Rep K (fz Z H M) v d → truD d M = some b → TruV K v H b
  | .non, b, _, r, e => by cases r; cases e; rfl
  | .bl x, b, _, r, e => by cases r; cases e; rfl
  | .int i, b, _, r, e => by cases r; cases e; rfl
  | .str x, b, _, r, e => by
    cases r
    have e' : (if x.length ≤ sizeLine then some ((x.length : Int) != 0) else none) = some b := e
    by_cases h : x.length ≤ sizeLine
    · rw [if_pos h] at e'
      cases e'
      exact ⟨h, rfl⟩
    · rw [if_neg h] at e'
      cases e'
  | .tup ds, b, S, r, e => by
    cases e
    cases r with
    | tup hs rl => exact .inr (.inl ⟨_, sqt_mono fz_sub hs, by rw [rep_empty rl]⟩)
  | .lst ds, b, S, r, e => by
    cases e
    cases r with
    | lst hs rl => exact .inl ⟨_, fz_sub.seq hs, by rw [rep_empty rl]⟩
  | .ty _, b, _, _, e => by cases e
  | .tok a, b, S, r, e => by
    cases r
    have e' : (match M a with | some (.lst ds) => some (!ds.isEmpty) | _ => none) = some b := e
    cases q : M a with
    | none =>
      rw [q] at e'
      cases e'
    | some c =>
      rw [q] at e'
      cases c with
      | lst ds =>
        cases e'
        obtain ⟨vs, e1, rl⟩ := S.cell a _ q
        exact .inl ⟨vs, .inl (.inl e1), by rw [rep_empty rl]⟩
      | aux => cases e'
      | drw _ => cases e'
      | ins _ _ => cases e'
theorem dt_tru (h : DE X e t w) (he : ∀ whole, isTrue e X.env whole = (do let v ← whole; standAt e.pos; holding [v] (truthy v)) := by intro _; rfl) : DT X e (fun σ H Q => t σ H fun x H' => ∃ k, TruV X.K x H' k ∧ Q k H') (wTru w) := by
  refine ⟨pt_truth h.pe he, fun Z ρ M σ H Q Q' s hw q => ?_⟩
  refine h.sm Z ρ M σ H _ _ s hw fun x d H1 M1 g1 r1 q1 => ?_
  cases z : truD d M1 with
  | none =>
    rw [z] at q1
    exact q1.elim
  | some b =>
    rw [z] at q1
    exact ⟨b, tru_of g1.sat r1 z, q b H1 M1 g1 q1⟩

/-! ### blocks and small statements -/
def wNext : WS := fun D ρ M => D.nx ρ M
def wSeq (w u : WS) : WS := fun D ρ M => w { D with nx := u D } ρ M
theorem sim_seq {K : PySem.W.Frag} (h1 : SimS K E ts ws) (h2 : SimS K E tu wu) : SimS K E (tSeq ts tu) (wSeq ws wu) := by
  intro Z D3 ρ M σ H D r h en
  refine h1 Z _ ρ M σ H _ r h ⟨fun ρ' M' σ' H' r' g n => ?_, en.rt, en.bk, en.ct, en.xr⟩
  exact h2 Z D3 ρ' M' σ' H' D r' n (en.go g)
theorem dss_nil : DSs X E [] tNext wNext := ⟨pss_nil, fun Z D3 ρ M σ H D r h en => en.nx ρ M σ H r r.refl h⟩
theorem dss_cons (h1 : DS X E st ts ws) (h2 : DSs X E rest tu wu) : DSs X E (st :: rest) (tSeq ts tu) (wSeq ws wu) := ⟨pss_cons h1.pe h2.pe, sim_seq h1.sm h2.sm⟩
theorem dss_one (h1 : DS X E st ts ws) : DSs X E [st] ts ws := ⟨pss_one h1.pe, h1.sm⟩
theorem ds_pass : DS X E (.Pass pos) tNext wNext := ⟨ps_pass, fun Z D3 ρ M σ H D r h en => en.nx ρ M σ H r r.refl h⟩
def wBreak : WS := fun D ρ M => D.bk ρ M
def wCont : WS := fun D ρ M => D.ct ρ M
theorem ds_break : DS X E (.Break pos) tBreak wBreak := ⟨ps_break, fun Z D3 ρ M σ H D r h en => en.bk ρ M σ H r r.refl h⟩
theorem ds_cont : DS X E (.Continue pos) tCont wCont := ⟨ps_continue, fun Z D3 ρ M σ H D r h en => en.ct ρ M σ H r r.refl h⟩
def wDrop (w : WE) : WS := fun D ρ M => w ρ M fun _ M1 => D.nx ρ M1
theorem ds_expr (he : DE X e te we) (hs : swapsWith e none pos.line X.env = pure false := by rfl) : DS X E (.Expr e pos) (tDrop te) (wDrop we) :=
  ⟨ps_expr he.pe hs, fun Z D3 ρ M σ H D r h en => he.sm Z ρ M σ H _ _ r h fun v d H1 M1 g r1 q => en.nx ρ M1 σ H1 (r.go g) g q⟩
def wRet (w : WE) : WS := fun D ρ M => w ρ M D.rt
theorem ds_ret (he : DE X e te we) : DS X E (.Return (some e) pos) (tRet te) (wRet we) := ⟨ps_ret he.pe, fun Z D3 ρ M σ H D r h en => he.sm Z ρ M σ H _ _ r h fun v d H1 M1 g r1 q => en.rt v d H1 M1 g r1 q⟩
/-- a list of the store is handed back: it never changes again -/
def wRetF (w : WE) : WS := fun D ρ M => w ρ M fun d M1 => match d with
  | .tok a => match M1 a with
    | some (.lst ds) => D.rt (.lst ds) (delM M1 a)
    | _ => False
  | _ => False
theorem ds_retF (he : DE X e te we) : DS X E (.Return (some e) pos) (tRet te) (wRetF we) := by
  refine ⟨ps_ret he.pe, fun Z D3 ρ M σ H D r h en => he.sm Z ρ M σ H _ _ r h fun v d H1 M1 g r1 q => ?_⟩
  cases d with
  | tok a =>
    cases r1
    dsimp only at q
    cases z : M1 a with
    | none =>
      rw [z] at q
      exact q.elim
    | some c =>
      rw [z] at q
      cases c with
      | lst ds =>
        obtain ⟨g2, vs, e1, rl⟩ := Go.frozen g.sat z
        exact en.rt _ _ H1 _ (g.trans g2) (.lst (.inl (.inl e1)) rl) q
      | aux => exact q.elim
      | drw _ => exact q.elim
      | ins _ _ => exact q.elim
  | _ => exact q.elim
def wRetN : WS := fun D _ M => D.rt .non M
theorem ds_retN : DS X E (.Return none pos) tRetN wRetN := ⟨ps_retN, fun Z D3 ρ M σ H D r h en => en.rt _ _ H M r.refl .non h⟩
def wIfS (c : WT) (w u : WS) : WS := fun D ρ M => c ρ M fun b M1 => if b = true then w D ρ M1 else u D ρ M1
theorem ds_if {c : Expr} {p q : List Stmt} (hc : DT X c tA wA) (hp : DSs X E p ts ws) (hq : DSs X E q tu wu) : DS X E (.If c p q pos) (tIfS tA ts tu) (wIfS wA ws wu) := by
  refine ⟨ps_if hc.pe hp.pe hq.pe, fun Z D3 ρ M σ H D r h en => hc.sm Z ρ M σ H _ _ r h fun b H1 M1 g z => ?_⟩
  cases b with
  | true => exact hp.sm Z D3 ρ M1 σ H1 D (r.go g) z (en.go g)
  | false => exact hq.sm Z D3 ρ M1 σ H1 D (r.go g) z (en.go g)

/-! ### targets -/
abbrev WG := D → En → Mp → (En → Mp → Prop) → Prop
abbrev WGs := List D → En → Mp → (En → Mp → Prop) → Prop
def SimG (K : PySem.W.Frag) (t : TG) (w : WG) : Prop := ∀ (Z : Hp) (v : V) (d : D) (ρ : En) (M : Mp) (σ : L2.St) (H : Hp) (Q : En → Mp → Prop) (Q' : L2.St → Hp → Prop), R3 K Z ρ M σ H → Rep K (fz Z H M) v d → w d ρ M Q → (∀ ρ' M' σ' H', R3 K Z ρ' M' σ' H' → Go K Z H M H' M' → Q ρ' M' → Q' σ' H') → t v σ H Q'
def SimGs (K : PySem.W.Frag) (t : TGs) (w : WGs) : Prop := ∀ (Z : Hp) (v : List V) (d : List D) (ρ : En) (M : Mp) (σ : L2.St) (H : Hp) (Q : En → Mp → Prop) (Q' : L2.St → Hp → Prop), R3 K Z ρ M σ H → RepL K (fz Z H M) v d → w d ρ M Q → (∀ ρ' M' σ' H', R3 K Z ρ' M' σ' H' → Go K Z H M H' M' → Q ρ' M' → Q' σ' H') → t v σ H Q'
structure DG (X : Cx) (e : Expr) (t : TG) (w : WG) : Prop where
  pe : PG X e t
  sm : SimG X.K t w
structure DGs (X : Cx) (e : List Expr) (t : TGs) (w : WGs) : Prop where
  pe : PGs X e t
  sm : SimGs X.K t w
def wgName (i : Nat) : WG := fun d ρ M Q => Q (ρ.set i (some d)) M
theorem sim_gname {K : PySem.W.Frag} (i : Nat) : SimG K (gName i) (wgName i) := fun Z v d ρ M σ H Q Q' r rp h q => q _ M _ H ⟨r.sat, r.env.set i rp⟩ r.refl h
theorem dg_name (i : Nat) {x : Str} (hN : X.N.Nodup) (hi : X.N[i]? = some x := by rfl) (hx : Loc X.env.scope x := by first | exact .inl rfl | exact .inr rfl) (hf : X.fn x = true ∨ X.env.scope.names.lookup x = some .local := by first | exact .inl rfl | exact .inr rfl) : DG X (.Name x pos) (gName i) (wgName i) := ⟨pg_name hN hi hx hf, sim_gname i⟩
def wgNil : WGs := fun ds ρ M Q => ds = [] ∧ Q ρ M
def wgCons (w : WG) (u : WGs) : WGs := fun ds ρ M Q => match ds with
  | [] => False
  | d :: r => w d ρ M fun ρ' M' => u r ρ' M' Q
variable {tg : TG} {wg : WG} {tgs : TGs} {wgs : WGs}
theorem dgs_nil : DGs X [] gNil wgNil := ⟨pgs_nil, fun Z v d ρ M σ H Q Q' r rp h q => by
  obtain ⟨rfl, h⟩ := h
  cases rp
  exact ⟨rfl, q ρ M σ H r r.refl h⟩⟩
theorem dgs_cons (h1 : DG X e tg wg) (h2 : DGs X es tgs wgs) (hs : (assignEach (e :: es) X.env).map (·.2) = assign e X.env :: (assignEach es X.env).map (·.2) := by rfl) : DGs X (e :: es) (gCons tg tgs) (wgCons wg wgs) := by
  refine ⟨pgs_cons h1.pe h2.pe hs, fun Z v d ρ M σ H Q Q' r rp h q => ?_⟩
  cases rp with
  | nil => exact h.elim
  | cons r1 r2 =>
    refine ⟨_, _, rfl, h1.sm Z _ _ ρ M σ H _ _ r r1 h fun ρ1 M1 σ1 H1 s1 g1 z => ?_⟩
    exact h2.sm Z _ _ ρ1 M1 σ1 H1 _ _ s1 (r2.up g1.ex) z fun ρ2 M2 σ2 H2 s2 g2 z2 => q ρ2 M2 σ2 H2 s2 (g1.trans g2) z2
def wgTup (n : Nat) (w : WGs) : WG := fun d ρ M Q => match d with
  | .tup ds => ds.length = n ∧ w ds ρ M Q
  | _ => False
theorem sim_gtup {K : PySem.W.Frag} {n : Nat} (h : SimGs K tgs wgs) : SimG K (gTup K n tgs) (wgTup n wgs) := by
  intro Z v d ρ M σ H Q Q' r rp hw q
  cases d with
  | tup ds =>
    cases rp with
    | tup hs rl => exact ⟨_, _, rfl, sqt_mono fz_sub hs, by rw [rl.len]; exact hw.1, h Z _ _ ρ M σ H _ _ r rl hw.2 q⟩
  | _ => exact hw.elim
theorem dg_tup {es : List Expr} {k : Nat} {n : Nat} (hc : X.calm = true) (h : DGs X es tgs wgs) (hn : (assignEach es X.env).length = n := by rfl) (hst : (assignEach es X.env).findIdx? (·.1) = none := by rfl) : DG X (.Tuple es k pos) (gTup X.K n tgs) (wgTup n wgs) := ⟨pg_tup hc h.pe hn hst, sim_gtup h.sm⟩
/-- o[i] = v of a list of the store -/
def setD (o i v : D) (M : Mp) (Q : Mp → Prop) : Prop := match o, i with
  | .tok a, .int n => ∃ ds j, M a = some (.lst ds) ∧ ixN ds.length n = some j ∧ Q (setM M a (.lst (ds.set j v)))
  | _, _ => False
def wgSub (wo wi : WE) : WG := fun d ρ M Q => wo ρ M fun o M1 => wi ρ M1 fun i M2 => setD o i d M2 fun M3 => Q ρ M3
theorem dg_sub {o i : Expr} {to ti : TE} {wo wi : WE} (ho : DE X o to wo) (hi : DE X i ti wi) (ha : ∀ v, assign (.Subscript o i pos) X.env v = (do
      let ov ← holding [v] (eval o X.env)
      let iv ← holding [v, ov] (eval i X.env)
      standAt pos
      holding [v, ov, iv] (setItem ov iv v)
      release [v, ov, iv] []) := by intro _; rfl) : DG X (.Subscript o i pos) (gSub to ti rSetL) (wgSub wo wi) := by
  refine ⟨pg_sub ho.pe hi.pe set_list ha, fun Z v d ρ M σ H Q Q' r rp hw q => ?_⟩
  refine ho.sm Z ρ M σ H _ _ r hw fun x d1 H1 M1 g1 r1 q1 => ?_
  refine hi.sm Z ρ M1 σ H1 _ _ (r.go g1) q1 fun y d2 H2 M2 g2 r2 q2 => ?_
  unfold setD at q2
  split at q2
  · rename_i a n
    obtain ⟨ds, j, hm, hj, z⟩ := q2
    have r1' := r1.up g2.ex
    cases r1'
    cases r2
    obtain ⟨vs, e1, rl⟩ := g2.sat.cell a _ hm
    have g3 := Go.putL (p := a) g2.sat (.inr ⟨ds, hm⟩) (RepL.set ((rp.up g1.ex).up g2.ex) j rl)
    exact ⟨a, vs, n, j, rfl, rfl, e1, by rw [rl.len]; exact hj, q ρ _ σ _ (r.go ((g1.trans g2).trans g3)) ((g1.trans g2).trans g3) z⟩
  · exact q2.elim
def wAsg (w : WE) (g : WG) : WS := fun D ρ M => w ρ M fun d M1 => g d ρ M1 D.nx
theorem sim_asg {K : PySem.W.Frag} (he : SimE K te we) (hg : SimG K tg wg) : SimS K E (tAsg te tg) (wAsg we wg) := by
  intro Z D3 ρ M σ H D r h en
  refine he Z ρ M σ H _ _ r h fun v d H1 M1 g1 r1 q1 => ?_
  exact hg Z v d ρ M1 σ H1 _ _ (r.go g1) r1 q1 fun ρ2 M2 σ2 H2 s2 g2 z => en.nx ρ2 M2 σ2 H2 s2 (g1.trans g2) z
theorem ds_set (i : Nat) {x : Str} {pos' : Pos} (hN : X.N.Nodup) (he : DE X e te we) (hi : X.N[i]? = some x := by rfl) (hx : Loc X.env.scope x := by first | exact .inl rfl | exact .inr rfl) (hs : swapsWith e (some (.Name x pos')) pos.line X.env = pure false := by rfl)
    (hf : X.fn x = true ∨ X.env.scope.names.lookup x = some .local := by first | exact .inl rfl | exact .inr rfl) : DS X E (.Assign [.Name x pos'] e pos) (tAsg te (gName i)) (wAsg we (wgName i)) := ⟨ps_set hN hi hx he.pe hs hf, sim_asg he.sm (sim_gname i)⟩
theorem ds_asg {tgt : Expr} (he : DE X e te we) (hg : DG X tgt tg wg) (hs : swapsWithSole [tgt] e pos.line X.env = pure false := by rfl) (hw : swappedStores [tgt] e X.env = pure none := by rfl)
    (h1 : (assignEach [tgt] X.env).map (·.2) = [assign tgt X.env] := by rfl) : DS X E (.Assign [tgt] e pos) (tAsg te tg) (wAsg we wg) := ⟨ps_asg he.pe hg.pe hs hw h1, sim_asg he.sm hg.sm⟩
/-- a, b = x, y -/
def wPar (i j : Nat) (w : WA) : WS := fun D ρ M => w ρ M fun ds M1 => match ds with
  | [d, e] => D.nx ((ρ.set i (some d)).set j (some e)) M1
  | _ => False
theorem ds_par (i j : Nat) {x y : Str} {a b : Expr} {px py pt : Pos} {kt k2 pt2} (hc : X.calm = true) (hN : X.N.Nodup) (ha : DA X [a, b] tr wr) (hi : X.N[i]? = some x := by rfl) (hj : X.N[j]? = some y := by rfl) (hij : i ≠ j := by decide)
    (hx : X.env.scope.names.lookup x = some .local := by rfl) (hy : X.env.scope.names.lookup y = some .local := by rfl)
    (hw : swappedStores [.Tuple [.Name x px, .Name y py] kt pt] (.Tuple [a, b] k2 pt2) X.env = pure (some [x, y]) := by rfl)
    (hs : swapsWithSole [.Tuple [.Name x px, .Name y py] kt pt] (.Tuple [a, b] k2 pt2) pos.line X.env = pure false := by rfl) :
    DS X E (.Assign [.Tuple [.Name x px, .Name y py] kt pt] (.Tuple [a, b] k2 pt2) pos) (tPar i j tr) (wPar i j wr) := by
  refine ⟨ps_par hc hN hi hj hij hx hy ha.pe hw hs, fun Z D3 ρ M σ H D r h en => ?_⟩
  refine ha.sm Z ρ M σ H _ _ r h fun vs ds H1 M1 g1 r1 q1 => ?_
  cases r1 with
  | nil => exact q1.elim
  | cons r1 r2 =>
    cases r2 with
    | nil => exact q1.elim
    | cons r2 r3 =>
      cases r3 with
      | nil => exact ⟨_, _, rfl, en.nx _ M1 _ H1 ⟨g1.sat, (((r.go g1).env.set i r1).set j r2)⟩ g1 q1⟩
      | cons _ _ => exact q1.elim
def wPar3 (i j l : Nat) (w : WA) : WS := fun D ρ M => w ρ M fun ds M1 => match ds with
  | [d, e, f] => D.nx (((ρ.set i (some d)).set j (some e)).set l (some f)) M1
  | _ => False
theorem ds_par3 (i j l : Nat) {x y z : Str} {a b c : Expr} {px py pz pt : Pos} {kt k2 pt2} (hc : X.calm = true) (hN : X.N.Nodup) (ha : DA X [a, b, c] tr wr) (hi : X.N[i]? = some x := by rfl) (hj : X.N[j]? = some y := by rfl) (hl : X.N[l]? = some z := by rfl) (hij : i ≠ j := by decide) (hil : i ≠ l := by decide) (hjl : j ≠ l := by decide)
    (hx : X.env.scope.names.lookup x = some .local := by rfl) (hy : X.env.scope.names.lookup y = some .local := by rfl) (hz : X.env.scope.names.lookup z = some .local := by rfl)
    (hw : swappedStores [.Tuple [.Name x px, .Name y py, .Name z pz] kt pt] (.Tuple [a, b, c] k2 pt2) X.env = pure (some [x, y, z]) := by rfl)
    (hs : swapsWithSole [.Tuple [.Name x px, .Name y py, .Name z pz] kt pt] (.Tuple [a, b, c] k2 pt2) pos.line X.env = pure false := by rfl) :
    DS X E (.Assign [.Tuple [.Name x px, .Name y py, .Name z pz] kt pt] (.Tuple [a, b, c] k2 pt2) pos) (tPar3 i j l tr) (wPar3 i j l wr) := by
  refine ⟨ps_par3 hc hN hi hj hl hij hil hjl hx hy hz ha.pe hw hs, fun Z D3 ρ M σ H D r h en => ?_⟩
  refine ha.sm Z ρ M σ H _ _ r h fun vs ds H1 M1 g1 r1 q1 => ?_
  cases r1 with
  | nil => exact q1.elim
  | cons r1 r2 =>
    cases r2 with
    | nil => exact q1.elim
    | cons r2 r3 =>
      cases r3 with
      | nil => exact q1.elim
      | cons r3 r4 =>
        cases r4 with
        | nil => exact ⟨_, _, _, rfl, en.nx _ M1 _ H1 ⟨g1.sat, ((((r.go g1).env.set i r1).set j r2).set l r3)⟩ g1 q1⟩
        | cons _ _ => exact q1.elim
/-- x += e -/
def wAug (i : Nat) (w : WE) (f : F2) : WS := fun D ρ M => match ρ[i]? with
  | some (some d) => w ρ M fun e M1 => f d e M1 fun z M2 => D.nx (ρ.set i (some z)) M2
  | _ => False
theorem ip_int {op : Operator} {g : Int → Int → Int} (h : PIp X op (ipI g)) : PIp X op (rI0 fun i j => .int (g i j)) := fun pins s σ H x y v u Q I r1 r2 ⟨i, j, e1, e2, q⟩ => h pins s σ H x y v u Q I r1 r2 ⟨i, j, e1, e2, q⟩
theorem ds_augI (i : Nat) {x : Str} {op : Operator} {g : Int → Int → Int} {pos' : Pos} (hN : X.N.Nodup) (he : DE X e te we) (ho : PIp X op (ipI g)) (hi : X.N[i]? = some x := by rfl) (hx : Loc X.env.scope x := by first | exact .inl rfl | exact .inr rfl)
    (hf : X.fn x = true ∨ X.env.scope.names.lookup x = some .local := by first | exact .inl rfl | exact .inr rfl) : DS X E (.AugAssign (.Name x pos') op e pos) (tAug i te (rI0 fun i j => .int (g i j))) (wAug i we (fI0 fun i j => .int (g i j))) := by
  refine ⟨ps_aug hN hi hx he.pe (ip_int ho) hf, fun Z D3 ρ M σ H D r h en => ?_⟩
  unfold wAug at h
  split at h
  · rename_i d e1
    obtain ⟨v, e2, rp⟩ := r.env.2 i d e1
    refine ⟨v, e2, he.sm Z ρ M σ H _ _ r h fun y d2 H1 M1 g1 r1 q1 => ?_⟩
    refine sim_I0 (g := fun i j => .int (g i j)) (fun _ _ _ => .int _) Z v y d d2 H1 M1 _ _ g1.sat (rp.up g1.ex) r1 q1 fun z d3 H2 M2 g2 r2 q2 => ?_
    exact en.nx _ M2 _ H2 ⟨g2.sat, ((r.go (g1.trans g2)).env.set i r2)⟩ (g1.trans g2) q2
  · exact h.elim
end
end L3
namespace L3
open PySem L2
section
variable {X : Cx} {E : XK} {e a b c : Expr} {es : List Expr} {t ta tb tc te : TE} {w wa wb wc we : WE} {pos : Pos} {k : Nat} {tr : TA} {wr : WA} {st : Stmt} {rest : List Stmt} {ts tu : TS} {ws wu : WS} {tA : TT} {wA : WT} {tg : TG} {wg : WG} {tgt : Expr}
/-! ### what is walked -/
/-- the iterator yields the data ds, one by one, as long as Ok holds of the store -/
def Walks3 (K : PySem.W.Frag) (Z : Hp) (H : Hp) (M : Mp) (J : It) (ds : List D) (Ok : Mp → Prop) : Prop := ∀ (Z2 H2 : Hp) (M2 : Mp), Sat K Z2 H2 M2 → Same (fz Z H M) (fz Z2 H2 M2) → Ok M2 →
  (∀ (i : Nat) (d : D), ds[i]? = some d → J.go i H2 ∧ ∀ x H3, J.yld i H2 x H3 → Go K Z2 H2 M2 H3 M2 ∧ Rep K (fz Z2 H3 M2) x d) ∧ ∀ i, ds.length ≤ i → J.stop i H2
abbrev WI := En → Mp → (List D → (Mp → Prop) → Mp → Prop) → Prop
def SimI (K : PySem.W.Frag) (t : TI) (w : WI) : Prop := ∀ (Z : Hp) (ρ : En) (M : Mp) (σ : L2.St) (H : Hp) (R : List D → (Mp → Prop) → Mp → Prop) (R' : It → Hp → Prop), R3 K Z ρ M σ H → w ρ M R → (∀ J ds Ok H' M', Go K Z H M H' M' → Walks3 K Z H' M' J ds Ok → R ds Ok M' → R' J H') → t σ H R'
structure DI (X : Cx) (tgt e : Expr) (t : TI) (w : WI) : Prop where
  pe : PI X tgt e t
  sm : SimI X.K t w
def AnyM : Mp → Prop := fun _ => True
/-- a list, a tuple -/
def iSeq (K : PySem.W.Frag) (tl : TE) : TI := fun σ H R => tl σ H fun x J => ∃ p, x = .ref p ∧ (((∃ xs, SqL K J p xs) ∧ R (Itl K p) J) ∨ ((∃ xs, SqT K J p xs) ∧ R (Itt K p) J))
theorem pi_seq {l : Expr} {tl : TE} (hl : PE X l tl) : PI X tgt l (iSeq X.K tl) := by
  constructor
  intro pins s σ H R I h
  refine thn (hl.run pins s σ H _ I h) fun v s1 ⟨x, H1, I1, r1, p, e, q1⟩ => ?_
  subst e
  cases r1
  rcases q1 with ⟨⟨xs, hq⟩, q⟩ | ⟨⟨xs, hq⟩, q⟩
  · obtain ⟨its, rv, pl, hz⟩ := I1.list hq
    refine wpAny_pyIter_list pl.isList ?_
    refine ⟨s1.heap.objs.size, [s1.heap.objs.size], _, _, H1, rfl, I1.kept (t' := s1.toks) fun b o e => Heap.get?_push_of_some _ e, turn_list p _, ⟨_, Heap.get?_push_size _ rfl, rfl, rfl⟩, fun b hb => ?_, q⟩
    obtain rfl : b = s1.heap.objs.size := by simpa using hb
    exact I1.fpOk (Nat.le_refl _) (I1.hok.fresh (Nat.le_refl _))
  · obtain ⟨its, rv, pl, hz⟩ := I1.tuple hq
    refine wpAny_pyIter_tuple (show s1.heap.IsTuple p its.toArray from pl) ?_
    refine ⟨s1.heap.objs.size, [s1.heap.objs.size], _, _, H1, rfl, I1.kept (t' := s1.toks) fun b o e => Heap.get?_push_of_some _ e, turn_tuple p _, ⟨_, Heap.get?_push_size _ rfl, rfl, rfl⟩, fun b hb => ?_, q⟩
    obtain rfl : b = s1.heap.objs.size := by simpa using hb
    exact I1.fpOk (Nat.le_refl _) (I1.hok.fresh (Nat.le_refl _))
def wiSeq (w : WE) : WI := fun ρ M R => w ρ M fun d M1 => match d with
  | .tup ds => R ds AnyM M1
  | .lst ds => R ds AnyM M1
  | .tok p => ∃ ds, M1 p = some (.lst ds) ∧ R ds (fun M2 => M2 p = some (.lst ds)) M1
  | _ => False
theorem walks_l {K : PySem.W.Frag} {Z H : Hp} {M : Mp} {p : Addr} {vs : List V} {ds : List D} (h : SqL K (fz Z H M) p vs) (r : RepL K (fz Z H M) vs ds) : Walks3 K Z H M (Itl K p) ds AnyM := by
  intro Z2 H2 M2 S ex _
  have hq : SqL K H2 p vs := (ex.trans fz_sub).seq h
  refine ⟨fun i d e => ?_, fun i hi => ⟨vs, hq, by rw [r.len]; exact hi⟩⟩
  obtain ⟨v, e1, rp⟩ := r.get e
  refine ⟨⟨vs, v, hq, e1⟩, fun x H3 ⟨e2, y⟩ => ?_⟩
  subst e2
  obtain rfl : x = v := Option.some.inj ((y vs hq).symm.trans e1)
  exact ⟨Go.refl S, rp.up ex⟩
theorem walks_t {K : PySem.W.Frag} {Z H : Hp} {M : Mp} {p : Addr} {vs : List V} {ds : List D} (h : SqT K (fz Z H M) p vs) (r : RepL K (fz Z H M) vs ds) : Walks3 K Z H M (Itt K p) ds AnyM := by
  intro Z2 H2 M2 S ex _
  have hq : SqT K H2 p vs := sqt_mono (ex.trans fz_sub) h
  refine ⟨fun i d e => ?_, fun i hi => ⟨vs, hq, by rw [r.len]; exact hi⟩⟩
  obtain ⟨v, e1, rp⟩ := r.get e
  refine ⟨⟨vs, v, hq, e1⟩, fun x H3 ⟨e2, y⟩ => ?_⟩
  subst e2
  obtain rfl : x = v := Option.some.inj ((y vs hq).symm.trans e1)
  exact ⟨Go.refl S, rp.up ex⟩
theorem walks_m {K : PySem.W.Frag} {Z H : Hp} {M : Mp} {p : Addr} {ds : List D} : Walks3 K Z H M (Itl K p) ds (fun M2 => M2 p = some (.lst ds)) := by
  intro Z2 H2 M2 S ex ok
  obtain ⟨vs, e0, r⟩ := S.cell p _ ok
  have hq : SqL K H2 p vs := .inl (.inl e0)
  refine ⟨fun i d e => ?_, fun i hi => ⟨vs, hq, by rw [r.len]; exact hi⟩⟩
  obtain ⟨v, e1, rp⟩ := r.get e
  refine ⟨⟨vs, v, hq, e1⟩, fun x H3 ⟨e2, y⟩ => ?_⟩
  subst e2
  have e3 := y vs hq
  obtain rfl : x = v := Option.some.inj (e3.symm.trans e1)
  exact ⟨Go.refl S, rp⟩
theorem di_seq (h : DE X e te we) : DI X tgt e (iSeq X.K te) (wiSeq we) := by
  refine ⟨pi_seq h.pe, fun Z ρ M σ H R R' s hw q => ?_⟩
  refine h.sm Z ρ M σ H _ _ s hw fun x d H1 M1 g1 r1 q1 => ?_
  cases d with
  | tup ds =>
    cases r1 with
    | tup hs rl => exact ⟨_, rfl, .inr ⟨⟨_, sqt_mono fz_sub hs⟩, q _ _ _ H1 M1 g1 (walks_t hs rl) q1⟩⟩
  | lst ds =>
    cases r1 with
    | lst hs rl => exact ⟨_, rfl, .inl ⟨⟨_, fz_sub.seq hs⟩, q _ _ _ H1 M1 g1 (walks_l hs rl) q1⟩⟩
  | tok p =>
    cases r1
    obtain ⟨ds, hm, z⟩ := q1
    obtain ⟨vs, e1, rl⟩ := g1.sat.cell p _ hm
    exact ⟨_, rfl, .inl ⟨⟨vs, .inl (.inl e1)⟩, q _ _ _ H1 M1 g1 walks_m z⟩⟩
  | _ => exact q1.elim
/-- range(n), range(a, b) -/
def intsD (lo : Int) (n : Nat) : List D := (List.range n).map fun (i : Nat) => D.int (lo + (i : Int))
theorem walks_r {K : PySem.W.Frag} {Z H : Hp} {M : Mp} (lo : Int) (n : Nat) : Walks3 K Z H M (Itr lo n) (intsD lo n) AnyM := by
  intro Z2 H2 M2 S ex _
  refine ⟨fun i d e => ?_, fun i hi => ?_⟩
  · have hi : i < n := by
      have z := (List.getElem?_eq_some_iff.mp e).1
      unfold intsD at z
      rw [List.length_map, List.length_range] at z
      exact z
    have ed : d = .int (lo + (i : Int)) := by
      unfold intsD at e
      rw [List.getElem?_map, List.getElem?_range hi] at e
      exact (Option.some.inj e).symm
    subst ed
    refine ⟨hi, fun x H3 ⟨e1, e2⟩ => ?_⟩
    subst e1
    subst e2
    exact ⟨Go.refl S, .int _⟩
  · unfold intsD at hi
    rw [List.length_map, List.length_range] at hi
    exact hi
def wiRange1 (w : WA) : WI := fun ρ M R => w ρ M fun ds M1 => match ds with
  | [.int j] => j < 2 ^ 62 ∧ -(2 ^ 62) ≤ j ∧ R (intsD 0 j.toNat) AnyM M1
  | _ => False
theorem di_range1 {p : Pos} (hm : X.mg "range" = none) (ha : DA X [a] tr wr) (hg : Gl X "range" := by rfl) (hs : starEach [a] X.env = [(false, eval a X.env)] := by rfl) : DI X tgt (.Call (.Name "range" p) [a] [] pos) (iRng1 tr) (wiRange1 wr) := by
  refine ⟨pi_range1 hg hm ha.pe hs, fun Z ρ M σ H R R' s hw q => ?_⟩
  refine ha.sm Z ρ M σ H _ _ s hw fun xs ds H1 M1 g1 r1 q1 => ?_
  unfold wiRange1 at hw
  split at q1
  · cases r1 with
    | cons r1 r2 =>
      cases r1
      cases r2
      exact ⟨_, rfl, q1.2.1, q1.1, q _ _ _ H1 M1 g1 (walks_r _ _) q1.2.2⟩
  · exact q1.elim
def wiRange2 (w : WA) : WI := fun ρ M R => w ρ M fun ds M1 => match ds with
  | [.int i, .int j] => (-(2 ^ 62) ≤ i ∧ i < 2 ^ 62 ∧ -(2 ^ 62) ≤ j ∧ j < 2 ^ 62) ∧ R (intsD i (j - i).toNat) AnyM M1
  | _ => False
theorem di_range2 {p : Pos} (hm : X.mg "range" = none) (ha : DA X [a, b] tr wr) (hg : Gl X "range" := by rfl) (hs : starEach [a, b] X.env = [(false, eval a X.env), (false, eval b X.env)] := by rfl) (hs2 : starEach [b] X.env = [(false, eval b X.env)] := by rfl) : DI X tgt (.Call (.Name "range" p) [a, b] [] pos) (iRng2 tr) (wiRange2 wr) := by
  refine ⟨pi_range2 hg hm ha.pe hs hs2, fun Z ρ M σ H R R' s hw q => ?_⟩
  refine ha.sm Z ρ M σ H _ _ s hw fun xs ds H1 M1 g1 r1 q1 => ?_
  split at q1
  · cases r1 with
    | cons r1 r2 =>
      cases r1
      cases r2 with
      | cons r2 r3 =>
        cases r2
        cases r3
        exact ⟨_, _, rfl, q1.1, q _ _ _ H1 M1 g1 (walks_r _ _) q1.2⟩
  · exact q1.elim
/-- a text, sign by sign -/
def signs (x : Str) : List D := x.cps.toList.map fun c => D.str ⟨#[c]⟩
def wiStr (w : WE) : WI := fun ρ M R => w ρ M fun d M1 => match d with
  | .str x => R (signs x) AnyM M1
  | _ => False
theorem walks_s {K : PySem.W.Frag} {Z H : Hp} {M : Mp} (x : Str) : Walks3 K Z H M (Its x) (signs x) AnyM := by
  intro Z2 H2 M2 S ex _
  refine ⟨fun i d e => ?_, fun i hi => ?_⟩
  · unfold signs at e
    rw [List.getElem?_map] at e
    cases q : x.cps.toList[i]? with
    | none =>
      rw [q] at e
      cases e
    | some c =>
      rw [q] at e
      obtain rfl : D.str ⟨#[c]⟩ = d := Option.some.inj e
      have hi : i < x.cps.size := by
        have z := (List.getElem?_eq_some_iff.mp q).1
        rw [Array.length_toList] at z
        exact z
      refine ⟨hi, fun y H3 ⟨e1, c', hc, e2⟩ => ?_⟩
      subst e1
      subst e2
      have e3 : x.cps[i]? = some c := by
        rw [← Array.getElem?_toList]
        exact q
      rw [e3] at hc
      cases hc
      exact ⟨Go.refl S, .str _⟩
  · unfold signs at hi
    rw [List.length_map, Array.length_toList] at hi
    exact hi
theorem di_str (h : DE X e te we) : DI X tgt e (iStr te) (wiStr we) := by
  refine ⟨pi_str h.pe, fun Z ρ M σ H R R' s hw q => ?_⟩
  refine h.sm Z ρ M σ H _ _ s hw fun x d H1 M1 g1 r1 q1 => ?_
  cases d with
  | str y =>
    cases r1
    exact ⟨y, rfl, q _ _ _ H1 M1 g1 (walks_s y) q1⟩
  | _ => exact q1.elim

/-! ### for -/
def wLoop (g : WG) (wb : WS) (Ok : Mp → Prop) (D3 : Ends3) : List D → En → Mp → Prop
  | [], ρ, M => Ok M ∧ D3.nx ρ M
  | d :: ds, ρ, M => Ok M ∧ g d ρ M fun ρ1 M1 => wb { D3 with nx := wLoop g wb Ok D3 ds, ct := wLoop g wb Ok D3 ds, bk := D3.nx } ρ1 M1
def wFor (wi : WI) (g : WG) (wb : WS) : WS := fun D3 ρ M => wi ρ M fun ds Ok M1 => wLoop g wb Ok D3 ds ρ M1
theorem sim_for {ti : TI} {wi : WI} (K : PySem.W.Frag) (hi : SimI K ti wi) (hg : SimG K tg wg) (hb : SimS K E ts ws) : SimS K E (tFor ti tg ts) (wFor wi wg ws) := by
  intro Z D3 ρ M σ H D r h en
  refine hi Z ρ M σ H _ _ r h fun J ds Ok H1 M1 g1 wk q1 => ?_
  refine ⟨fun i m σ' H' => m + i = ds.length ∧ ∃ ρ' M', R3 K Z ρ' M' σ' H' ∧ Go K Z H1 M1 H' M' ∧ wLoop wg ws Ok D3 (ds.drop i) ρ' M', ⟨ds.length, rfl, ρ, M1, r.go g1, Go.refl g1.sat, q1⟩, fun i m σ' H' ⟨em, ρ', M', r', g', l⟩ => ?_⟩
  by_cases hlt : i < ds.length
  · have e : ds.drop i = ds[i] :: ds.drop (i + 1) := List.drop_eq_getElem_cons hlt
    rw [e] at l
    obtain ⟨ok, l⟩ := l
    obtain ⟨go, yl⟩ := (wk Z H' M' g'.sat g'.ex ok).1 i ds[i] (List.getElem?_eq_getElem hlt)
    refine .inr ⟨go, fun σ2 H2 => ∃ ρ2 M2, R3 K Z ρ2 M2 σ2 H2 ∧ Go K Z H1 M1 H2 M2 ∧ wLoop wg ws Ok D3 (ds.drop (i + 1)) ρ2 M2, fun σ2 H2 ⟨ρ2, M2, r2, g2, l2⟩ => ⟨m - 1, by omega, by omega, ρ2, M2, r2, g2, l2⟩, fun x H3 hy => ?_⟩
    obtain ⟨g3, rp⟩ := yl x H3 hy
    refine hg Z x _ ρ' M' σ' H3 _ _ (r'.go g3) rp l fun ρ4 M4 σ4 H4 r4 g4 z => ?_
    have g14 := (g'.trans g3).trans g4
    refine hb Z _ ρ4 M4 σ4 H4 _ r4 z ⟨fun ρ5 M5 σ5 H5 r5 g5 z5 => ⟨ρ5, M5, r5, g14.trans g5, z5⟩, fun v d H5 M5 g5 rp5 z5 => en.rt v d H5 M5 ((g1.trans g14).trans g5) rp5 z5,
      fun ρ5 M5 σ5 H5 r5 g5 z5 => en.nx ρ5 M5 σ5 H5 r5 ((g1.trans g14).trans g5) z5, fun ρ5 M5 σ5 H5 r5 g5 z5 => ⟨ρ5, M5, r5, g14.trans g5, z5⟩, fun C dx fv fs H5 M5 g5 e5 rf5 z5 => en.xr C dx fv fs H5 M5 ((g1.trans g14).trans g5) e5 rf5 z5⟩
  · have e : ds.drop i = [] := List.drop_eq_nil_of_le (by omega)
    rw [e] at l
    exact .inl ⟨(wk Z H' M' g'.sat g'.ex l.1).2 i (by omega), en.nx ρ' M' σ' H' r' (g1.trans g') l.2⟩
theorem ds_for {ti : TI} {wi : WI} {body : List Stmt} (hp : PassesOwn (model X.prog X.w) X.A X.env X.xe) (hc : X.calm = true) (hi : DI X tgt e ti wi) (hg : DG X tgt tg wg) (hb : DSs X E body ts ws) (hs : ∀ x, foldedSetIterable e X.env x = pure x := by intro _; rfl) :
    DS X E (.For tgt e body [] pos) (tFor ti tg ts) (wFor wi wg ws) := ⟨ps_for hp hc hi.pe hg.pe hb.pe hs, sim_for X.K hi.sm hg.sm hb.sm⟩

/-! ### while -/
def wWhile (c : WT) (wb : WS) : WS := fun D3 ρ M => ∃ W : Nat → En → Mp → Prop, (∃ m, W m ρ M) ∧ ∀ m ρ M, W m ρ M →
  c ρ M fun b M1 => if b = true then wb { D3 with nx := fun ρ' M' => ∃ m', m' < m ∧ W m' ρ' M', ct := fun ρ' M' => ∃ m', m' < m ∧ W m' ρ' M', bk := D3.nx } ρ M1 else D3.nx ρ M1
theorem ds_while {body : List Stmt} {c : Expr} (hp : PassesOwn (model X.prog X.w) X.A X.env X.xe) (hc : DT X c tA wA) (hb : DSs X E body ts ws) : DS X E (.While c body [] pos) (tWhile tA ts) (wWhile wA ws) := by
  refine ⟨ps_while hp hc.pe hb.pe, fun Z D3 ρ M σ H D r h en => ?_⟩
  obtain ⟨W, ⟨m0, w0⟩, turn⟩ := h
  refine ⟨fun m σ' H' => ∃ ρ' M', R3 X.K Z ρ' M' σ' H' ∧ Go X.K Z H M H' M' ∧ W m ρ' M', ⟨m0, ρ, M, r, r.refl, w0⟩, fun m σ' H' ⟨ρ', M', r', g', w'⟩ => ?_⟩
  refine hc.sm Z ρ' M' σ' H' _ _ r' (turn m ρ' M' w') fun b H1 M1 g1 z => ?_
  cases b with
  | true =>
    rw [if_pos rfl] at z ⊢
    refine ⟨fun σ2 H2 => ∃ m', m' < m ∧ ∃ ρ2 M2, R3 X.K Z ρ2 M2 σ2 H2 ∧ Go X.K Z H M H2 M2 ∧ W m' ρ2 M2, fun _ _ z2 => z2, ?_⟩
    have g := g'.trans g1
    exact hb.sm Z _ ρ' M1 σ' H1 _ (r'.go g1) z ⟨fun ρ5 M5 σ5 H5 r5 g5 ⟨m', l, z5⟩ => ⟨m', l, ρ5, M5, r5, g.trans g5, z5⟩, fun v d H5 M5 g5 rp5 z5 => en.rt v d H5 M5 (g.trans g5) rp5 z5,
      fun ρ5 M5 σ5 H5 r5 g5 z5 => en.nx ρ5 M5 σ5 H5 r5 (g.trans g5) z5, fun ρ5 M5 σ5 H5 r5 g5 ⟨m', l, z5⟩ => ⟨m', l, ρ5, M5, r5, g.trans g5, z5⟩, fun C dx fv fs H5 M5 g5 e5 rf5 z5 => en.xr C dx fv fs H5 M5 (g.trans g5) e5 rf5 z5⟩
  | false =>
    rw [if_neg Bool.false_ne_true] at z ⊢
    exact en.nx ρ' M1 σ' H1 (r'.go g1) (g'.trans g1) z
end
end L3
namespace L3
open PySem L2
section
variable {X : Cx} {E : XK} {e a b c elt iter tgt : Expr} {es ifs : List Expr} {t ta tb tc te : TE} {w wa wb wc we : WE} {pos : Pos} {k : Nat} {tr : TA} {wr : WA} {tt : TT} {wt : WT} {tg : TG} {wg : WG} {ti : TI} {wi : WI}
/-! ### comprehensions -/
def wipeE (ρ : En) : List Nat → En
  | [] => ρ
  | v :: vs => (wipeE ρ vs).set v none
theorem wipe_rel {K : PySem.W.Frag} {H : Hp} {σ : L2.St} {ρ : En} (r : RelS K H σ ρ) : ∀ vs : List Nat, RelS K H (wipe σ vs) (wipeE ρ vs)
  | [] => r
  | v :: vs => by
    have ih := wipe_rel r vs
    refine ⟨by show ((wipe σ vs).set v none).length = ((wipeE ρ vs).set v none).length; rw [List.length_set, List.length_set]; exact ih.1, fun i d q => ?_⟩
    have q' : ((wipeE ρ vs).set v none)[i]? = some (some d) := q
    by_cases hi : v = i
    · subst hi
      rw [List.getElem?_set_self'] at q'
      cases z : (wipeE ρ vs)[v]? with
      | none =>
        rw [z] at q'
        cases q'
      | some o =>
        rw [z] at q'
        cases q'
    · rw [List.getElem?_set_ne hi] at q'
      obtain ⟨u, h1, h2⟩ := ih.2 i d q'
      exact ⟨u, by show ((wipe σ vs).set v none)[i]? = _; rw [List.getElem?_set_ne hi]; exact h1, h2⟩
theorem wipe_set {σ : L2.St} {j : Nat} {o : Option V} : ∀ {vs : List Nat}, j ∈ vs → wipe (σ.set j o) vs = wipe σ vs
  | v :: vs, h => by
    show (wipe (σ.set j o) vs).set v none = (wipe σ vs).set v none
    by_cases hm : j ∈ vs
    · rw [wipe_set hm]
    · have hj : j = v := (List.mem_cons.mp h).resolve_right hm
      subst hj
      have cm : ∀ (us : List Nat), wipe (σ.set j o) us = wipe σ us ∨ wipe (σ.set j o) us = (wipe σ us).set j o := fun us => by
        induction us with
        | nil => exact .inr rfl
        | cons u us ih =>
          rcases ih with h1 | h1
          · left
            show (wipe (σ.set j o) us).set u none = (wipe σ us).set u none
            rw [h1]
          · by_cases hu : u = j
            · subst hu
              left
              show (wipe (σ.set u o) us).set u none = (wipe σ us).set u none
              rw [h1, List.set_set]
            · right
              show (wipe (σ.set j o) us).set u none = ((wipe σ us).set u none).set j o
              rw [h1, List.set_comm _ _ (Ne.symm hu)]
      rcases cm vs with h1 | h1
      · rw [h1]
      · rw [h1, List.set_set]
/-- the target stores into the block's own slots alone -/
def KeepG (vs : List Nat) (tg : TG) : Prop := ∀ (v : V) (σ0 σ : L2.St) (H : Hp) (Q : L2.St → Hp → Prop), wipe σ vs = σ0 → tg v σ H Q → tg v σ H fun σ2 H2 => wipe σ2 vs = σ0 ∧ Q σ2 H2
def KeepGs (vs : List Nat) (tg : TGs) : Prop := ∀ (v : List V) (σ0 σ : L2.St) (H : Hp) (Q : L2.St → Hp → Prop), wipe σ vs = σ0 → tg v σ H Q → tg v σ H fun σ2 H2 => wipe σ2 vs = σ0 ∧ Q σ2 H2
theorem keep_name {vs : List Nat} {j : Nat} (h : j ∈ vs := by decide) : KeepG vs (gName j) := fun v σ0 σ H Q e q => ⟨by rw [wipe_set h]; exact e, q⟩
theorem keep_nil {vs : List Nat} : KeepGs vs gNil := fun v σ0 σ H Q e q => ⟨q.1, e, q.2⟩
theorem keep_cons {vs : List Nat} {t : TG} {u : TGs} (h1 : KeepG vs t) (h2 : KeepGs vs u) (mono : ∀ v σ H (Q Q' : L2.St → Hp → Prop), (∀ s J, Q s J → Q' s J) → t v σ H Q → t v σ H Q') : KeepGs vs (gCons t u) := fun v σ0 σ H Q e q => by
  obtain ⟨x, r, e1, q⟩ := q
  refine ⟨x, r, e1, ?_⟩
  exact mono x σ H _ _ (fun s J z => h2 r σ0 s J Q z.1 z.2) (h1 x σ0 σ H _ e q)
theorem mono_name {j : Nat} : ∀ v σ H (Q Q' : L2.St → Hp → Prop), (∀ s J, Q s J → Q' s J) → gName j v σ H Q → gName j v σ H Q' := fun _ _ _ _ _ h q => h _ _ q
theorem keep_tup {vs : List Nat} {K : PySem.W.Frag} {n : Nat} {u : TGs} (h : KeepGs vs u) : KeepG vs (gTup K n u) := fun v σ0 σ H Q e q => by
  obtain ⟨p, xs, e1, h1, h2, q⟩ := q
  exact ⟨p, xs, e1, h1, h2, h xs σ0 σ H Q e q⟩
structure DTs (X : Cx) (ifs : List Expr) (t : TT) (w : WT) : Prop where
  pe : PTs X ifs t
  sm : SimT X.K t w
def wYes : WT := fun _ M Q => Q true M
theorem dts_nil : DTs X [] tYes wYes := ⟨pts_nil, fun Z ρ M σ H Q Q' s h q => q true H M s.refl h⟩
theorem dts_one (h : DT X e tt wt) : DTs X [e] tt wt := ⟨pts_one h.pe, h.sm⟩
def wLcL (g : WG) (wt : WT) (we : WE) (Ok : Mp → Prop) (ρ : En) : List D → List D → Mp → KD → Prop
  | [], acc, M, Q => Ok M ∧ Q (.lst acc) M
  | d :: ds, acc, M, Q => Ok M ∧ acc.length < sizeLine ∧ g d ρ M fun ρ1 M1 => wt ρ1 M1 fun b M2 => if b = true then we ρ1 M2 fun y M3 => wLcL g wt we Ok ρ ds (acc ++ [y]) M3 Q else wLcL g wt we Ok ρ ds acc M2 Q
def wLc (wi : WI) (g : WG) (wt : WT) (we : WE) (vs : List Nat) : WE := fun ρ M Q => wi ρ M fun ds Ok M1 => wLcL g wt we Ok (wipeE ρ vs) ds [] M1 Q
theorem sim_lc {K : PySem.W.Frag} {vs : List Nat} (hi : SimI K ti wi) (hg : SimG K tg wg) (ht : SimT K tt wt) (he : SimE K te we) (kp : KeepG vs tg) : SimE K (tLc ti tg tt te vs) (wLc wi wg wt we vs) := by
  intro Z ρ M σ H Q Q' r h q
  refine hi Z ρ M σ H _ _ r h fun J ds Ok H1 M1 g1 wk q1 => ?_
  intro D hD
  have m1 := g1.sat.free hD
  have z1 := g1.sat.freeZ hD
  have f1 : fz Z H1 M1 D = none := by
    rw [fz_none m1 z1]
    exact hD
  have s0 := Sat.swap (Z' := upd Z D (.lst [])) (H' := upd H1 D (.lst [])) g1.sat m1 f1 (fun b hb => upd_ne hb) (fun b hb => upd_ne hb) (fun o e => by rw [upd_same] at e ⊢; exact e)
  refine ⟨fun i m H' => m + i = ds.length ∧ ∃ (acc : List L3.D) (va : List V) (M' : Mp), Sat K (upd Z D (.lst va)) H' M' ∧ Same (fz Z H1 M1) (fz (upd Z D (.lst va)) H' M') ∧ RepL K (fz (upd Z D (.lst va)) H' M') va acc ∧ wLcL wg wt we Ok (wipeE ρ vs) (ds.drop i) acc M' Q,
    ⟨ds.length, rfl, [], [], M1, s0.1, s0.2, .nil, q1⟩, fun i m H' ⟨em, acc, va, M', S, ex, ra, l⟩ => ?_⟩
  have zd : upd Z D (.lst va) D = some (.lst va) := upd_same
  by_cases hlt : i < ds.length
  · have e : ds.drop i = ds[i] :: ds.drop (i + 1) := List.drop_eq_getElem_cons hlt
    rw [e] at l
    obtain ⟨ok, hacc, l⟩ := l
    obtain ⟨go, yl⟩ := (wk _ H' M' S ex ok).1 i ds[i] (List.getElem?_eq_getElem hlt)
    refine .inr ⟨go, fun H2 => ∃ (acc : List L3.D) (va : List V) (M' : Mp), Sat K (upd Z D (.lst va)) H2 M' ∧ Same (fz Z H1 M1) (fz (upd Z D (.lst va)) H2 M') ∧ RepL K (fz (upd Z D (.lst va)) H2 M') va acc ∧ wLcL wg wt we Ok (wipeE ρ vs) (ds.drop (i + 1)) acc M' Q,
      fun H2 z => ⟨m - 1, by omega, by omega, z⟩, fun x H3 hy => ?_⟩
    obtain ⟨g3, rp⟩ := yl x H3 hy
    have r3 : R3 K (upd Z D (.lst va)) (wipeE ρ vs) M' (wipe σ vs) H3 := ⟨g3.sat, (wipe_rel (r.env.up g1.ex) vs).up (ex.trans g3.ex)⟩
    have ww : wipe (wipe σ vs) vs = wipe σ vs := by
      have idem : ∀ us : List Nat, (∀ u ∈ us, u ∈ vs) → wipe (wipe σ us) vs = wipe σ vs := fun us => by
        induction us with
        | nil => intro _; rfl
        | cons u us ih =>
          intro hu
          show wipe ((wipe σ us).set u none) vs = _
          rw [wipe_set (hu u List.mem_cons_self)]
          exact ih fun y hy => hu y (List.mem_cons_of_mem _ hy)
      exact idem vs fun u hu => hu
    refine kp x _ _ H3 _ ww ?_
    refine hg _ x _ _ M' _ H3 _ _ r3 rp l fun ρ4 M4 σ4 H4 r4 g4 z => ?_
    refine ht _ ρ4 M4 σ4 H4 _ _ r4 z fun b H5 M5 g5 z5 => ?_
    have g35 := (g3.trans g4).trans g5
    cases b with
    | true =>
      rw [if_pos rfl] at z5 ⊢
      refine he _ ρ4 M5 σ4 H5 _ _ (r4.go g5) z5 fun y d H6 M6 g6 r6 z6 => ?_
      have g36 := g35.trans g6
      have h6 := g36.sat.zed D _ zd
      refine ⟨va, h6.1, by rw [ra.len]; exact hacc, ?_⟩
      have s6 := Sat.swap (Z' := upd Z D (.lst (va ++ [y]))) (H' := upd H6 D (.lst (va ++ [y]))) g36.sat h6.2 (fz_hid zd) (fun b hb => upd_ne hb) (fun b hb => by rw [upd_ne hb, upd_ne hb]) (fun o e => by rw [upd_same] at e ⊢; exact e)
      exact ⟨acc ++ [d], va ++ [y], M6, s6.1, (ex.trans g36.ex).trans s6.2, ((ra.up g36.ex).up s6.2).app (.cons (r6.up s6.2) .nil), z6⟩
    | false =>
      rw [if_neg Bool.false_ne_true] at z5 ⊢
      exact ⟨acc, va, M5, g35.sat, ex.trans g35.ex, ra.up g35.ex, z5⟩
  · have e : ds.drop i = [] := List.drop_eq_nil_of_le (by omega)
    rw [e] at l
    have hd := S.zed D _ zd
    have s2 := Sat.swap (Z' := Z) (H' := H') S hd.2 (fz_hid zd) (fun b hb => rfl) (fun b hb => by rw [upd_ne hb]) (fun o e => by rw [z1] at e; cases e)
    refine .inl ⟨(wk _ H' M' S ex l.1).2 i (by omega), ?_⟩
    exact q _ _ H' M' ⟨s2.1, (g1.ex.trans ex).trans s2.2⟩ (.lst (.inl (.inl (fz_to hd.2 z1 hd.1))) (ra.up s2.2)) l.2
theorem de_lc0 {scope : Scope} {own : List (Str × Nat)} (hc : X.calm = true) (hN : X.N.Nodup) (hi : DI X tgt iter ti wi) (ok : BlkOk X.N X.env.scope scope own)
    (hg : ∀ (s : Shared) (H : Hp) (C : Addr) (cl : List (Str × Addr)) (fp : List Addr), DG (X.blk s H scope (compEnvC scope cl C X.env) fp) tgt tg wg) (ht : ∀ (s : Shared) (H : Hp) (C : Addr) (cl : List (Str × Addr)) (fp : List Addr), DTs (X.blk s H scope (compEnvC scope cl C X.env) fp) ifs tt wt)
    (he : ∀ (s : Shared) (H : Hp) (C : Addr) (cl : List (Str × Addr)) (fp : List Addr), DE (X.blk s H scope (compEnvC scope cl C X.env) fp) elt te we) (kp : KeepG (own.map (·.2)) tg) (hs : ∀ x, foldedSetIterable iter X.env x = pure x := by intro _; rfl) :
    DE X (.ListComp elt [⟨tgt, iter, ifs, 0⟩] scope pos) (tLc ti tg tt te (own.map (·.2))) (wLc wi wg wt we (own.map (·.2))) :=
  ⟨pe_lc hc hN hi.pe ok (fun s H C cl fp => (hg s H C cl fp).pe) (fun s H C cl fp => (ht s H C cl fp).pe) (fun s H C cl fp => (he s H C cl fp).pe) hs, sim_lc hi.sm (hg X.s_0 X.H_0 0 [] []).sm (ht X.s_0 X.H_0 0 [] []).sm (he X.s_0 X.H_0 0 [] []).sm kp⟩
/-- name = [..] on one line -/
theorem ds_setLc0 (i : Nat) {y : Str} {py : Pos} {scope : Scope} {own : List (Str × Nat)} {spos : Pos} (hc : X.calm = true) (hN : X.N.Nodup)
    (hi : DI X tgt iter ti wi) (ok : BlkOk X.N X.env.scope scope own)
    (hg : ∀ (s : Shared) (H : Hp) (C : Addr) (cl : List (Str × Addr)) (fp : List Addr), DG (X.blk s H scope (compEnvC scope cl C X.env) fp) tgt tg wg) (ht : ∀ (s : Shared) (H : Hp) (C : Addr) (cl : List (Str × Addr)) (fp : List Addr), DTs (X.blk s H scope (compEnvC scope cl C X.env) fp) ifs tt wt)
    (he : ∀ (s : Shared) (H : Hp) (C : Addr) (cl : List (Str × Addr)) (fp : List Addr), DE (X.blk s H scope (compEnvC scope cl C X.env) fp) elt te we) (kp : KeepG (own.map (·.2)) tg)
    (hsw : swapsWith (.ListComp elt [⟨tgt, iter, ifs, 0⟩] scope pos) (some (.Name y py)) spos.line X.env = pure true) (hy : X.N[i]? = some y := by rfl) (hyl : X.env.scope.names.lookup y = some .local := by rfl) (hs : ∀ x, foldedSetIterable iter X.env x = pure x := by intro _; rfl) :
    DS X E (.Assign [.Name y py] (.ListComp elt [⟨tgt, iter, ifs, 0⟩] scope pos) spos) (tAsg (tLc ti tg tt te (own.map (·.2))) (gName i)) (wAsg (wLc wi wg wt we (own.map (·.2))) (wgName i)) :=
  ⟨ps_setLc hc hN hy hyl hsw hi.pe ok (fun s H C cl fp => (hg s H C cl fp).pe) (fun s H C cl fp => (ht s H C cl fp).pe) (fun s H C cl fp => (he s H C cl fp).pe) hs, sim_asg (sim_lc hi.sm (hg X.s_0 X.H_0 0 [] []).sm (ht X.s_0 X.H_0 0 [] []).sm (he X.s_0 X.H_0 0 [] []).sm kp) (sim_gname i)⟩

section
variable {scope : Scope} {own : List (Str × Nat)} {gF : Shared → Hp → Addr → List (Str × Addr) → List Addr → TG} {tF : Shared → Hp → Addr → List (Str × Addr) → List Addr → TT} {eF : Shared → Hp → Addr → List (Str × Addr) → List Addr → TE}
theorem de_lc (hc : X.calm = true) (hN : X.N.Nodup) (hi : DI X tgt iter ti wi) (ok : BlkOk X.N X.env.scope scope own)
    (hg : ∀ (s : Shared) (H : Hp) (C : Addr) (cl : List (Str × Addr)) (fp : List Addr), DG (X.blk s H scope (compEnvC scope cl C X.env) fp) tgt (gF s H C cl fp) wg) (ht : ∀ (s : Shared) (H : Hp) (C : Addr) (cl : List (Str × Addr)) (fp : List Addr), DTs (X.blk s H scope (compEnvC scope cl C X.env) fp) ifs (tF s H C cl fp) wt)
    (he : ∀ (s : Shared) (H : Hp) (C : Addr) (cl : List (Str × Addr)) (fp : List Addr), DE (X.blk s H scope (compEnvC scope cl C X.env) fp) elt (eF s H C cl fp) we) (kp : KeepG (own.map (·.2)) (gF X.s_0 X.H_0 0 [] [])) (hs : ∀ x, foldedSetIterable iter X.env x = pure x := by intro _; rfl)
    (qg : ∀ s H C cl fp, gF s H C cl fp = gF X.s_0 X.H_0 0 [] [] := by intros; rfl) (qt : ∀ s H C cl fp, tF s H C cl fp = tF X.s_0 X.H_0 0 [] [] := by intros; rfl) (qe : ∀ s H C cl fp, eF s H C cl fp = eF X.s_0 X.H_0 0 [] [] := by intros; rfl) :
    DE X (.ListComp elt [⟨tgt, iter, ifs, 0⟩] scope pos) (tLc ti (gF X.s_0 X.H_0 0 [] []) (tF X.s_0 X.H_0 0 [] []) (eF X.s_0 X.H_0 0 [] []) (own.map (·.2))) (wLc wi wg wt we (own.map (·.2))) :=
  de_lc0 hc hN hi ok (fun s H C cl fp => qg s H C cl fp ▸ hg s H C cl fp) (fun s H C cl fp => qt s H C cl fp ▸ ht s H C cl fp) (fun s H C cl fp => qe s H C cl fp ▸ he s H C cl fp) kp hs
theorem ds_setLc (i : Nat) {y : Str} {py : Pos} {spos : Pos} (hc : X.calm = true) (hN : X.N.Nodup) (hi : DI X tgt iter ti wi) (ok : BlkOk X.N X.env.scope scope own)
    (hg : ∀ (s : Shared) (H : Hp) (C : Addr) (cl : List (Str × Addr)) (fp : List Addr), DG (X.blk s H scope (compEnvC scope cl C X.env) fp) tgt (gF s H C cl fp) wg) (ht : ∀ (s : Shared) (H : Hp) (C : Addr) (cl : List (Str × Addr)) (fp : List Addr), DTs (X.blk s H scope (compEnvC scope cl C X.env) fp) ifs (tF s H C cl fp) wt)
    (he : ∀ (s : Shared) (H : Hp) (C : Addr) (cl : List (Str × Addr)) (fp : List Addr), DE (X.blk s H scope (compEnvC scope cl C X.env) fp) elt (eF s H C cl fp) we) (kp : KeepG (own.map (·.2)) (gF X.s_0 X.H_0 0 [] []))
    (hsw : swapsWith (.ListComp elt [⟨tgt, iter, ifs, 0⟩] scope pos) (some (.Name y py)) spos.line X.env = pure true) (hy : X.N[i]? = some y := by rfl) (hyl : X.env.scope.names.lookup y = some .local := by rfl) (hs : ∀ x, foldedSetIterable iter X.env x = pure x := by intro _; rfl)
    (qg : ∀ s H C cl fp, gF s H C cl fp = gF X.s_0 X.H_0 0 [] [] := by intros; rfl) (qt : ∀ s H C cl fp, tF s H C cl fp = tF X.s_0 X.H_0 0 [] [] := by intros; rfl) (qe : ∀ s H C cl fp, eF s H C cl fp = eF X.s_0 X.H_0 0 [] [] := by intros; rfl) :
    DS X E (.Assign [.Name y py] (.ListComp elt [⟨tgt, iter, ifs, 0⟩] scope pos) spos) (tAsg (tLc ti (gF X.s_0 X.H_0 0 [] []) (tF X.s_0 X.H_0 0 [] []) (eF X.s_0 X.H_0 0 [] []) (own.map (·.2))) (gName i)) (wAsg (wLc wi wg wt we (own.map (·.2))) (wgName i)) :=
  ds_setLc0 i hc hN hi ok (fun s H C cl fp => qg s H C cl fp ▸ hg s H C cl fp) (fun s H C cl fp => qt s H C cl fp ▸ ht s H C cl fp) (fun s H C cl fp => qe s H C cl fp ▸ he s H C cl fp) kp hsw hy hyl hs
end
/-! ### built-in functions -/
abbrev FC := List D → Mp → KD → Prop
def SimC (K : PySem.W.Frag) (r : List V → Hp → VK → Prop) (f : FC) : Prop := ∀ (Z : Hp) (xs : List V) (ds : List D) (H : Hp) (M : Mp) (Q : KD) (Q' : VK), Sat K Z H M → RepL K (fz Z H M) xs ds → f ds M Q → (∀ v d' H' M', Go K Z H M H' M' → Rep K (fz Z H' M') v d' → Q d' M' → Q' v H') → r xs H Q'
def wCB (f : FC) (r : WA) : WE := fun ρ M Q => r ρ M fun ds M1 => f ds M1 Q
theorem sim_CB {K : PySem.W.Frag} {r : List V → Hp → VK → Prop} {f : FC} (ha : SimA K tr wr) (hs : SimC K r f) : SimE K (tCB r tr) (wCB f wr) := by
  intro Z ρ M σ H Q Q' s h q
  refine ha Z ρ M σ H _ _ s h fun xs ds H1 M1 g1 r1 q1 => ?_
  exact hs Z xs ds H1 M1 Q Q' g1.sat r1 q1 fun v d H2 M2 g2 r2 q2 => q v d H2 M2 (g1.trans g2) r2 q2
theorem de_callB {x : Str} {p : Pos} {id : String} {r : List V → Hp → VK → Prop} {f : FC} (hc : CallR X (.builtin id) r) (hs : SimC X.K r f) (hm : X.mg x = none) (hv : bootBuiltins x = some (.builtin id)) (ha : DA X (e :: es) tr wr) (hg : Gl X x := by rfl) (hn : x ≠ "__name__" := by decide) (hdb : (x == ("__debug__" : Str)) = false := by decide)
    (he : starEach (e :: es) X.env = (false, eval e X.env) :: starEach es X.env := by rfl) (hpl : (backTo pos (starEach es X.env)).any (·.1) = false := by rfl) : DE X (.Call (.Name x p) (e :: es) [] pos) (tCB r tr) (wCB f wr) := ⟨pe_callB hc hg hm hv ha.pe hn hdb he hpl, sim_CB ha.sm hs⟩
theorem de_callTy {x : Str} {p : Pos} {T : String} {r : List V → Hp → VK → Prop} {f : FC} (hc : CallR X (.type T) r) (hs : SimC X.K r f) (hm : X.mg x = none) (hv : bootBuiltins x = some (.type T)) (ha : DA X (e :: es) tr wr) (hg : Gl X x := by rfl) (hn : x ≠ "__name__" := by decide) (hdb : (x == ("__debug__" : Str)) = false := by decide)
    (he : starEach (e :: es) X.env = (false, eval e X.env) :: starEach es X.env := by rfl) (hpl : (backTo pos (starEach es X.env)).any (·.1) = false := by rfl) : DE X (.Call (.Name x p) (e :: es) [] pos) (tCB r tr) (wCB f wr) := ⟨pe_callTy hc hg hm hv ha.pe hn hdb he hpl, sim_CB ha.sm hs⟩
/-- repr -/
def fRepr : FC := fun ds M Q => match ds with
  | [d] => (∃ n, n ≤ 60 ∧ shw n (res M d)) ∧ cost (res M d) ≤ 16000000 ∧ Q (.str (shown (res M d))) M
  | _ => False
theorem sim_repr {K : PySem.W.Frag} : SimC K (fun xs H Q => ∃ (x : V) (d : D) (n : Nat), xs = [x] ∧ Rep K H x d ∧ shw n d ∧ n ≤ 60 ∧ cost d ≤ 16000000 ∧ Q (.str (shown d)) H) fRepr := by
  intro Z xs ds H M Q Q' S r f q
  unfold fRepr at f
  split at f
  · cases r with
    | cons r1 r2 =>
      cases r2
      obtain ⟨⟨n, hn, hs⟩, hc, z⟩ := f
      exact ⟨_, _, n, rfl, res_rep S r1, hs, hn, hc, q _ _ H M (Go.refl S) (.str _) z⟩
  · exact f.elim
/-- len -/
def fLen : FC := fun ds M Q => match ds with
  | [.str x] => x.length ≤ sizeLine ∧ Q (.int (x.length : Int)) M
  | [d] => ∃ es, seqD M d = some es ∧ Q (.int (es.length : Int)) M
  | _ => False
def rLenA (K : PySem.W.Frag) : List V → Hp → VK → Prop := fun xs H Q => (∃ p ys, xs = [.ref p] ∧ (SqL K H p ys ∨ SqT K H p ys) ∧ Q (.int ys.length) H) ∨ ∃ z, xs = [.str z] ∧ z.length ≤ sizeLine ∧ Q (.int z.length) H
theorem call_lenA : CallR X (.builtin "len") (rLenA X.K) := call_len_seq.or call_len_str
theorem sim_len {K : PySem.W.Frag} : SimC K (rLenA K) fLen := by
  intro Z xs ds H M Q Q' S r f q
  unfold fLen at f
  split at f
  · cases r with
    | cons r1 r2 =>
      cases r2
      cases r1
      exact .inr ⟨_, rfl, f.1, q _ _ H M (Go.refl S) (.int _) f.2⟩
  · cases r with
    | cons r1 r2 =>
      cases r2
      obtain ⟨es, hs, z⟩ := f
      obtain ⟨p, vs, rfl, hv, rl⟩ := seq_of S r1 hs
      refine .inl ⟨p, vs, rfl, hv, q _ _ H M (Go.refl S) ?_ z⟩
      rw [rl.len]
      exact .int _
  · exact f.elim
/-- int(x) of an int, a bool -/
def fInt : FC := fun ds M Q => match ds with
  | [.int i] => Q (.int i) M
  | [.bl b] => Q (.int (if b then 1 else 0)) M
  | _ => False
theorem sim_int {K : PySem.W.Frag} : SimC K (fun xs H Q => (∃ i, xs = [.int i] ∧ Q (.int i) H) ∨ ∃ k, xs = [.bl k] ∧ Q (.int (if k then 1 else 0)) H) fInt := by
  intro Z xs ds H M Q Q' S r f q
  unfold fInt at f
  split at f
  · cases r with
    | cons r1 r2 =>
      cases r2
      cases r1
      exact .inl ⟨_, rfl, q _ _ H M (Go.refl S) (.int _) f⟩
  · cases r with
    | cons r1 r2 =>
      cases r2
      cases r1
      exact .inr ⟨_, rfl, q _ _ H M (Go.refl S) (.int _) f⟩
  · exact f.elim
def fAbs : FC := fun ds M Q => match ds with
  | [.int i] => Q (.int (if i < 0 then -i else i)) M
  | _ => False
theorem sim_abs {K : PySem.W.Frag} : SimC K (fun xs H Q => ∃ i, xs = [.int i] ∧ Q (.int (if i < 0 then -i else i)) H) fAbs := by
  intro Z xs ds H M Q Q' S r f q
  unfold fAbs at f
  split at f
  · cases r with
    | cons r1 r2 =>
      cases r2
      cases r1
      exact ⟨_, rfl, q _ _ H M (Go.refl S) (.int _) f⟩
  · exact f.elim
def f2I (g : Int → Int → Int) : FC := fun ds M Q => match ds with
  | [.int i, .int j] => Q (.int (g i j)) M
  | _ => False
theorem sim_2I {K : PySem.W.Frag} {g : Int → Int → Int} : SimC K (fun xs H Q => ∃ i j, xs = [.int i, .int j] ∧ Q (.int (g i j)) H) (f2I g) := by
  intro Z xs ds H M Q Q' S r f q
  unfold f2I at f
  split at f
  · cases r with
    | cons r1 r2 =>
      cases r2 with
      | cons r2 r3 =>
        cases r3
        cases r1
        cases r2
        exact ⟨_, _, rfl, q _ _ H M (Go.refl S) (.int _) f⟩
  · exact f.elim
/-- tuple(x), list(x) of a list or a tuple -/
def fTuple : FC := fun ds M Q => match ds with
  | [d] => ∃ es, seqD M d = some es ∧ Q (.tup es) M
  | _ => False
theorem sim_tuple {K : PySem.W.Frag} : SimC K (fun xs H Q => ∃ p ys, xs = [.ref p] ∧ ((SqL K H p ys ∧ ∀ l, H l = none → Q (.ref l) (upd H l (.tup ys))) ∨ (SqT K H p ys ∧ Q (.ref p) H))) fTuple := by
  intro Z xs ds H M Q Q' S r f q
  unfold fTuple at f
  split at f
  · cases r with
    | cons r1 r2 =>
      cases r2
      obtain ⟨es, hs, z⟩ := f
      cases hd : ‹D› with
      | tup us =>
        subst hd
        obtain rfl : us = es := Option.some.inj hs
        cases r1 with
        | tup h1 rl => exact ⟨_, _, rfl, .inr ⟨sqt_mono fz_sub h1, q _ _ H M (Go.refl S) (.tup h1 rl) z⟩⟩
      | lst us =>
        subst hd
        obtain ⟨p, vs, rfl, hv, rl⟩ := lst_of S r1 ⟨0, .inr (by obtain rfl : us = es := Option.some.inj hs; rfl)⟩ hs
        refine ⟨p, vs, rfl, .inl ⟨hv, fun l hl => ?_⟩⟩
        obtain ⟨g, n⟩ := Go.laid (o := .tup vs) S hl
        exact q _ _ _ _ g (.tup (.inl (.inl n)) (rl.up g.ex)) z
      | tok p0 =>
        subst hd
        obtain ⟨p, vs, rfl, hv, rl⟩ := lst_of S r1 ⟨p0, .inl rfl⟩ hs
        refine ⟨p, vs, rfl, .inl ⟨hv, fun l hl => ?_⟩⟩
        obtain ⟨g, n⟩ := Go.laid (o := .tup vs) S hl
        exact q _ _ _ _ g (.tup (.inl (.inl n)) (rl.up g.ex)) z
      | non => subst hd; cases hs
      | bl _ => subst hd; cases hs
      | int _ => subst hd; cases hs
      | str _ => subst hd; cases hs
      | ty _ => subst hd; cases hs
  · exact f.elim
def fList : FC := fun ds M Q => match ds with
  | [d] => ∃ es, seqD M d = some es ∧ Q (.lst es) M
  | _ => False
def rListA (K : PySem.W.Frag) : List V → Hp → VK → Prop := fun xs H Q => ∃ p ys, xs = [.ref p] ∧ (SqL K H p ys ∨ SqT K H p ys) ∧ ∀ l, H l = none → Q (.ref l) (upd H l (.lst ys))
theorem sim_list {K : PySem.W.Frag} : SimC K (rListA K) fList := by
  intro Z xs ds H M Q Q' S r f q
  unfold fList at f
  split at f
  · cases r with
    | cons r1 r2 =>
      cases r2
      obtain ⟨es, hs, z⟩ := f
      obtain ⟨p, vs, rfl, hv, rl⟩ := seq_of S r1 hs
      refine ⟨p, vs, rfl, hv, fun l hl => ?_⟩
      obtain ⟨g, n⟩ := Go.laid (o := .lst vs) S hl
      exact q _ _ _ _ g (.lst (.inl (.inl n)) (rl.up g.ex)) z
  · exact f.elim
def fListM : FC := fun ds M Q => match ds with
  | [d] => ∃ es, seqD M d = some es ∧ ∀ p, M p = none → Q (.tok p) (setM M p (.lst es))
  | _ => False
theorem sim_listM {K : PySem.W.Frag} : SimC K (rListA K) fListM := by
  intro Z xs ds H M Q Q' S r f q
  unfold fListM at f
  split at f
  · cases r with
    | cons r1 r2 =>
      cases r2
      obtain ⟨es, hs, z⟩ := f
      obtain ⟨p, vs, rfl, hv, rl⟩ := seq_of S r1 hs
      refine ⟨p, vs, rfl, hv, fun l hl => ?_⟩
      exact q _ _ _ _ (Go.putL S (.inl hl) rl) (.tok l) (z l (S.free hl))
  · exact f.elim
/-- sum, any, all of lists -/
def fSum : FC := fun ds M Q => match ds with
  | [d] => ∃ ns : List Int, (∃ a, d = .tok a ∨ d = .lst (ns.map .int)) ∧ seqD M d = some (ns.map .int) ∧ Q (.int ns.sum) M
  | _ => False
theorem sim_sum {K : PySem.W.Frag} : SimC K (rSum K) fSum := by
  intro Z xs ds H M Q Q' S r f q
  unfold fSum at f
  split at f
  · cases r with
    | cons r1 r2 =>
      cases r2
      obtain ⟨ns, hd, hs, z⟩ := f
      obtain ⟨p, vs, rfl, hv, rl⟩ := lst_of S r1 hd hs
      obtain rfl := rl.ints
      exact ⟨p, ns, rfl, hv, q _ _ H M (Go.refl S) (.int _) z⟩
  · exact f.elim
def fBls (g : List Bool → Bool) : FC := fun ds M Q => match ds with
  | [d] => ∃ ns : List Bool, (∃ a, d = .tok a ∨ d = .lst (ns.map .bl)) ∧ seqD M d = some (ns.map .bl) ∧ Q (.bl (g ns)) M
  | _ => False
theorem sim_any {K : PySem.W.Frag} : SimC K (rAny K) (fBls fun bs => bs.any id) := by
  intro Z xs ds H M Q Q' S r f q
  unfold fBls at f
  split at f
  · cases r with
    | cons r1 r2 =>
      cases r2
      obtain ⟨ns, hd, hs, z⟩ := f
      obtain ⟨p, vs, rfl, hv, rl⟩ := lst_of S r1 hd hs
      obtain rfl := rl.bls
      exact ⟨p, ns, rfl, hv, q _ _ H M (Go.refl S) (.bl _) z⟩
  · exact f.elim
theorem sim_all {K : PySem.W.Frag} : SimC K (rAll K) (fBls fun bs => bs.all id) := by
  intro Z xs ds H M Q Q' S r f q
  unfold fBls at f
  split at f
  · cases r with
    | cons r1 r2 =>
      cases r2
      obtain ⟨ns, hd, hs, z⟩ := f
      obtain ⟨p, vs, rfl, hv, rl⟩ := lst_of S r1 hd hs
      obtain rfl := rl.bls
      exact ⟨p, ns, rfl, hv, q _ _ H M (Go.refl S) (.bl _) z⟩
  · exact f.elim
/-- the greatest, the least of a list of ints -/
def fMost (le : Int → Int → Prop) : FC := fun ds M Q => match ds with
  | [d] => ∃ ns : List Int, (∃ a, d = .tok a ∨ d = .lst (ns.map .int)) ∧ seqD M d = some (ns.map .int) ∧ 0 < ns.length ∧ ∀ m, m ∈ ns → (∀ y ∈ ns, le y m) → Q (.int m) M
  | _ => False
theorem sim_max {K : PySem.W.Frag} : SimC K (rMax K) (fMost fun y m => y ≤ m) := by
  intro Z xs ds H M Q Q' S r f q
  unfold fMost at f
  split at f
  · cases r with
    | cons r1 r2 =>
      cases r2
      obtain ⟨ns, hd, hs, hl, z⟩ := f
      obtain ⟨p, vs, rfl, hv, rl⟩ := lst_of S r1 hd hs
      obtain rfl := rl.ints
      exact ⟨p, ns, rfl, hv, hl, fun m h1 h2 => q _ _ H M (Go.refl S) (.int _) (z m h1 h2)⟩
  · exact f.elim
theorem sim_min {K : PySem.W.Frag} : SimC K (rMin K) (fMost fun y m => m ≤ y) := by
  intro Z xs ds H M Q Q' S r f q
  unfold fMost at f
  split at f
  · cases r with
    | cons r1 r2 =>
      cases r2
      obtain ⟨ns, hd, hs, hl, z⟩ := f
      obtain ⟨p, vs, rfl, hv, rl⟩ := lst_of S r1 hd hs
      obtain rfl := rl.ints
      exact ⟨p, ns, rfl, hv, hl, fun m h1 h2 => q _ _ H M (Go.refl S) (.int _) (z m h1 h2)⟩
  · exact f.elim
/-- sorted of a list of ints -/
def fSorted : FC := fun ds M Q => match ds with
  | [d] => ∃ ns : List Int, (∃ a, d = .tok a ∨ d = .lst (ns.map .int)) ∧ seqD M d = some (ns.map .int) ∧ ns.length < 64 ∧ ∀ ms : List Int, ms.Perm ns → ms.Pairwise (· ≤ ·) → Q (.lst (ms.map .int)) M
  | _ => False
theorem sim_sorted {K : PySem.W.Frag} : SimC K (rSorted K) fSorted := by
  intro Z xs ds H M Q Q' S r f q
  unfold fSorted at f
  split at f
  · cases r with
    | cons r1 r2 =>
      cases r2
      obtain ⟨ns, hd, hs, hl, z⟩ := f
      obtain ⟨p, vs, rfl, hv, rl⟩ := lst_of S r1 hd hs
      obtain rfl := rl.ints
      refine ⟨p, ns, rfl, hv, hl, fun ms l h1 h2 hl => ?_⟩
      obtain ⟨g, n⟩ := Go.laid (o := .lst (ms.map V.int)) S hl
      exact q _ _ _ _ g (.lst (.inl (.inl n)) (.ofInts ms)) (z ms h1 h2)
  · exact f.elim
end
end L3
namespace L3
open PySem L2
/-! ### the law's own call -/
theorem law_g {P : Program} {w : World} {K : PySem.W.Frag} {mg mb : Str → Option Value} {k : Nat} {fa a : Addr} {fd : FuncData} {x : Str} {sp : Sp} {s1 : Shared} {vs : List Value} {ns : List Int}
    (KX : K.In s1.heap) (hns : s1.heap.Ns mainGlobals mg) (hb : s1.heap.Ns builtinsNs mb) (hbb : ∀ x : Str, x ≠ "__name__" → mb x = bootBuiltins x) (hlim : s1.heap.NoLimit) (hg : s1.gens = #[])
    (ha : s1.heap.get? a = some { cls := .type "list", data := .seq vs.toArray }) (hi : PyProof.Rows.IntsAre vs ns) (hl : ns.length ≤ sizeLine) (hr : Room k callerA)
    (F : ∀ base : Heap, K.In base → base.Ns mainGlobals mg → FnG P w K mg base k fa fd [x] sp) (hbind : ∀ (s : Shared) (u : Value), BindsTo s fd ⟨[u], []⟩ [(x, u)])
    (hsp : ∀ H : Hp, SqL K H a (ns.map V.int) → sp [.ref a] H (fun v _ => v = .bl true) fun _ _ _ => False) :
    codeAny (model P w) callerA (.call (.ref fa) ⟨[.ref a], []⟩) (fun r s' => r = .ok (.ret (.bool true)) ∧ OldK s1.heap s'.heap ∧ s'.os = s1.os ∧ PyProof.Rows.AllBare s'.gens) s1 := by
  have vals := vals_ints hi
  have hlen := hi.length
  have main : ∀ H : Hp, Only H → SqL K H a (ns.map V.int) → HOk P w H s1.heap → (∀ b, H b ≠ none → b = a) → (H a ≠ none → K.lookup a = none) →
      codeAny (model P w) callerA (.call (.ref fa) ⟨[.ref a], []⟩) (fun r s' => r = .ok (.ret (.bool true)) ∧ OldK s1.heap s'.heap ∧ s'.os = s1.os ∧ PyProof.Rows.AllBare s'.gens) s1 := by
    intro H only sq hok hA hK
    have eqa : ∀ {b : Addr} {u : HO}, H b = some u → b = a := fun {b u} q => hA b (by rw [q]; exact fun z => nomatch z)
    have free : ∀ {b : Addr} {o : Obj}, s1.heap.get? b = some o → o ≠ { cls := .type "list", data := .seq vs.toArray } → H b = none := fun {b o} e d => by
      cases q : H b with
      | none => rfl
      | some u =>
        have e' := eqa q
        subst e'
        rw [ha] at e
        exact absurd (Option.some.inj e).symm d
    have nsK : ∀ {b : Addr} {m : Str → Option Value}, s1.heap.Ns b m → (hidT s1.heap H).Ns b m := fun {b m} ⟨o, es, ep, e, d, r⟩ =>
      ⟨o, es, ep, hidT_get e (free e fun z => by rw [z] at d; exact nomatch d), d, r⟩
    have kin : K.In (hidT s1.heap H) := fun b o e => hidT_get (KX b o e) (by
      cases q : H b with
      | none => rfl
      | some u =>
        have e' := eqa q
        subst e'
        rw [hK (by rw [q]; exact fun z => nomatch z)] at e
        exact nomatch e)
    have md : Mod K mg (hidT s1.heap H) := ⟨kin, nsK hns, ⟨mb, nsK hb, hbb⟩, hlim.elim fun mc h => ⟨mc, nsK h.1, h.2⟩⟩
    have e0 : Env0 P w K mg (hidT s1.heap H) callerA [] s1 H := ⟨rfl, md, fun b o e => of_hidT e, Nat.le_of_eq (hidT_size _ _), trivial, fun b z => absurd z List.not_mem_nil, hok, .of_eq hg⟩
    refine codeAny_mono ((F _ kin (nsK hns)).run callerA [] s1 H ⟨[.ref a], []⟩ [.ref a] [.ref a] _ _ rfl hr e0 (hbind s1 (.ref a)) (.cons rfl .nil) (hsp H sq)) fun r s' h => ?_
    cases r with
    | error e =>
      obtain ⟨_, _, _, _, _, _, _, _, _, _, _, _, z⟩ := h
      exact z.elim
    | ok fl =>
      cases fl with
      | next => exact h.elim
      | brk => exact h.elim
      | cont => exact h.elim
      | ret u =>
        obtain ⟨v, H', os, bare, un, hok', rv, q⟩ := h
        subst q
        obtain rfl : u = Value.bool true := rv
        refine ⟨rfl, OldK.of_keep fun b o e => ?_, os, bare⟩
        cases q : H b with
        | none => exact un.keep b o e q List.not_mem_nil List.not_mem_nil
        | some u =>
          rcases only b with z | ⟨ob, xs, z⟩
          · rw [q] at z
            exact nomatch z
          · have e1 := (hok b _ z).1
            have e2 := (hok' b _ (un.frzs b ob _ z)).1
            rw [e] at e1
            rw [Option.some.inj e1]
            exact e2
  cases hk : K.lookup a with
  | some o =>
    have e := KX a o hk
    rw [ha] at e
    cases e
    exact main (fun _ => none) (fun _ => .inl rfl) (.inr ⟨_, vs.toArray, _, hk, rfl, rfl, rfl, by rw [List.size_toArray, hlen]; exact hl, by simpa using vals⟩) (fun _ _ z => nomatch z) (fun _ z => absurd rfl z) fun z => absurd rfl z
  | none =>
    refine main (fun b => if b = a then some (.frz { cls := .type "list", data := .seq vs.toArray } (.lst (ns.map V.int))) else none) (fun b => ?_) (.inl (.inr ⟨{ cls := .type "list", data := .seq vs.toArray }, if_pos rfl⟩)) (fun b u z => ?_) (fun b z => ?_) fun _ => hk
    · rcases Decidable.em (b = a) with e | e
      · exact .inr ⟨_, _, if_pos e⟩
      · exact .inl (if_neg e)
    · rcases Decidable.em (b = a) with e | e
      · have z' := (if_pos e).symm.trans z
        cases z'
        rw [e]
        exact ⟨ha, by rw [List.length_map]; exact hl, vs, _, vals, ha⟩
      · have z' := (if_neg e).symm.trans z
        cases z'
    · rcases Decidable.em (b = a) with e | e
      · exact e
      · exact absurd (if_neg e) z
theorem walk_g {l : PySem.W.OpenLaw} {n k : Nat} {q : Program} {loose : List Str} {XP : (Str → Option Value) → Heap → Prop} {YP : World → Heap → Prop} {d : DefRec} {K : Params → PySem.W.Frag} {sp : World → Sp} {x : Str}
    (hn : l.most = some n) (hn2 : n ≤ sizeLine) (hdf : d.params.defaults = []) (hr : Room k callerA) (hY : ∀ (w : World) (h : Heap), YP w h → (K w.params).In h)
    (F : ∀ (w : World) (mg : Str → Option Value) (fa : Addr) (h : Heap), (K w.params).In h → h.Ns mainGlobals mg → mg d.name = some (.ref fa) →
      ∃ fd : FuncData, (∀ (s : Shared) (u : Value), BindsTo s fd ⟨[u], []⟩ [(x, u)]) ∧ ∀ base : Heap, (K w.params).In base → base.Ns mainGlobals mg → FnG l.prog w (K w.params) mg base k fa fd [x] (sp w))
    (hsp : ∀ (w : World) (H : Hp) (a : Addr) (ns : List Int), ns.length ≤ n → SqL (K w.params) H a (ns.map V.int) → sp w [.ref a] H (fun v _ => v = .bl true) fun _ _ _ => False) :
    PySem.W.WalkO q loose XP YP l.row.toRowW d [] (fun f vs => PySem.call f vs) := by
  refine Att.attach_call hn hdf fun w s0 s1 mg mb fa o pm cd doc a vs ns G Y ho hd hcd hmg hobj hints hlen hg => ?_
  obtain ⟨fd, hb, hF⟩ := F w mg fa _ (hY w _ Y) G.T.g hmg
  exact law_g (hY w _ Y) G.T.g G.T.b G.T.builtins G.T.nolimit hg hobj hints (Nat.le_trans hlen hn2) hr hF hb fun H hS => hsp w H a ns hlen hS

/-! ### a def of the text with its contract -/
structure Has (P : Program) (w : World) (K : PySem.W.Frag) (mg : Str → Option Value) (base : Heap) (k : Nat) (x : Str) (st : Stmt) (ps : List Str) (F : Fs) : Prop where
  ex : ∃ (f : Addr) (fd : FuncData), FnG P w K mg base k f fd ps (lift K F) ∧ mg x = some (.ref f) ∧ Fun K x x st f fd ∧ Binds K fd ps []
section
variable {X : Cx} {E : XK} {e a b c : Expr} {es : List Expr} {t ta tb tc te : TE} {w wa wb wc we : WE} {pos p : Pos} {k : Nat} {tr tk : TA} {wr wk : WA} {x : Str} {st : Stmt} {ps : List Str} {F : Fs} {kws : List Keyword}
theorem de_h (h : Has X.prog X.w X.K X.mg X.base k x st ps F) (hr : Room k X.A) (gd : X.A.guards = some []) (ha : DA X (e :: es) tr wr) (hg : Gl X x := by rfl) (hdb : (x == ("__debug__" : Str)) = false := by decide)
    (he : starEach (e :: es) X.env = (false, eval e X.env) :: starEach es X.env := by rfl) (hpl : (backTo pos (starEach es X.env)).any (·.1) = false := by rfl) : DE X (.Call (.Name x p) (e :: es) [] pos) (tCallG (lift X.K F) [] E0 tr) (wCall F wr) := by
  obtain ⟨f, fd, G, hm, Fn, hb⟩ := h.ex
  exact de_call G hr gd hm Fn.kp hb ha hg hdb he hpl
theorem de_h0 (h : Has X.prog X.w X.K X.mg X.base k x st ps F) (hr : Room k X.A) (gd : X.A.guards = some []) (hg : Gl X x := by rfl) (hdb : (x == ("__debug__" : Str)) = false := by decide) : DE X (.Call (.Name x p) [] [] pos) (tCallG (lift X.K F) [] E0 tNil) (wCall F wNil) := by
  obtain ⟨f, fd, G, hm, Fn, hb⟩ := h.ex
  exact de_call0 G hr gd hm Fn.kp hb hg hdb
/-- how a call with keywords binds: shown by «fun _ _ _ _ _ _ us ws h1 h2 => match us, ws, h1, h2 with | [_], [_, _], _, _ => rfl» -/
def Kw (x : Str) (st : Stmt) (ps : List Str) (n : Nat) (ks : List Str) (idx : List Nat) : Prop := ∀ (kV doc pm : Value) (an : Option Addr) (cdv ct : Value) (us ws : List Value), us.length = n → ws.length = ks.length →
  bindArgs (PySem.W.fnOf x x (defArgs st) (defBody st) (defScope st) .none kV doc pm an cdv ct) ⟨us, ks.zip ws⟩ = pure (ps.zip (permU idx us ws))
theorem kb_of {K : PySem.W.Frag} {f : Addr} {fd : FuncData} {n : Nat} {ks : List Str} {idx : List Nat} (Fn : Fun K x x st f fd) (h : Kw x st ps n ks idx) : KB K fd ps n ks idx := by
  obtain ⟨oc, od, kV, doc, pm, an, cdv, ct, osl, rfl, lk, hcd⟩ := Fn.ex
  exact fun s us ws _ h1 h2 => .of_eq (h kV doc pm an cdv ct us ws h1 h2)
theorem de_hk {n : Nat} {ks : List Str} {idx : List Nat} (h : Has X.prog X.w X.K X.mg X.base k x st ps F) (hr : Room k X.A) (gd : X.A.guards = some []) (kb : Kw x st ps n ks idx) (ha : DA X (e :: es) tr wr) (hkw : DK X kws tk wk) (hg : Gl X x := by rfl)
    (hall : (backToKw pos (keywordEach kws X.env)).all (·.1.isSome) = true := by rfl) (hks : (backToKw pos (keywordEach kws X.env)).filterMap (·.1) = ks := by rfl)
    (hdb : (x == ("__debug__" : Str)) = false := by decide) (he : starEach (e :: es) X.env = (false, eval e X.env) :: starEach es X.env := by rfl)
    (hpl : ((backTo pos (starEach (e :: es) X.env)).any (·.1) || (backToKw pos (keywordEach kws X.env)).any (·.1.isNone)) = false := by rfl) :
    DE X (.Call (.Name x p) (e :: es) kws pos) (tCallGK n ks.length idx (lift X.K F) E0 tr tk) (wCallK n ks.length idx F wr wk) := by
  obtain ⟨f, fd, G, hm, Fn, hb⟩ := h.ex
  exact de_callK G hr gd hm Fn.kp (kb_of Fn kb) ha hkw hg hall hks hdb he hpl
theorem de_hk0 {ks : List Str} {idx : List Nat} (h : Has X.prog X.w X.K X.mg X.base k x st ps F) (hr : Room k X.A) (gd : X.A.guards = some []) (kb : Kw x st ps 0 ks idx) (hkw : DK X kws tk wk) (hg : Gl X x := by rfl)
    (hall : (backToKw pos (keywordEach kws X.env)).all (·.1.isSome) = true := by rfl) (hks : (backToKw pos (keywordEach kws X.env)).filterMap (·.1) = ks := by rfl)
    (hdb : (x == ("__debug__" : Str)) = false := by decide)
    (hpl : ((backTo pos (starEach [] X.env)).any (·.1) || (backToKw pos (keywordEach kws X.env)).any (·.1.isNone)) = false := by rfl) :
    DE X (.Call (.Name x p) [] kws pos) (tCallGK 0 ks.length idx (lift X.K F) E0 tNil tk) (wCallK 0 ks.length idx F wNil wk) := by
  obtain ⟨f, fd, G, hm, Fn, hb⟩ := h.ex
  exact de_callK0 G hr gd hm Fn.kp (kb_of Fn kb) hkw hg hall hks hdb hpl
end
theorem Has.mk' {P : Program} {w : World} {K : PySem.W.Frag} {mg : Str → Option Value} {base : Heap} {k : Nat} {x : Str} {st : Stmt} {ps : List Str} {F : Fs} {f : Addr} {fd : FuncData} (Fn : Fun K x x st f fd) (hm : mg x = some (.ref f)) (G : FnG P w K mg base k f fd ps (lift K F))
    (hb : ∀ (kV doc pm : Value) (an : Option Addr) (cdv ct : Value) (us : List Value), us.length = ps.length → bindArgs (PySem.W.fnOf x x (defArgs st) (defBody st) (defScope st) .none kV doc pm an cdv ct) ⟨us, []⟩ = pure (ps.zip us)) : Has P w K mg base k x st ps F := ⟨f, fd, G, hm, Fn, Fn.binds hb⟩

/-! ### the draws -/
def drawF : Fs := fun ds M Q _ => ∃ a a0 n, ds = [.tok a, .int n] ∧ M a = some (.drw a0) ∧ 0 < n ∧ n.natAbs.log2 < 9000 ∧ ∀ k, 0 ≤ k → k < n → Q (.int k) M
/-- one of a list's or tuple's items -/
def pickF : Fs := fun ds M Q _ => ∃ a a0 d es, ds = [.tok a, d] ∧ M a = some (.drw a0) ∧ seqD M d = some es ∧ 0 < es.length ∧ es.length ≤ 1000000 ∧ ∀ x ∈ es, Q x M
end L3
namespace L3
open PySem L2
theorem call_isqrt {X : Cx} : CallR X (.builtin "math.isqrt") (fun xs H Q => ∃ a : Int, xs = [.int a] ∧ 0 ≤ a ∧ a < 2 ^ 13000 ∧ Q (.int (Float64.isqrt a.toNat : Nat)) H) := by
  intro pins s σ H xs us Q I r h
  obtain ⟨a, rfl, h0, h1, q⟩ := h
  cases r with
  | cons r1 r2 =>
    cases r2
    obtain ⟨t, rfl⟩ := r1
    have hl : a.toNat.log2 < 13000 := by
      by_cases z : a.toNat = 0
      · rw [z]
        decide
      · rw [Nat.log2_lt z]
        have e : (a.toNat : Int) = a := Int.toNat_of_nonneg h0
        have e2 : (a.toNat : Int) < ((2 ^ 13000 : Nat) : Int) := by
          rw [e]
          exact_mod_cast h1
        exact_mod_cast e2
    refine PySem.Flt.call_fn_gives PySem.W.MGF.kind_isqrt PySem.W.MGF.plain_isqrt PySem.W.MGF.entry_isqrt (PySem.W.MGF.args_isqrt _) (PySem.W.mg_run_isqrt a t (by omega) (by omega) (by omega)) ?_
    exact ⟨.int _, H, I.tok _, ⟨_, rfl⟩, q⟩
def fIsq : FC := fun ds M Q => match ds with
  | [.int a] => 0 ≤ a ∧ a < 2 ^ 13000 ∧ Q (.int (Float64.isqrt a.toNat : Nat)) M
  | _ => False
theorem sim_isq {K : PySem.W.Frag} : SimC K (fun xs H Q => ∃ a : Int, xs = [.int a] ∧ 0 ≤ a ∧ a < 2 ^ 13000 ∧ Q (.int (Float64.isqrt a.toNat : Nat)) H) fIsq := by
  intro Z xs ds H M Q Q' S r f q
  unfold fIsq at f
  split at f
  · cases r with
    | cons r1 r2 =>
      cases r2
      cases r1
      exact ⟨_, rfl, f.1, f.2.1, q _ _ H M (Go.refl S) (.int _) f.2.2⟩
  · exact f.elim
section
variable {X : Cx} {e : Expr} {es : List Expr} {pos p : Pos} {tr : TA} {wr : WA}
/-- a function of another module of Python, taken by name -/
theorem de_callMB {x : Str} {id : String} {r : List V → Hp → VK → Prop} {g : FC} (hc : CallR X (.builtin id) r) (hs : SimC X.K r g) (hm : X.mg x = some (.builtin id)) (ha : DA X (e :: es) tr wr) (hg : Gl X x := by rfl) (hdb : (x == ("__debug__" : Str)) = false := by decide)
    (he : starEach (e :: es) X.env = (false, eval e X.env) :: starEach es X.env := by rfl) (hpl : (backTo pos (starEach es X.env)).any (·.1) = false := by rfl) : DE X (.Call (.Name x p) (e :: es) [] pos) (tCB r tr) (wCB g wr) := ⟨pe_callBfun hc hg hm ha.pe hdb he hpl, sim_CB ha.sm hs⟩
end
end L3
namespace L3
open PySem L2
def fIsB : F2 := fun d e M Q => match d, e with
  | .bl a, .bl b => Q (.bl (decide (a = b))) M
  | _, _ => False
theorem sim_isB {K : PySem.W.Frag} : SimR K rIsB fIsB := by
  intro Z x y d e H M Q Q' S r1 r2 f q
  unfold fIsB at f
  split at f
  · cases r1
    cases r2
    exact ⟨_, _, rfl, rfl, q _ _ H M (Go.refl S) (.bl _) f⟩
  · exact f.elim
end L3
namespace L3
open PySem L2
/-! ### what the draws need -/
theorem ix_l {K : PySem.W.Frag} {a : Addr} {xs : List V} {k : Int} {y : V} {H : Hp} {Q : VK} (h : H a = some (.lst xs)) (e : atI xs k = some y) (q : Q y H) : rIx K (.ref a) (.int k) H Q :=
  .inl ⟨a, xs, k, y, rfl, rfl, .inl (.inl h), e, q⟩
theorem ne_nil {K : PySem.W.Frag} {a p : Addr} {cs : List Int} {H : Hp} {Q : VK} (h : H a = some (.lst (cs.map V.int))) (hp : H p = some (.lst [])) (q : Q (.bl (decide (cs ≠ []))) H) : rNeD K (.ref a) (.ref p) H Q := by
  have r1 : Rep K H (.ref a) (.lst (cs.map .int)) := .lst (.inl (.inl h)) (.ofInts cs)
  have r2 : Rep K H (.ref p) (.lst []) := .lst (.inl (.inl hp)) .nil
  have f1 : fit 2 (.lst (cs.map .int)) := by
    simp [fit]
  have f2 : fit 2 (.lst []) := by
    simp [fit]
  refine ⟨_, _, Rep.dp 2 _ _ f1 r1, Rep.dp 2 _ _ f2 r2, fit_shaped f1 (by omega), fit_shaped f2 (by omega), ?_⟩
  cases cs with
  | nil => exact q
  | cons c cs => exact q
theorem eq_int {K : PySem.W.Frag} {i j : Int} {H : Hp} {Q : VK} (q : Q (.bl (decide (i = j))) H) : rEqD K (.int i) (.int j) H Q := by
  have f1 : ∀ i : Int, fit 1 (.int i) := fun i => by simp [fit]
  refine ⟨_, _, Rep.dp 1 _ _ (f1 i) (.int i), Rep.dp 1 _ _ (f1 j) (.int j), fit_shaped (f1 i) (by omega), fit_shaped (f1 j) (by omega), ?_⟩
  have e : PyData.eqv (D.py (.int i)) (D.py (.int j)) = decide (i = j) := by
    simp only [D.py, PyData.eqv]
    rfl
  rw [e]
  exact q
theorem at_last {cs : List Int} {c : Int} : atI ((cs ++ [c]).map V.int) (-1) = some (.int c) := by
  have e : ixN ((cs ++ [c]).map V.int).length (-1) = some cs.length := by
    unfold ixN
    simp
    omega
  unfold atI
  rw [e]
  simp
theorem pop_last {a : Addr} {cs : List Int} {c : Int} {H : Hp} {Q : VK} (h : H a = some (.lst ((cs ++ [c]).map V.int))) (q : Q (.int c) (upd H a (.lst (cs.map V.int)))) : rPop (.ref a) [] H Q := by
  refine ⟨a, _, .int c, rfl, rfl, h, by simp, ?_⟩
  rw [List.map_append]
  simpa using q
/-- what stands of the draws -/
structure Dr (H0 : Hp) (a a0 : Addr) (cs : List Int) (s : Int) (H : Hp) : Prop where
  keep : ∀ b o, b ≠ a → b ≠ a0 → H0 b = some o → H b = some o
  ha : H a = some (.lst [.ref a0, .int s])
  h0 : H a0 = some (.lst (cs.map V.int))
  lo : 0 ≤ s
  hi : s < 4294967296
  len : cs.length ≤ 100
  pos : ∀ c ∈ cs, 0 ≤ c
theorem Dr.new {H0 : Hp} {a a0 p : Addr} {cs : List Int} {s : Int} {H : Hp} {o : HO} (h : Dr H0 a a0 cs s H) (hp : H p = none) : Dr H0 a a0 cs s (upd H p o) :=
  ⟨fun b u h1 h2 e => by rw [upd_ne (ne_of_none (h.keep b u h1 h2 e) hp)]; exact h.keep b u h1 h2 e, by rw [upd_ne (ne_of_none h.ha hp)]; exact h.ha, by rw [upd_ne (ne_of_none h.h0 hp)]; exact h.h0, h.lo, h.hi, h.len, h.pos⟩
theorem Dr.ne {H0 : Hp} {a a0 : Addr} {cs : List Int} {s : Int} {H : Hp} (h : Dr H0 a a0 cs s H) : a ≠ a0 := fun e => by
  have z := h.ha
  rw [e, h.h0] at z
  have z2 := HO.lst.inj (Option.some.inj z)
  cases cs with
  | nil => cases z2
  | cons c cs => cases z2
theorem Dr.put {H0 : Hp} {a a0 : Addr} {cs cs' : List Int} {s : Int} {H : Hp} (h : Dr H0 a a0 cs s H) (l : cs'.length ≤ 100) (p : ∀ c ∈ cs', 0 ≤ c) : Dr H0 a a0 cs' s (upd H a0 (.lst (cs'.map V.int))) :=
  ⟨fun b u h1 h2 e => by rw [upd_ne h2]; exact h.keep b u h1 h2 e, by rw [upd_ne h.ne]; exact h.ha, upd_same, h.lo, h.hi, l, p⟩
theorem Dr.stir {H0 : Hp} {a a0 : Addr} {cs : List Int} {s s' : Int} {H : Hp} (h : Dr H0 a a0 cs s H) (l : 0 ≤ s') (u : s' < 4294967296) : Dr H0 a a0 cs s' (upd H a (.lst [.ref a0, .int s'])) :=
  ⟨fun b u h1 h2 e => by rw [upd_ne h1]; exact h.keep b u h1 h2 e, upd_same, by rw [upd_ne h.ne.symm]; exact h.h0, l, u, h.len, h.pos⟩
theorem Dr.ok {H0 : Hp} {a a0 : Addr} {cs : List Int} {s : Int} {H : Hp} (h : Dr H0 a a0 cs s H) : DrawOk H a a0 := ⟨cs, s, h.ha, h.h0, h.lo, h.hi, h.len, h.pos⟩
/-- [xs[::-1], s]: new draws -/
def wDrw (we : WE) (i : Nat) : WE := fun ρ M Q => we ρ M fun d M1 => ∃ (cs : List Int) (s : Int), d = .lst (cs.map .int) ∧ ρ[i]? = some (some (.int s)) ∧ cs.length ≤ 100 ∧ (∀ c ∈ cs, 0 ≤ c) ∧ 0 ≤ s ∧ s < 4294967296 ∧ ∀ p q, M1 p = none → M1 q = none → p ≠ q → Q (.tok q) (setM (setM M1 p .aux) q (.drw p))
section
variable {X : Cx} {e : Expr} {te : TE} {we : WE} {k : Nat} {p1 p2 p3 p4 p5 pos : Pos} {x : Str}
theorem sim_drw {K : PySem.W.Frag} (i : Nat) (he : SimE K te we) : SimE K (tLst (tCons (tRevL K te) (tCons (tVar i) tNil))) (wDrw we i) := by
  intro Z ρ M σ H Q Q' r h q
  refine he Z ρ M σ H _ _ r h fun x d H1 M1 g1 r1 q1 => ?_
  obtain ⟨cs, s, rfl, hi, hl, hpos, s0, s1, q2⟩ := q1
  cases r1 with
  | lst hs rl =>
    obtain rfl := rl.ints
    refine ⟨_, _, rfl, fz_sub.seq hs, fun p hp => ?_⟩
    obtain ⟨v, e1, rv⟩ := r.env.2 i _ hi
    cases rv
    refine ⟨.int s, e1, (by show 2 ≤ sizeLine; decide), fun o ho => ?_⟩
    have npo : p ≠ o := fun z => by
      subst z
      rw [upd_same] at ho
      cases ho
    have ho1 : H1 o = none := by
      rw [upd_ne npo.symm] at ho
      exact ho
    have m1p := g1.sat.free hp
    have m1o := g1.sat.free ho1
    have z1p := g1.sat.freeZ hp
    have z1o := g1.sat.freeZ ho1
    -- the two new lists
    have up : ∀ b u, H1 b = some u → upd (upd H1 p (.lst ((cs.map V.int).reverse))) o (.lst [.ref p, .int s]) b = some u := fun b u e => by
      rw [upd_ne (ne_of_none e ho1), upd_ne (ne_of_none e hp)]
      exact e
    have mo : ∀ b c, b ≠ p → b ≠ o → M1 b = c → setM (setM M1 p .aux) o (.drw p) b = c := fun b c h1 h2 e => by
      rw [setM_ne h2, setM_ne h1]
      exact e
    have mp : setM (setM M1 p .aux) o (.drw p) p = some .aux := by
      rw [setM_ne npo, setM_same]
    have ex : Same (fz Z H1 M1) (fz Z (upd (upd H1 p (.lst ((cs.map V.int).reverse))) o (.lst [.ref p, .int s])) (setM (setM M1 p .aux) o (.drw p))) := fun b u e => by
      obtain ⟨e1, e2, e3⟩ := fz_is e
      exact fz_to (mo b _ (ne_of_none e3 hp) (ne_of_none e3 ho1) e1) e2 (up b u e3)
    have aux : ∀ b, M1 b = some .aux → setM (setM M1 p .aux) o (.drw p) b = some .aux ∧ ∀ u, H1 b = some u → upd (upd H1 p (.lst ((cs.map V.int).reverse))) o (.lst [.ref p, .int s]) b = some u := fun b e => by
      refine ⟨mo b _ (fun z => ?_) (fun z => ?_) e, up b⟩
      · rw [z, m1p] at e
        cases e
      · rw [z, m1o] at e
        cases e
    have er : (cs.map V.int).reverse = cs.reverse.map V.int := by rw [List.map_reverse]
    have sat : Sat K Z (upd (upd H1 p (.lst ((cs.map V.int).reverse))) o (.lst [.ref p, .int s])) (setM (setM M1 p .aux) o (.drw p)) := by
      refine ⟨fun b c hb => ?_, fun b u hb => ?_⟩
      · by_cases h1 : b = o
        · subst h1
          rw [setM_same] at hb
          cases hb
          exact ⟨mp, cs.reverse, s, upd_same, by rw [upd_ne npo, upd_same, er], s0, s1, by rw [List.length_reverse]; exact hl, fun c hc => hpos c (List.mem_reverse.mp hc)⟩
        · by_cases h2 : b = p
          · subst h2
            rw [mp] at hb
            cases hb
            exact ⟨_, by rw [upd_ne npo, upd_same]⟩
          · rw [setM_ne h1, setM_ne h2] at hb
            exact (g1.sat.cell b c hb).same ex (up b) aux
      · obtain ⟨e1, e2⟩ := g1.sat.zed b u hb
        exact ⟨up b u e1, mo b _ (ne_of_none e1 hp) (ne_of_none e1 ho1) e2⟩
    exact q _ _ _ _ ⟨sat, g1.ex.trans ex⟩ (.tok o) (q2 p o m1p m1o npo)
theorem de_drw (i : Nat) (he : DE X e te we) (hN : X.N[i]? = some x := by rfl) (hv : Vis X.env.scope x := by first | exact Or.inl rfl | exact Or.inr (Or.inl rfl) | exact Or.inr (Or.inr rfl)) (hd : (x == ("__debug__" : Str)) = false := by decide)
    (hcd : (x == ("__classdict__" : Str)) = false := by decide) (h1 : starEach [(.Subscript e (.Slice none none (some (.UnaryOp .USub (.Constant (.int 1) k p1) p2)) p3) p4), (.Name x p5)] X.env = (false, eval (.Subscript e (.Slice none none (some (.UnaryOp .USub (.Constant (.int 1) k p1) p2)) p3) p4) X.env) :: starEach [(.Name x p5)] X.env := by rfl)
    (h2 : starEach [(.Name x p5)] X.env = (false, eval (.Name x p5) X.env) :: starEach [] X.env := by rfl) :
    DE X (.List [(.Subscript e (.Slice none none (some (.UnaryOp .USub (.Constant (.int 1) k p1) p2)) p3) p4), (.Name x p5)] pos) (tLst (tCons (tRevL X.K te) (tCons (tVar i) tNil))) (wDrw we i) :=
  ⟨pe_lst (pa_cons (pe_revL he.pe) (pa_cons (pe_var hN hv hd hcd) pa_nil h2) h1), sim_drw i he.sm⟩
end
/-! ### equality: plain values first -/
def rEqV (K : PySem.W.Frag) : R2 := fun x y H Q => rEq x y H Q ∨ rEqD K x y H Q
def rNeV (K : PySem.W.Frag) : R2 := fun x y H Q => rNe x y H Q ∨ rNeD K x y H Q
theorem op_eqV {X : Cx} {k : Nat} (hr : Room k X.A) : OpR X (compareOp .Eq) (rEqV X.K) := op_eq.or (op_eqG hr)
theorem op_neV {X : Cx} {k : Nat} (hr : Room k X.A) : OpR X (compareOp .NotEq) (rNeV X.K) := op_ne.or (op_neG hr)
def eqS : D → D → Option Bool
  | .int i, .int j => some (decide (i = j))
  | .str i, .str j => some (decide (i = j))
  | .bl i, .bl j => some (decide (i = j))
  | _, _ => none
def eqV (neg : Bool) : F2 := fun d e M Q => match eqS d e with
  | some b => Q (.bl (if neg then !b else b)) M
  | none => eqD2 neg d e M Q
theorem eqS_rep {K : PySem.W.Frag} {H : Hp} {x y : V} {d e : D} {b : Bool} (r1 : Rep K H x d) (r2 : Rep K H y e) (h : eqS d e = some b) : scal x y = true ∧ decide (x = y) = b := by
  unfold eqS at h
  split at h
  · cases r1
    cases r2
    refine ⟨rfl, ?_⟩
    rw [← Option.some.inj h]
    exact decide_eq_decide.mpr ⟨fun z => by cases z; rfl, fun z => by rw [z]⟩
  · cases r1
    cases r2
    refine ⟨rfl, ?_⟩
    rw [← Option.some.inj h]
    exact decide_eq_decide.mpr ⟨fun z => by cases z; rfl, fun z => by rw [z]⟩
  · cases r1
    cases r2
    refine ⟨rfl, ?_⟩
    rw [← Option.some.inj h]
    exact decide_eq_decide.mpr ⟨fun z => by cases z; rfl, fun z => by rw [z]⟩
  · cases h
theorem sim_eqV {K : PySem.W.Frag} : SimR K (rEqV K) (eqV false) := by
  intro Z x y d e H M Q Q' S r1 r2 f q
  unfold eqV at f
  split at f
  · rename_i b h
    obtain ⟨h1, h2⟩ := eqS_rep r1 r2 h
    refine .inl ⟨h1, ?_⟩
    rw [h2]
    exact q _ _ H M (Go.refl S) (.bl _) f
  · exact .inr (sim_eq Z x y d e H M Q Q' S r1 r2 f q)
theorem sim_neV {K : PySem.W.Frag} : SimR K (rNeV K) (eqV true) := by
  intro Z x y d e H M Q Q' S r1 r2 f q
  unfold eqV at f
  split at f
  · rename_i b h
    obtain ⟨h1, h2⟩ := eqS_rep r1 r2 h
    refine .inl ⟨h1, ?_⟩
    rw [h2]
    exact q _ _ H M (Go.refl S) (.bl _) f
  · exact .inr (sim_ne Z x y d e H M Q Q' S r1 r2 f q)
end L3
set_option maxHeartbeats 0
namespace K04
open PySem L2 L3
open PyProof.Rows (envOfC)
def top (i : Nat) : Stmt := PySem.Challenge.pw_nonearer_k04_whole_what_lies_beyond.main.body.getD i (.Pass ⟨0, 0, 0, 0⟩)
abbrev s_root_of_both : Stmt := top 3
abbrev s_gap_of : Stmt := top 4
abbrev s_least_beyond : Stmt := top 5
abbrev s_most_beyond : Stmt := top 6
abbrev s_reaches : Stmt := top 7
abbrev s__law_heap : Stmt := top 9
abbrev s__law_draw : Stmt := top 10
abbrev s__law_pick : Stmt := top 11
abbrev s__law_root : Stmt := top 12
abbrev s__law_reach : Stmt := top 13
abbrev s__law_number : Stmt := top 14
abbrev s__law_two_right : Stmt := top 15
abbrev s__law_grown_right : Stmt := top 16
abbrev s__law_squares_right : Stmt := top 17
abbrev s_law : Stmt := top 18
def c_KINDS : D := (.tup [.str "square", .str "sum", .str "most", .str "unlike"])
structure Txt (K : PySem.W.Frag) (mg : Str → Option Value) (aKINDS : Addr) : Prop where
  z_abs : mg "abs" = none
  z_int : mg "int" = none
  m_isqrt : mg "isqrt" = some (.builtin "math.isqrt")
  z_len : mg "len" = none
  z_max : mg "max" = none
  z_min : mg "min" = none
  z_range : mg "range" = none
  z_repr : mg "repr" = none
  m_KINDS : mg "KINDS" = some (.ref aKINDS)
  r_KINDS : ∀ H : Hp, Rep K H (.ref aKINDS) c_KINDS
/-! ### contracts -/
def rt (n : Int) : Int := (Float64.isqrt n.toNat : Nat)
def sq (k : Str) : Bool := decide (k = "square")
/-- a number within the bounds of this law -/
def nb (a : Int) : Prop := 0 ≤ a ∧ a < 2 ^ 50
def F_root_of_both : Fs := fun ds M Q _ => ∃ a b : Int, ds = [.int a, .int b] ∧ nb a ∧ nb b ∧ Q (.int (rt (4 * a * b))) M
def gapI (s : Bool) (a b : Int) : Int := if s then a + b - rt (4 * a * b) else if a - b < 0 then -(a - b) else a - b
def leastI (s : Bool) (a b : Int) : Int := if a ≤ b then 0 else gapI s a b
def mostI (s : Bool) (a b : Int) : Int := if s then a + b + rt (4 * a * b) else a + b
def reachB (s : Bool) (a b r : Int) : Bool := if s = false ∨ a - b - r ≤ 0 then decide (a - b - r ≤ 0) else decide ((a - b - r) * (a - b - r) ≤ 4 * b * r)
def F_gap_of : Fs := fun ds M Q _ => ∃ (k : Str) (a b : Int), ds = [.str k, .int a, .int b] ∧ nb a ∧ nb b ∧ Q (.int (gapI (sq k) a b)) M
def F_least_beyond : Fs := fun ds M Q _ => ∃ (k : Str) (a b : Int), ds = [.str k, .int a, .int b] ∧ nb a ∧ nb b ∧ Q (.int (leastI (sq k) a b)) M
def F_most_beyond : Fs := fun ds M Q _ => ∃ (k : Str) (a b : Int), ds = [.str k, .int a, .int b] ∧ nb a ∧ nb b ∧ Q (.int (mostI (sq k) a b)) M
def F_reaches : Fs := fun ds M Q _ => ∃ (k : Str) (a b r : Int), ds = [.str k, .int a, .int b, .int r] ∧ nb a ∧ nb b ∧ nb r ∧ Q (.bl (reachB (sq k) a b r)) M
def F__law_heap : Fs := fun ds M Q _ => ∃ ns : List Int, ds = [.lst (ns.map .int)] ∧ ns.length ≤ 63 ∧ ∀ (M' : Mp) (a a0 : Addr), M' a = some (.drw a0) → Q (.tok a) M'
abbrev F__law_draw : Fs := drawF
abbrev F__law_pick : Fs := pickF
def F__law_root : Fs := fun ds M Q _ => ∃ n : Int, ds = [.int n] ∧ 0 ≤ n ∧ n < 2 ^ 120 ∧ Q (.int (rt n)) M
def F__law_reach : Fs := fun ds M Q _ => ∃ (k : Str) (a b r : Int), ds = [.str k, .int a, .int b, .int r] ∧ nb a ∧ nb b ∧ nb r ∧ Q (.bl (reachB (sq k) a b r)) M
def nn (a : Int) : Prop := 0 ≤ a ∧ a < 2 ^ 40
def F__law_number : Fs := fun ds M Q _ => ∃ (a a0 : Addr), ds = [.tok a] ∧ M a = some (.drw a0) ∧ ∀ n : Int, nn n → Q (.int n) M
def F__law_two_right : Fs := fun ds M Q _ => ∃ (a a0 : Addr) (k : Str) (x y : Int), ds = [.tok a, .str k, .int x, .int y] ∧ M a = some (.drw a0) ∧ nn x ∧ nn y ∧ Q (.bl true) M
def F__law_grown_right : Fs := fun ds M Q _ => ∃ (a a0 : Addr) (k : Str) (x y : Int), ds = [.tok a, .str k, .int x, .int y] ∧ M a = some (.drw a0) ∧ nn x ∧ nn y ∧ Q (.bl true) M
def F__law_squares_right : Fs := fun ds M Q _ => ∃ (a a0 : Addr), ds = [.tok a] ∧ M a = some (.drw a0) ∧ Q (.bl true) M
def F_law : Fs := fun ds M Q _ => ∃ ns : List Int, ds = [.lst (ns.map .int)] ∧ ns.length ≤ 63 ∧ ∀ M', Q (.bl true) M'
section
variable {P : Program} {w : World} {K : PySem.W.Frag} {mg : Str → Option Value} {base : Heap} {aKINDS : Addr}
theorem sc_root_of_both : FnScope ["one", "other"] ["one", "other"] (defScope s_root_of_both) := ⟨rfl, rfl, rfl, by decide +kernel, rfl, by decide +kernel, by decide +kernel⟩
abbrev W_root_of_both : WS := (wRet (wCB fIsq (wCons (wOp (fI CM fun i j => .int (i * j)) (wOp (fI CM fun i j => .int (i * j)) (wC (.int 4)) (wVar 0)) (wVar 1)) wNil)))
theorem dv_root_of_both {f : Addr} (T : Txt K mg aKINDS) (cdv : Value) (A : Around) (outer : List Env) (s : Shared) (H : Hp) (E : XK) (gd : A.guards = some []) (hr : Room 0 (A.deeper (envOfC "root_of_both" (defScope s_root_of_both) s.heap.objs.size f cdv))) :
    ∃ t, DSs (cxOf (L2.CX P w) P w K mg base ["one", "other"] "root_of_both" (defScope s_root_of_both) f cdv A outer s H E) E (defBody s_root_of_both) t W_root_of_both := ⟨_, (dss_one (ds_ret (de_callMB call_isqrt sim_isq T.m_isqrt (da_cons (de_mul (de_mul de_int (de_var 0)) (de_var 1)) da_nil))))⟩
theorem ok_root_of_both {f : Addr} {fd : FuncData} (Fn : Fun K "root_of_both" "root_of_both" s_root_of_both f fd) (T : Txt K mg aKINDS) (len : ∀ ds M Q E, F_root_of_both ds M Q E → ds.length = 2)
    (body : ∀ ds M Q R, F_root_of_both ds M Q R → W_root_of_both { nx := fun _ M' => Q .non M', rt := Q, xr := R } (startE 2 ds) M) : FnG P w K mg base 1 f fd ["one", "other"] (lift K F_root_of_both) :=
  ok_fn Fn sc_root_of_both len fun cdv A outer s H E gd hr => (dv_root_of_both T cdv A outer s H E gd hr).elim fun t ht => ⟨t, _, ht, body⟩

theorem sc_gap_of : FnScope ["kind", "one", "other"] ["kind", "one", "other"] (defScope s_gap_of) := ⟨rfl, rfl, rfl, by decide +kernel, rfl, by decide +kernel, by decide +kernel⟩
abbrev W_gap_of : WS := (wSeq (wIfS (wB (wOp (eqV false) (wVar 0) (wC (.str "square")))) (wRet (wOp (fI0 fun i j => .int (i - j)) (wOp addD (wVar 1) (wVar 2)) (wCall F_root_of_both (wCons (wVar 1) (wCons (wVar 2) wNil))))) wNext) (wRet (wCB fAbs (wCons (wOp (fI0 fun i j => .int (i - j)) (wVar 1) (wVar 2)) wNil))))
theorem dv_gap_of {f : Addr} (T : Txt K mg aKINDS) (h_root_of_both : Has P w K mg base 1 "root_of_both" s_root_of_both ["one", "other"] F_root_of_both) (cdv : Value) (A : Around) (outer : List Env) (s : Shared) (H : Hp) (E : XK) (gd : A.guards = some []) (hr : Room 1 (A.deeper (envOfC "gap_of" (defScope s_gap_of) s.heap.objs.size f cdv))) :
    ∃ t, DSs (cxOf (L2.CX P w) P w K mg base ["kind", "one", "other"] "gap_of" (defScope s_gap_of) f cdv A outer s H E) E (defBody s_gap_of) t W_gap_of := ⟨_, (dss_cons (ds_if (dt_cmp (op_eqV hr) sim_eqV (de_var 0) de_str) (dss_one (ds_ret (de_sub (de_add (de_var 1) (de_var 2)) (de_h h_root_of_both (hr.mono (by decide)) gd (da_cons (de_var 1) (da_cons (de_var 2) da_nil)))))) dss_nil) (dss_one (ds_ret (de_callB call_abs sim_abs T.z_abs (show bootBuiltins "abs" = some (.builtin "abs") from rfl) (da_cons (de_sub (de_var 1) (de_var 2)) da_nil)))))⟩
theorem ok_gap_of {f : Addr} {fd : FuncData} (Fn : Fun K "gap_of" "gap_of" s_gap_of f fd) (T : Txt K mg aKINDS) (h_root_of_both : Has P w K mg base 1 "root_of_both" s_root_of_both ["one", "other"] F_root_of_both) (len : ∀ ds M Q E, F_gap_of ds M Q E → ds.length = 3)
    (body : ∀ ds M Q R, F_gap_of ds M Q R → W_gap_of { nx := fun _ M' => Q .non M', rt := Q, xr := R } (startE 3 ds) M) : FnG P w K mg base 2 f fd ["kind", "one", "other"] (lift K F_gap_of) :=
  ok_fn Fn sc_gap_of len fun cdv A outer s H E gd hr => (dv_gap_of T h_root_of_both cdv A outer s H E gd hr).elim fun t ht => ⟨t, _, ht, body⟩

theorem sc_least_beyond : FnScope ["kind", "from_centre", "radius"] ["kind", "from_centre", "radius"] (defScope s_least_beyond) := ⟨rfl, rfl, rfl, by decide +kernel, rfl, by decide +kernel, by decide +kernel⟩
abbrev W_least_beyond : WS := (wSeq (wIfS (wB (wOp fLe (wVar 1) (wVar 2))) (wRet (wC (.int 0))) wNext) (wRet (wCall F_gap_of (wCons (wVar 0) (wCons (wVar 1) (wCons (wVar 2) wNil))))))
theorem dv_least_beyond {f : Addr} (T : Txt K mg aKINDS) (h_gap_of : Has P w K mg base 2 "gap_of" s_gap_of ["kind", "one", "other"] F_gap_of) (cdv : Value) (A : Around) (outer : List Env) (s : Shared) (H : Hp) (E : XK) (gd : A.guards = some []) (hr : Room 2 (A.deeper (envOfC "least_beyond" (defScope s_least_beyond) s.heap.objs.size f cdv))) :
    ∃ t, DSs (cxOf (L2.CX P w) P w K mg base ["kind", "from_centre", "radius"] "least_beyond" (defScope s_least_beyond) f cdv A outer s H E) E (defBody s_least_beyond) t W_least_beyond := ⟨_, (dss_cons (ds_if (dt_cmp op_le sim_le (de_var 1) (de_var 2)) (dss_one (ds_ret de_int)) dss_nil) (dss_one (ds_ret (de_h h_gap_of (hr.mono (by decide)) gd (da_cons (de_var 0) (da_cons (de_var 1) (da_cons (de_var 2) da_nil)))))))⟩
theorem ok_least_beyond {f : Addr} {fd : FuncData} (Fn : Fun K "least_beyond" "least_beyond" s_least_beyond f fd) (T : Txt K mg aKINDS) (h_gap_of : Has P w K mg base 2 "gap_of" s_gap_of ["kind", "one", "other"] F_gap_of) (len : ∀ ds M Q E, F_least_beyond ds M Q E → ds.length = 3)
    (body : ∀ ds M Q R, F_least_beyond ds M Q R → W_least_beyond { nx := fun _ M' => Q .non M', rt := Q, xr := R } (startE 3 ds) M) : FnG P w K mg base 3 f fd ["kind", "from_centre", "radius"] (lift K F_least_beyond) :=
  ok_fn Fn sc_least_beyond len fun cdv A outer s H E gd hr => (dv_least_beyond T h_gap_of cdv A outer s H E gd hr).elim fun t ht => ⟨t, _, ht, body⟩

theorem sc_most_beyond : FnScope ["kind", "from_centre", "radius"] ["kind", "from_centre", "radius"] (defScope s_most_beyond) := ⟨rfl, rfl, rfl, by decide +kernel, rfl, by decide +kernel, by decide +kernel⟩
abbrev W_most_beyond : WS := (wSeq (wIfS (wB (wOp (eqV false) (wVar 0) (wC (.str "square")))) (wRet (wOp addD (wOp addD (wVar 1) (wVar 2)) (wCall F_root_of_both (wCons (wVar 1) (wCons (wVar 2) wNil))))) wNext) (wRet (wOp addD (wVar 1) (wVar 2))))
theorem dv_most_beyond {f : Addr} (T : Txt K mg aKINDS) (h_root_of_both : Has P w K mg base 1 "root_of_both" s_root_of_both ["one", "other"] F_root_of_both) (cdv : Value) (A : Around) (outer : List Env) (s : Shared) (H : Hp) (E : XK) (gd : A.guards = some []) (hr : Room 1 (A.deeper (envOfC "most_beyond" (defScope s_most_beyond) s.heap.objs.size f cdv))) :
    ∃ t, DSs (cxOf (L2.CX P w) P w K mg base ["kind", "from_centre", "radius"] "most_beyond" (defScope s_most_beyond) f cdv A outer s H E) E (defBody s_most_beyond) t W_most_beyond := ⟨_, (dss_cons (ds_if (dt_cmp (op_eqV hr) sim_eqV (de_var 0) de_str) (dss_one (ds_ret (de_add (de_add (de_var 1) (de_var 2)) (de_h h_root_of_both (hr.mono (by decide)) gd (da_cons (de_var 1) (da_cons (de_var 2) da_nil)))))) dss_nil) (dss_one (ds_ret (de_add (de_var 1) (de_var 2)))))⟩
theorem ok_most_beyond {f : Addr} {fd : FuncData} (Fn : Fun K "most_beyond" "most_beyond" s_most_beyond f fd) (T : Txt K mg aKINDS) (h_root_of_both : Has P w K mg base 1 "root_of_both" s_root_of_both ["one", "other"] F_root_of_both) (len : ∀ ds M Q E, F_most_beyond ds M Q E → ds.length = 3)
    (body : ∀ ds M Q R, F_most_beyond ds M Q R → W_most_beyond { nx := fun _ M' => Q .non M', rt := Q, xr := R } (startE 3 ds) M) : FnG P w K mg base 2 f fd ["kind", "from_centre", "radius"] (lift K F_most_beyond) :=
  ok_fn Fn sc_most_beyond len fun cdv A outer s H E gd hr => (dv_most_beyond T h_root_of_both cdv A outer s H E gd hr).elim fun t ht => ⟨t, _, ht, body⟩

theorem sc_reaches : FnScope ["kind", "from_centre", "radius", "reach", "beyond"] ["kind", "from_centre", "radius", "reach"] (defScope s_reaches) := ⟨rfl, rfl, rfl, by decide +kernel, rfl, by decide +kernel, by decide +kernel⟩
abbrev W_reaches : WS := (wSeq (wAsg (wOp (fI0 fun i j => .int (i - j)) (wOp (fI0 fun i j => .int (i - j)) (wVar 1) (wVar 2)) (wVar 3)) (wgName 4)) (wSeq (wIfS (wOr (wB (wOp (eqV true) (wVar 0) (wC (.str "square")))) (wB (wOp fLe (wVar 4) (wC (.int 0))))) (wRet (wOp fLe (wVar 4) (wC (.int 0)))) wNext) (wRet (wOp fLe (wOp (fI CM fun i j => .int (i * j)) (wVar 4) (wVar 4)) (wOp (fI CM fun i j => .int (i * j)) (wOp (fI CM fun i j => .int (i * j)) (wC (.int 4)) (wVar 2)) (wVar 3))))))
theorem dv_reaches {f : Addr} (T : Txt K mg aKINDS) (cdv : Value) (A : Around) (outer : List Env) (s : Shared) (H : Hp) (E : XK) (gd : A.guards = some []) (hr : Room 0 (A.deeper (envOfC "reaches" (defScope s_reaches) s.heap.objs.size f cdv))) :
    ∃ t, DSs (cxOf (L2.CX P w) P w K mg base ["kind", "from_centre", "radius", "reach", "beyond"] "reaches" (defScope s_reaches) f cdv A outer s H E) E (defBody s_reaches) t W_reaches := ⟨_, (dss_cons (ds_set 4 sc_reaches.nd (de_sub (de_sub (de_var 1) (de_var 2)) (de_var 3))) (dss_cons (ds_if (DW.dt (dw_or (dt_cmp (op_neV hr) sim_neV (de_var 0) de_str) (dw_or1 (dt_cmp op_le sim_le (de_var 4) de_int)))) (dss_one (ds_ret (de_cmp op_le sim_le (de_var 4) de_int))) dss_nil) (dss_one (ds_ret (de_cmp op_le sim_le (de_mul (de_var 4) (de_var 4)) (de_mul (de_mul de_int (de_var 2)) (de_var 3)))))))⟩
theorem ok_reaches {f : Addr} {fd : FuncData} (Fn : Fun K "reaches" "reaches" s_reaches f fd) (T : Txt K mg aKINDS) (len : ∀ ds M Q E, F_reaches ds M Q E → ds.length = 4)
    (body : ∀ ds M Q R, F_reaches ds M Q R → W_reaches { nx := fun _ M' => Q .non M', rt := Q, xr := R } (startE 5 ds) M) : FnG P w K mg base 1 f fd ["kind", "from_centre", "radius", "reach"] (lift K F_reaches) :=
  ok_fn Fn sc_reaches len fun cdv A outer s H E gd hr => (dv_reaches T cdv A outer s H E gd hr).elim fun t ht => ⟨t, _, ht, body⟩

theorem sc__law_heap : FnScope ["script", "cell", "cells", "stir"] ["script"] (defScope s__law_heap) := ⟨rfl, rfl, rfl, by decide +kernel, rfl, by decide +kernel, by decide +kernel⟩
abbrev W__law_heap : WS := (wSeq (wPar 2 3 (wCons (wLc (wiSeq (wSl (wVar 0) wNoP (wPart (wC (.int 60))))) (wgName 1) wYes (wOp addD (wOp (fI CM fun i j => .int (i * j)) (wC (.int 2)) (wCB fAbs (wCons (wVar 1) wNil))) (wCB fInt (wCons (wOp fLt (wVar 1) (wC (.int 0))) wNil))) [1]) (wCons (wC (.int 40961)) wNil))) (wSeq (wFor (wiSeq (wVar 2)) (wgName 1) (wAsg (wOp (fI (fun _ j => 0 < j) fun i j => .int (i % j)) (wCB fInt (wCons (wOp addD (wOp addD (wOp (fI CM fun i j => .int (i * j)) (wVar 3) (wC (.int 69621))) (wOp (fI (fun _ j => 0 < j) fun i j => .int (i % j)) (wCB fInt (wCons (wVar 1) wNil)) (wC (.int 2147483543)))) (wC (.int 29))) wNil)) (wC (.int 2147483647))) (wgName 3))) (wRet (wDrw (wLc (wiSeq (wVar 2)) (wgName 1) (wB (wOp fGe (wVar 1) (wOp (fI CPow fun i j => .int (i ^ j.toNat)) (wC (.int 10)) (wC (.int 18))))) (wVar 1) [1]) 3))))
theorem dv__law_heap {f : Addr} (T : Txt K mg aKINDS) (cdv : Value) (A : Around) (outer : List Env) (s : Shared) (H : Hp) (E : XK) (gd : A.guards = some []) (hr : Room 0 (A.deeper (envOfC "_law_heap" (defScope s__law_heap) s.heap.objs.size f cdv))) :
    ∃ t, DSs (cxOf (L2.CX P w) P w K mg base ["script", "cell", "cells", "stir"] "_law_heap" (defScope s__law_heap) f cdv A outer s H E) E (defBody s__law_heap) t W__law_heap := ⟨_, (dss_cons (ds_par 2 3 rfl sc__law_heap.nd (da_cons (de_lc (own := [("cell", 1)]) rfl sc__law_heap.nd (di_seq (de_slice (de_var 0) do_none (do_some de_int))) (show BlkOk ["script", "cell", "cells", "stir"] (defScope s__law_heap) _ [("cell", 1)] from ⟨rfl, by decide +kernel, by decide +kernel, by decide +kernel, by decide +kernel⟩) (fun _ _ _ _ _ => (dg_name 1 sc__law_heap.nd)) (fun _ _ _ _ _ => dts_nil) (fun _ _ _ _ _ => (de_add (de_mul de_int (de_callB call_abs sim_abs T.z_abs (show bootBuiltins "abs" = some (.builtin "abs") from rfl) (da_cons (de_var 1) da_nil))) (de_callTy call_int1 sim_int T.z_int (show bootBuiltins "int" = some (.type "int") from rfl) (da_cons (de_cmp op_lt sim_lt (de_var 1) de_int) da_nil)))) keep_name) (da_cons de_int da_nil))) (dss_cons (ds_for (passes_of rfl) rfl (di_seq (de_var 2)) (dg_name 1 sc__law_heap.nd) (dss_one (ds_set 3 sc__law_heap.nd (de_mod (de_callTy call_int1 sim_int T.z_int (show bootBuiltins "int" = some (.type "int") from rfl) (da_cons (de_add (de_add (de_mul (de_var 3) de_int) (de_mod (de_callTy call_int1 sim_int T.z_int (show bootBuiltins "int" = some (.type "int") from rfl) (da_cons (de_var 1) da_nil)) de_int)) de_int) da_nil)) de_int)))) (dss_one (ds_ret (de_drw 3 (de_lc (own := [("cell", 1)]) rfl sc__law_heap.nd (di_seq (de_var 2)) (show BlkOk ["script", "cell", "cells", "stir"] (defScope s__law_heap) _ [("cell", 1)] from ⟨rfl, by decide +kernel, by decide +kernel, by decide +kernel, by decide +kernel⟩) (fun _ _ _ _ _ => (dg_name 1 sc__law_heap.nd)) (fun _ _ _ _ _ => (dts_one (dt_cmp op_ge sim_ge (de_var 1) (de_pow de_int de_int)))) (fun _ _ _ _ _ => (de_var 1)) keep_name))))))⟩
theorem ok__law_heap {f : Addr} {fd : FuncData} (Fn : Fun K "_law_heap" "_law_heap" s__law_heap f fd) (T : Txt K mg aKINDS) (len : ∀ ds M Q E, F__law_heap ds M Q E → ds.length = 1)
    (body : ∀ ds M Q R, F__law_heap ds M Q R → W__law_heap { nx := fun _ M' => Q .non M', rt := Q, xr := R } (startE 4 ds) M) : FnG P w K mg base 1 f fd ["script"] (lift K F__law_heap) :=
  ok_fn Fn sc__law_heap len fun cdv A outer s H E gd hr => (dv__law_heap T cdv A outer s H E gd hr).elim fun t ht => ⟨t, _, ht, body⟩

theorem sc__law_draw : FnScope ["heap", "many", "rest"] ["heap", "many"] (defScope s__law_draw) := ⟨rfl, rfl, rfl, by decide +kernel, rfl, by decide +kernel, by decide +kernel⟩

theorem sc__law_pick : FnScope ["heap", "some"] ["heap", "some"] (defScope s__law_pick) := ⟨rfl, rfl, rfl, by decide +kernel, rfl, by decide +kernel, by decide +kernel⟩
abbrev W__law_pick : WS := (wRet (wOp ixD (wVar 1) (wCall F__law_draw (wCons (wVar 0) (wCons (wCB fLen (wCons (wVar 1) wNil)) wNil)))))
theorem dv__law_pick {f : Addr} (T : Txt K mg aKINDS) (h__law_draw : Has P w K mg base 1 "_law_draw" s__law_draw ["heap", "many"] F__law_draw) (cdv : Value) (A : Around) (outer : List Env) (s : Shared) (H : Hp) (E : XK) (gd : A.guards = some []) (hr : Room 1 (A.deeper (envOfC "_law_pick" (defScope s__law_pick) s.heap.objs.size f cdv))) :
    ∃ t, DSs (cxOf (L2.CX P w) P w K mg base ["heap", "some"] "_law_pick" (defScope s__law_pick) f cdv A outer s H E) E (defBody s__law_pick) t W__law_pick := ⟨_, (dss_one (ds_ret (de_ix (de_var 1) (de_h h__law_draw (hr.mono (by decide)) gd (da_cons (de_var 0) (da_cons (de_callB call_lenA sim_len T.z_len (show bootBuiltins "len" = some (.builtin "len") from rfl) (da_cons (de_var 1) da_nil)) da_nil))))))⟩
theorem ok__law_pick {f : Addr} {fd : FuncData} (Fn : Fun K "_law_pick" "_law_pick" s__law_pick f fd) (T : Txt K mg aKINDS) (h__law_draw : Has P w K mg base 1 "_law_draw" s__law_draw ["heap", "many"] F__law_draw) (len : ∀ ds M Q E, F__law_pick ds M Q E → ds.length = 2)
    (body : ∀ ds M Q R, F__law_pick ds M Q R → W__law_pick { nx := fun _ M' => Q .non M', rt := Q, xr := R } (startE 2 ds) M) : FnG P w K mg base 2 f fd ["heap", "some"] (lift K F__law_pick) :=
  ok_fn Fn sc__law_pick len fun cdv A outer s H E gd hr => (dv__law_pick T h__law_draw cdv A outer s H E gd hr).elim fun t ht => ⟨t, _, ht, body⟩

theorem sc__law_root : FnScope ["number", "turn", "low", "high", "middle"] ["number"] (defScope s__law_root) := ⟨rfl, rfl, rfl, by decide +kernel, rfl, by decide +kernel, by decide +kernel⟩
abbrev W__law_root : WS := (wSeq (wAsg (wTup (wCons (wC (.int 0)) (wCons (wC (.int 1)) wNil))) (wgTup 2 (wgCons (wgName 2) (wgCons (wgName 3) wgNil)))) (wSeq (wFor (wiRange1 (wCons (wC (.int 80)) wNil)) (wgName 1) (wIfS (wB (wOp fLe (wOp (fI CM fun i j => .int (i * j)) (wVar 3) (wVar 3)) (wVar 0))) (wAsg (wOp (fI CM fun i j => .int (i * j)) (wVar 3) (wC (.int 2))) (wgName 3)) wNext)) (wSeq (wFor (wiRange1 (wCons (wC (.int 160)) wNil)) (wgName 1) (wSeq (wAsg (wOp (fI CDivW fun i j => .int (i / j)) (wOp addD (wVar 2) (wVar 3)) (wC (.int 2))) (wgName 4)) (wIfS (wAnd (wB (wOp fGt (wOp (fI0 fun i j => .int (i - j)) (wVar 3) (wVar 2)) (wC (.int 1)))) (wB (wOp fLe (wOp (fI CM fun i j => .int (i * j)) (wVar 4) (wVar 4)) (wVar 0)))) (wAsg (wVar 4) (wgName 2)) (wIfS (wB (wOp fGt (wOp (fI0 fun i j => .int (i - j)) (wVar 3) (wVar 2)) (wC (.int 1)))) (wAsg (wVar 4) (wgName 3)) wNext)))) (wRet (wVar 2)))))
theorem dv__law_root {f : Addr} (T : Txt K mg aKINDS) (cdv : Value) (A : Around) (outer : List Env) (s : Shared) (H : Hp) (E : XK) (gd : A.guards = some []) (hr : Room 0 (A.deeper (envOfC "_law_root" (defScope s__law_root) s.heap.objs.size f cdv))) :
    ∃ t, DSs (cxOf (L2.CX P w) P w K mg base ["number", "turn", "low", "high", "middle"] "_law_root" (defScope s__law_root) f cdv A outer s H E) E (defBody s__law_root) t W__law_root := ⟨_, (dss_cons (ds_asg (de_tup (da_cons de_int (da_cons de_int da_nil))) (dg_tup rfl (dgs_cons (dg_name 2 sc__law_root.nd) (dgs_cons (dg_name 3 sc__law_root.nd) dgs_nil)))) (dss_cons (ds_for (passes_of rfl) rfl (di_range1 T.z_range (da_cons de_int da_nil)) (dg_name 1 sc__law_root.nd) (dss_one (ds_if (dt_cmp op_le sim_le (de_mul (de_var 3) (de_var 3)) (de_var 0)) (dss_one (ds_set 3 sc__law_root.nd (de_mul (de_var 3) de_int))) dss_nil))) (dss_cons (ds_for (passes_of rfl) rfl (di_range1 T.z_range (da_cons de_int da_nil)) (dg_name 1 sc__law_root.nd) (dss_cons (ds_set 4 sc__law_root.nd (de_fdiv (de_add (de_var 2) (de_var 3)) de_int)) (dss_one (ds_if (DW.dt (dw_and (dt_cmp op_gt sim_gt (de_sub (de_var 3) (de_var 2)) de_int) (dw_and1 (dt_cmp op_le sim_le (de_mul (de_var 4) (de_var 4)) (de_var 0))))) (dss_one (ds_set 2 sc__law_root.nd (de_var 4))) (dss_one (ds_if (dt_cmp op_gt sim_gt (de_sub (de_var 3) (de_var 2)) de_int) (dss_one (ds_set 3 sc__law_root.nd (de_var 4))) dss_nil)))))) (dss_one (ds_ret (de_var 2))))))⟩
theorem ok__law_root {f : Addr} {fd : FuncData} (Fn : Fun K "_law_root" "_law_root" s__law_root f fd) (T : Txt K mg aKINDS) (len : ∀ ds M Q E, F__law_root ds M Q E → ds.length = 1)
    (body : ∀ ds M Q R, F__law_root ds M Q R → W__law_root { nx := fun _ M' => Q .non M', rt := Q, xr := R } (startE 5 ds) M) : FnG P w K mg base 1 f fd ["number"] (lift K F__law_root) :=
  ok_fn Fn sc__law_root len fun cdv A outer s H E gd hr => (dv__law_root T cdv A outer s H E gd hr).elim fun t ht => ⟨t, _, ht, body⟩

theorem sc__law_reach : FnScope ["kind", "far", "radius", "reach", "rest"] ["kind", "far", "radius", "reach"] (defScope s__law_reach) := ⟨rfl, rfl, rfl, by decide +kernel, rfl, by decide +kernel, by decide +kernel⟩
abbrev W__law_reach : WS := (wSeq (wIfS (wB (wOp (eqV true) (wVar 0) (wC (.str "square")))) (wRet (wOp fLe (wVar 1) (wOp addD (wVar 2) (wVar 3)))) wNext) (wSeq (wAsg (wOp (fI0 fun i j => .int (i - j)) (wOp (fI0 fun i j => .int (i - j)) (wVar 1) (wVar 2)) (wVar 3)) (wgName 4)) (wRet (wOrV (wOp fLe (wVar 4) (wC (.int 0))) (wOp fLe (wOp (fI CM fun i j => .int (i * j)) (wVar 4) (wVar 4)) (wOp (fI CM fun i j => .int (i * j)) (wOp (fI CM fun i j => .int (i * j)) (wC (.int 4)) (wVar 2)) (wVar 3)))))))
theorem dv__law_reach {f : Addr} (T : Txt K mg aKINDS) (cdv : Value) (A : Around) (outer : List Env) (s : Shared) (H : Hp) (E : XK) (gd : A.guards = some []) (hr : Room 0 (A.deeper (envOfC "_law_reach" (defScope s__law_reach) s.heap.objs.size f cdv))) :
    ∃ t, DSs (cxOf (L2.CX P w) P w K mg base ["kind", "far", "radius", "reach", "rest"] "_law_reach" (defScope s__law_reach) f cdv A outer s H E) E (defBody s__law_reach) t W__law_reach := ⟨_, (dss_cons (ds_if (dt_cmp (op_neV hr) sim_neV (de_var 0) de_str) (dss_one (ds_ret (de_cmp op_le sim_le (de_var 1) (de_add (de_var 2) (de_var 3))))) dss_nil) (dss_cons (ds_set 4 sc__law_reach.nd (de_sub (de_sub (de_var 1) (de_var 2)) (de_var 3))) (dss_one (ds_ret (de_or (de_cmp op_le sim_le (de_var 4) de_int) (de_one (de_cmp op_le sim_le (de_mul (de_var 4) (de_var 4)) (de_mul (de_mul de_int (de_var 2)) (de_var 3)))))))))⟩
theorem ok__law_reach {f : Addr} {fd : FuncData} (Fn : Fun K "_law_reach" "_law_reach" s__law_reach f fd) (T : Txt K mg aKINDS) (len : ∀ ds M Q E, F__law_reach ds M Q E → ds.length = 4)
    (body : ∀ ds M Q R, F__law_reach ds M Q R → W__law_reach { nx := fun _ M' => Q .non M', rt := Q, xr := R } (startE 5 ds) M) : FnG P w K mg base 1 f fd ["kind", "far", "radius", "reach"] (lift K F__law_reach) :=
  ok_fn Fn sc__law_reach len fun cdv A outer s H E gd hr => (dv__law_reach T cdv A outer s H E gd hr).elim fun t ht => ⟨t, _, ht, body⟩

theorem sc__law_number : FnScope ["heap", "kind", "root"] ["heap"] (defScope s__law_number) := ⟨rfl, rfl, rfl, by decide +kernel, rfl, by decide +kernel, by decide +kernel⟩
abbrev W__law_number : WS := (wSeq (wAsg (wCall F__law_draw (wCons (wVar 0) (wCons (wC (.int 6)) wNil))) (wgName 1)) (wSeq (wIfS (wB (wOp fLt (wVar 1) (wC (.int 2)))) (wRet (wCall F__law_draw (wCons (wVar 0) (wCons (wC (.int 12)) wNil)))) wNext) (wSeq (wIfS (wB (wOp (eqV false) (wVar 1) (wC (.int 2)))) (wRet (wCall F__law_draw (wCons (wVar 0) (wCons (wOp addD (wOp (fI CM fun i j => .int (i * j)) (wC (.int 32)) (wOp (fI CPow fun i j => .int (i ^ j.toNat)) (wC (.int 10)) (wC (.int 8)))) (wC (.int 1))) wNil)))) wNext) (wSeq (wAsg (wCall F__law_draw (wCons (wVar 0) (wCons (wCall F__law_pick (wCons (wVar 0) (wCons (wLst (wCons (wC (.int 9)) (wCons (wC (.int 100)) (wCons (wC (.int 56000)) wNil)))) wNil))) wNil))) (wgName 2)) (wRet (wCB (f2I fun i j => if j > i then j else i) (wCons (wC (.int 0)) (wCons (wOp addD (wOp (fI CM fun i j => .int (i * j)) (wVar 2) (wVar 2)) (wCall F__law_pick (wCons (wVar 0) (wCons (wLst (wCons (wC (.int 0)) (wCons (wC (.int 0)) (wCons (wC (.int 1)) (wCons (wNeg (wC (.int 1))) wNil))))) wNil)))) wNil))))))))
theorem dv__law_number {f : Addr} (T : Txt K mg aKINDS) (h__law_draw : Has P w K mg base 1 "_law_draw" s__law_draw ["heap", "many"] F__law_draw) (h__law_pick : Has P w K mg base 2 "_law_pick" s__law_pick ["heap", "some"] F__law_pick) (cdv : Value) (A : Around) (outer : List Env) (s : Shared) (H : Hp) (E : XK) (gd : A.guards = some []) (hr : Room 2 (A.deeper (envOfC "_law_number" (defScope s__law_number) s.heap.objs.size f cdv))) :
    ∃ t, DSs (cxOf (L2.CX P w) P w K mg base ["heap", "kind", "root"] "_law_number" (defScope s__law_number) f cdv A outer s H E) E (defBody s__law_number) t W__law_number := ⟨_, (dss_cons (ds_set 1 sc__law_number.nd (de_h h__law_draw (hr.mono (by decide)) gd (da_cons (de_var 0) (da_cons de_int da_nil)))) (dss_cons (ds_if (dt_cmp op_lt sim_lt (de_var 1) de_int) (dss_one (ds_ret (de_h h__law_draw (hr.mono (by decide)) gd (da_cons (de_var 0) (da_cons de_int da_nil))))) dss_nil) (dss_cons (ds_if (dt_cmp (op_eqV hr) sim_eqV (de_var 1) de_int) (dss_one (ds_ret (de_h h__law_draw (hr.mono (by decide)) gd (da_cons (de_var 0) (da_cons (de_add (de_mul de_int (de_pow de_int de_int)) de_int) da_nil))))) dss_nil) (dss_cons (ds_set 2 sc__law_number.nd (de_h h__law_draw (hr.mono (by decide)) gd (da_cons (de_var 0) (da_cons (de_h h__law_pick (hr.mono (by decide)) gd (da_cons (de_var 0) (da_cons (de_lst (da_cons de_int (da_cons de_int (da_cons de_int da_nil)))) da_nil))) da_nil)))) (dss_one (ds_ret (de_callB (call_max2 rfl) sim_2I T.z_max (show bootBuiltins "max" = some (.builtin "max") from rfl) (da_cons de_int (da_cons (de_add (de_mul (de_var 2) (de_var 2)) (de_h h__law_pick (hr.mono (by decide)) gd (da_cons (de_var 0) (da_cons (de_lst (da_cons de_int (da_cons de_int (da_cons de_int (da_cons (de_neg de_int) da_nil))))) da_nil)))) da_nil)))))))))⟩
theorem ok__law_number {f : Addr} {fd : FuncData} (Fn : Fun K "_law_number" "_law_number" s__law_number f fd) (T : Txt K mg aKINDS) (h__law_draw : Has P w K mg base 1 "_law_draw" s__law_draw ["heap", "many"] F__law_draw) (h__law_pick : Has P w K mg base 2 "_law_pick" s__law_pick ["heap", "some"] F__law_pick) (len : ∀ ds M Q E, F__law_number ds M Q E → ds.length = 1)
    (body : ∀ ds M Q R, F__law_number ds M Q R → W__law_number { nx := fun _ M' => Q .non M', rt := Q, xr := R } (startE 3 ds) M) : FnG P w K mg base 3 f fd ["heap"] (lift K F__law_number) :=
  ok_fn Fn sc__law_number len fun cdv A outer s H E gd hr => (dv__law_number T h__law_draw h__law_pick cdv A outer s H E gd hr).elim fun t ht => ⟨t, _, ht, body⟩

theorem sc__law_two_right : FnScope ["heap", "kind", "one", "other", "root", "gap", "told", "reach", "high", "low", "least", "most", "due"] ["heap", "kind", "one", "other"] (defScope s__law_two_right) := ⟨rfl, rfl, rfl, by decide +kernel, rfl, by decide +kernel, by decide +kernel⟩
abbrev W__law_two_right : WS := (wSeq (wAsg (wCall F__law_root (wCons (wOp (fI CM fun i j => .int (i * j)) (wOp (fI CM fun i j => .int (i * j)) (wC (.int 4)) (wVar 2)) (wVar 3)) wNil)) (wgName 4)) (wSeq (wAsg (wIf (wB (wOp (eqV false) (wVar 1) (wC (.str "square")))) (wOp (fI0 fun i j => .int (i - j)) (wOp addD (wVar 2) (wVar 3)) (wVar 4)) (wOp (fI0 fun i j => .int (i - j)) (wCB (f2I fun i j => if j > i then j else i) (wCons (wVar 2) (wCons (wVar 3) wNil))) (wCB (f2I fun i j => if j < i then j else i) (wCons (wVar 2) (wCons (wVar 3) wNil))))) (wgName 5)) (wSeq (wAsg (wCall F_gap_of (wCons (wVar 1) (wCons (wVar 2) (wCons (wVar 3) wNil)))) (wgName 6)) (wSeq (wIfS (wOr (wB (wOp (eqV true) (wCB fRepr (wCons (wVar 6) wNil)) (wCB fRepr (wCons (wVar 5) wNil)))) (wOr (wB (wOp (eqV true) (wCallK 0 3 [2, 1, 0] F_gap_of wNil (wCons (wVar 3) (wCons (wVar 2) (wCons (wVar 1) wNil)))) (wVar 5))) (wOr (wB (wOp (eqV true) (wCall F_gap_of (wCons (wVar 1) (wCons (wVar 3) (wCons (wVar 2) wNil)))) (wVar 5))) (wB (wOp fLt (wVar 6) (wC (.int 0))))))) (wRet (wC (.bl false))) wNext) (wSeq (wPar 8 9 (wCons (wCB (f2I fun i j => if j > i then j else i) (wCons (wVar 2) (wCons (wVar 3) wNil))) (wCons (wCB (f2I fun i j => if j < i then j else i) (wCons (wVar 2) (wCons (wVar 3) wNil))) wNil))) (wSeq (wIfS (wOr (wNot (wB (wCall F__law_reach (wCons (wVar 1) (wCons (wVar 8) (wCons (wVar 9) (wCons (wVar 5) wNil))))))) (wAnd (wB (wOp fGt (wVar 5) (wC (.int 0)))) (wB (wCall F__law_reach (wCons (wVar 1) (wCons (wVar 8) (wCons (wVar 9) (wCons (wOp (fI0 fun i j => .int (i - j)) (wVar 5) (wC (.int 1))) wNil)))))))) (wRet (wC (.bl false))) wNext) (wSeq (wPar 10 11 (wCons (wIf (wB (wOp fGt (wVar 2) (wVar 3))) (wVar 5) (wC (.int 0))) (wCons (wOp addD (wOp addD (wVar 2) (wVar 3)) (wIf (wB (wOp (eqV false) (wVar 1) (wC (.str "square")))) (wVar 4) (wC (.int 0)))) wNil))) (wSeq (wIfS (wOr (wB (wOp (eqV true) (wCB fRepr (wCons (wCall F_least_beyond (wCons (wVar 1) (wCons (wVar 2) (wCons (wVar 3) wNil)))) wNil)) (wCB fRepr (wCons (wVar 10) wNil)))) (wB (wOp (eqV true) (wCallK 0 3 [2, 1, 0] F_least_beyond wNil (wCons (wVar 3) (wCons (wVar 2) (wCons (wVar 1) wNil)))) (wVar 10)))) (wRet (wC (.bl false))) wNext) (wSeq (wIfS (wOr (wB (wOp (eqV true) (wCB fRepr (wCons (wCall F_most_beyond (wCons (wVar 1) (wCons (wVar 2) (wCons (wVar 3) wNil)))) wNil)) (wCB fRepr (wCons (wVar 11) wNil)))) (wB (wOp (eqV true) (wCallK 0 3 [2, 1, 0] F_most_beyond wNil (wCons (wVar 3) (wCons (wVar 2) (wCons (wVar 1) wNil)))) (wVar 11)))) (wRet (wC (.bl false))) wNext) (wSeq (wIfS (wOr (wNot (wB (wCall F__law_reach (wCons (wVar 1) (wCons (wVar 11) (wCons (wVar 2) (wCons (wVar 3) wNil))))))) (wOr (wB (wCall F__law_reach (wCons (wVar 1) (wCons (wOp addD (wVar 11) (wC (.int 1))) (wCons (wVar 2) (wCons (wVar 3) wNil)))))) (wB (wOp fGt (wVar 10) (wVar 11))))) (wRet (wC (.bl false))) wNext) (wSeq (wFor (wiSeq (wLst (wCons (wVar 10) (wCons (wCB (f2I fun i j => if j > i then j else i) (wCons (wC (.int 0)) (wCons (wOp (fI0 fun i j => .int (i - j)) (wVar 10) (wC (.int 1))) wNil))) (wCons (wCall F__law_number (wCons (wVar 0) wNil)) (wCons (wC (.int 0)) wNil)))))) (wgName 7) (wSeq (wAsg (wCall F__law_reach (wCons (wVar 1) (wCons (wVar 2) (wCons (wVar 3) (wCons (wVar 7) wNil))))) (wgName 12)) (wSeq (wIfS (wOr (wB (wOp (eqV true) (wCB fRepr (wCons (wCall F_reaches (wCons (wVar 1) (wCons (wVar 2) (wCons (wVar 3) (wCons (wVar 7) wNil))))) wNil)) (wCB fRepr (wCons (wVar 12) wNil)))) (wB (wOp (eqV true) (wVar 12) (wOp fLe (wVar 10) (wVar 7))))) (wRet (wC (.bl false))) wNext) (wIfS (wB (wOp (eqV true) (wCB fRepr (wCons (wCallK 0 4 [3, 2, 1, 0] F_reaches wNil (wCons (wVar 7) (wCons (wVar 3) (wCons (wVar 2) (wCons (wVar 1) wNil))))) wNil)) (wCB fRepr (wCons (wCall F_reaches (wCons (wVar 1) (wCons (wVar 2) (wCons (wVar 7) (wCons (wVar 3) wNil))))) wNil)))) (wRet (wC (.bl false))) wNext)))) (wRet (wAndV (wOp (eqV false) (wCall F_least_beyond (wCons (wVar 1) (wCons (wVar 2) (wCons (wVar 2) wNil)))) (wC (.int 0))) (wAndV (wOp (eqV false) (wCall F_gap_of (wCons (wVar 1) (wCons (wVar 2) (wCons (wC (.int 0)) wNil)))) (wVar 2)) (wOp (eqV false) (wCall F_most_beyond (wCons (wVar 1) (wCons (wC (.int 0)) (wCons (wVar 2) wNil)))) (wVar 2))))))))))))))))
theorem dv__law_two_right {f : Addr} (T : Txt K mg aKINDS) (h_gap_of : Has P w K mg base 2 "gap_of" s_gap_of ["kind", "one", "other"] F_gap_of) (h_least_beyond : Has P w K mg base 3 "least_beyond" s_least_beyond ["kind", "from_centre", "radius"] F_least_beyond) (h_most_beyond : Has P w K mg base 2 "most_beyond" s_most_beyond ["kind", "from_centre", "radius"] F_most_beyond) (h_reaches : Has P w K mg base 1 "reaches" s_reaches ["kind", "from_centre", "radius", "reach"] F_reaches) (h__law_root : Has P w K mg base 1 "_law_root" s__law_root ["number"] F__law_root) (h__law_reach : Has P w K mg base 1 "_law_reach" s__law_reach ["kind", "far", "radius", "reach"] F__law_reach) (h__law_number : Has P w K mg base 3 "_law_number" s__law_number ["heap"] F__law_number) (cdv : Value) (A : Around) (outer : List Env) (s : Shared) (H : Hp) (E : XK) (gd : A.guards = some []) (hr : Room 3 (A.deeper (envOfC "_law_two_right" (defScope s__law_two_right) s.heap.objs.size f cdv))) :
    ∃ t, DSs (cxOf (L2.CX P w) P w K mg base ["heap", "kind", "one", "other", "root", "gap", "told", "reach", "high", "low", "least", "most", "due"] "_law_two_right" (defScope s__law_two_right) f cdv A outer s H E) E (defBody s__law_two_right) t W__law_two_right := ⟨_, (dss_cons (ds_set 4 sc__law_two_right.nd (de_h h__law_root (hr.mono (by decide)) gd (da_cons (de_mul (de_mul de_int (de_var 2)) (de_var 3)) da_nil))) (dss_cons (ds_set 5 sc__law_two_right.nd (de_if (dt_cmp (op_eqV hr) sim_eqV (de_var 1) de_str) (de_sub (de_add (de_var 2) (de_var 3)) (de_var 4)) (de_sub (de_callB (call_max2 rfl) sim_2I T.z_max (show bootBuiltins "max" = some (.builtin "max") from rfl) (da_cons (de_var 2) (da_cons (de_var 3) da_nil))) (de_callB (call_min2 rfl) sim_2I T.z_min (show bootBuiltins "min" = some (.builtin "min") from rfl) (da_cons (de_var 2) (da_cons (de_var 3) da_nil)))))) (dss_cons (ds_set 6 sc__law_two_right.nd (de_h h_gap_of (hr.mono (by decide)) gd (da_cons (de_var 1) (da_cons (de_var 2) (da_cons (de_var 3) da_nil))))) (dss_cons (ds_if (DW.dt (dw_or (dt_cmp (op_neV hr) sim_neV (de_callB (call_repr_any hr gd) sim_repr T.z_repr (show bootBuiltins "repr" = some (.builtin "repr") from rfl) (da_cons (de_var 6) da_nil)) (de_callB (call_repr_any hr gd) sim_repr T.z_repr (show bootBuiltins "repr" = some (.builtin "repr") from rfl) (da_cons (de_var 5) da_nil))) (dw_or (dt_cmp (op_neV hr) sim_neV (de_hk0 (ks := ["other", "one", "kind"]) (idx := [2, 1, 0]) h_gap_of (hr.mono (by decide)) gd (fun _ _ _ _ _ _ us ws h1 h2 => match us, ws, h1, h2 with | [], [_, _, _], _, _ => rfl) (dk_cons (de_var 3) (dk_cons (de_var 2) (dk_cons (de_var 1) dk_nil)))) (de_var 5)) (dw_or (dt_cmp (op_neV hr) sim_neV (de_h h_gap_of (hr.mono (by decide)) gd (da_cons (de_var 1) (da_cons (de_var 3) (da_cons (de_var 2) da_nil)))) (de_var 5)) (dw_or1 (dt_cmp op_lt sim_lt (de_var 6) de_int)))))) (dss_one (ds_ret de_bl)) dss_nil) (dss_cons (ds_par 8 9 rfl sc__law_two_right.nd (da_cons (de_callB (call_max2 rfl) sim_2I T.z_max (show bootBuiltins "max" = some (.builtin "max") from rfl) (da_cons (de_var 2) (da_cons (de_var 3) da_nil))) (da_cons (de_callB (call_min2 rfl) sim_2I T.z_min (show bootBuiltins "min" = some (.builtin "min") from rfl) (da_cons (de_var 2) (da_cons (de_var 3) da_nil))) da_nil))) (dss_cons (ds_if (DW.dt (dw_or (dt_not (dt_val (de_h h__law_reach (hr.mono (by decide)) gd (da_cons (de_var 1) (da_cons (de_var 8) (da_cons (de_var 9) (da_cons (de_var 5) da_nil))))))) (dw_or1 (DW.dt (dw_and (dt_cmp op_gt sim_gt (de_var 5) de_int) (dw_and1 (dt_val (de_h h__law_reach (hr.mono (by decide)) gd (da_cons (de_var 1) (da_cons (de_var 8) (da_cons (de_var 9) (da_cons (de_sub (de_var 5) de_int) da_nil)))))))))))) (dss_one (ds_ret de_bl)) dss_nil) (dss_cons (ds_par 10 11 rfl sc__law_two_right.nd (da_cons (de_if (dt_cmp op_gt sim_gt (de_var 2) (de_var 3)) (de_var 5) de_int) (da_cons (de_add (de_add (de_var 2) (de_var 3)) (de_if (dt_cmp (op_eqV hr) sim_eqV (de_var 1) de_str) (de_var 4) de_int)) da_nil))) (dss_cons (ds_if (DW.dt (dw_or (dt_cmp (op_neV hr) sim_neV (de_callB (call_repr_any hr gd) sim_repr T.z_repr (show bootBuiltins "repr" = some (.builtin "repr") from rfl) (da_cons (de_h h_least_beyond (hr.mono (by decide)) gd (da_cons (de_var 1) (da_cons (de_var 2) (da_cons (de_var 3) da_nil)))) da_nil)) (de_callB (call_repr_any hr gd) sim_repr T.z_repr (show bootBuiltins "repr" = some (.builtin "repr") from rfl) (da_cons (de_var 10) da_nil))) (dw_or1 (dt_cmp (op_neV hr) sim_neV (de_hk0 (ks := ["radius", "from_centre", "kind"]) (idx := [2, 1, 0]) h_least_beyond (hr.mono (by decide)) gd (fun _ _ _ _ _ _ us ws h1 h2 => match us, ws, h1, h2 with | [], [_, _, _], _, _ => rfl) (dk_cons (de_var 3) (dk_cons (de_var 2) (dk_cons (de_var 1) dk_nil)))) (de_var 10))))) (dss_one (ds_ret de_bl)) dss_nil) (dss_cons (ds_if (DW.dt (dw_or (dt_cmp (op_neV hr) sim_neV (de_callB (call_repr_any hr gd) sim_repr T.z_repr (show bootBuiltins "repr" = some (.builtin "repr") from rfl) (da_cons (de_h h_most_beyond (hr.mono (by decide)) gd (da_cons (de_var 1) (da_cons (de_var 2) (da_cons (de_var 3) da_nil)))) da_nil)) (de_callB (call_repr_any hr gd) sim_repr T.z_repr (show bootBuiltins "repr" = some (.builtin "repr") from rfl) (da_cons (de_var 11) da_nil))) (dw_or1 (dt_cmp (op_neV hr) sim_neV (de_hk0 (ks := ["radius", "from_centre", "kind"]) (idx := [2, 1, 0]) h_most_beyond (hr.mono (by decide)) gd (fun _ _ _ _ _ _ us ws h1 h2 => match us, ws, h1, h2 with | [], [_, _, _], _, _ => rfl) (dk_cons (de_var 3) (dk_cons (de_var 2) (dk_cons (de_var 1) dk_nil)))) (de_var 11))))) (dss_one (ds_ret de_bl)) dss_nil) (dss_cons (ds_if (DW.dt (dw_or (dt_not (dt_val (de_h h__law_reach (hr.mono (by decide)) gd (da_cons (de_var 1) (da_cons (de_var 11) (da_cons (de_var 2) (da_cons (de_var 3) da_nil))))))) (dw_or (dt_val (de_h h__law_reach (hr.mono (by decide)) gd (da_cons (de_var 1) (da_cons (de_add (de_var 11) de_int) (da_cons (de_var 2) (da_cons (de_var 3) da_nil)))))) (dw_or1 (dt_cmp op_gt sim_gt (de_var 10) (de_var 11)))))) (dss_one (ds_ret de_bl)) dss_nil) (dss_cons (ds_for (passes_of rfl) rfl (di_seq (de_lst (da_cons (de_var 10) (da_cons (de_callB (call_max2 rfl) sim_2I T.z_max (show bootBuiltins "max" = some (.builtin "max") from rfl) (da_cons de_int (da_cons (de_sub (de_var 10) de_int) da_nil))) (da_cons (de_h h__law_number (hr.mono (by decide)) gd (da_cons (de_var 0) da_nil)) (da_cons de_int da_nil)))))) (dg_name 7 sc__law_two_right.nd) (dss_cons (ds_set 12 sc__law_two_right.nd (de_h h__law_reach (hr.mono (by decide)) gd (da_cons (de_var 1) (da_cons (de_var 2) (da_cons (de_var 3) (da_cons (de_var 7) da_nil)))))) (dss_cons (ds_if (DW.dt (dw_or (dt_cmp (op_neV hr) sim_neV (de_callB (call_repr_any hr gd) sim_repr T.z_repr (show bootBuiltins "repr" = some (.builtin "repr") from rfl) (da_cons (de_h h_reaches (hr.mono (by decide)) gd (da_cons (de_var 1) (da_cons (de_var 2) (da_cons (de_var 3) (da_cons (de_var 7) da_nil))))) da_nil)) (de_callB (call_repr_any hr gd) sim_repr T.z_repr (show bootBuiltins "repr" = some (.builtin "repr") from rfl) (da_cons (de_var 12) da_nil))) (dw_or1 (dt_cmp (op_neV hr) sim_neV (de_var 12) (de_cmp op_le sim_le (de_var 10) (de_var 7)))))) (dss_one (ds_ret de_bl)) dss_nil) (dss_one (ds_if (dt_cmp (op_neV hr) sim_neV (de_callB (call_repr_any hr gd) sim_repr T.z_repr (show bootBuiltins "repr" = some (.builtin "repr") from rfl) (da_cons (de_hk0 (ks := ["reach", "radius", "from_centre", "kind"]) (idx := [3, 2, 1, 0]) h_reaches (hr.mono (by decide)) gd (fun _ _ _ _ _ _ us ws h1 h2 => match us, ws, h1, h2 with | [], [_, _, _, _], _, _ => rfl) (dk_cons (de_var 7) (dk_cons (de_var 3) (dk_cons (de_var 2) (dk_cons (de_var 1) dk_nil))))) da_nil)) (de_callB (call_repr_any hr gd) sim_repr T.z_repr (show bootBuiltins "repr" = some (.builtin "repr") from rfl) (da_cons (de_h h_reaches (hr.mono (by decide)) gd (da_cons (de_var 1) (da_cons (de_var 2) (da_cons (de_var 7) (da_cons (de_var 3) da_nil))))) da_nil))) (dss_one (ds_ret de_bl)) dss_nil))))) (dss_one (ds_ret (de_and (de_cmp (op_eqV hr) sim_eqV (de_h h_least_beyond (hr.mono (by decide)) gd (da_cons (de_var 1) (da_cons (de_var 2) (da_cons (de_var 2) da_nil)))) de_int) (de_and (de_cmp (op_eqV hr) sim_eqV (de_h h_gap_of (hr.mono (by decide)) gd (da_cons (de_var 1) (da_cons (de_var 2) (da_cons de_int da_nil)))) (de_var 2)) (de_one (de_cmp (op_eqV hr) sim_eqV (de_h h_most_beyond (hr.mono (by decide)) gd (da_cons (de_var 1) (da_cons de_int (da_cons (de_var 2) da_nil)))) (de_var 2))))))))))))))))))⟩
theorem ok__law_two_right {f : Addr} {fd : FuncData} (Fn : Fun K "_law_two_right" "_law_two_right" s__law_two_right f fd) (T : Txt K mg aKINDS) (h_gap_of : Has P w K mg base 2 "gap_of" s_gap_of ["kind", "one", "other"] F_gap_of) (h_least_beyond : Has P w K mg base 3 "least_beyond" s_least_beyond ["kind", "from_centre", "radius"] F_least_beyond) (h_most_beyond : Has P w K mg base 2 "most_beyond" s_most_beyond ["kind", "from_centre", "radius"] F_most_beyond) (h_reaches : Has P w K mg base 1 "reaches" s_reaches ["kind", "from_centre", "radius", "reach"] F_reaches) (h__law_root : Has P w K mg base 1 "_law_root" s__law_root ["number"] F__law_root) (h__law_reach : Has P w K mg base 1 "_law_reach" s__law_reach ["kind", "far", "radius", "reach"] F__law_reach) (h__law_number : Has P w K mg base 3 "_law_number" s__law_number ["heap"] F__law_number) (len : ∀ ds M Q E, F__law_two_right ds M Q E → ds.length = 4)
    (body : ∀ ds M Q R, F__law_two_right ds M Q R → W__law_two_right { nx := fun _ M' => Q .non M', rt := Q, xr := R } (startE 13 ds) M) : FnG P w K mg base 4 f fd ["heap", "kind", "one", "other"] (lift K F__law_two_right) :=
  ok_fn Fn sc__law_two_right len fun cdv A outer s H E gd hr => (dv__law_two_right T h_gap_of h_least_beyond h_most_beyond h_reaches h__law_root h__law_reach h__law_number cdv A outer s H E gd hr).elim fun t ht => ⟨t, _, ht, body⟩

theorem sc__law_grown_right : FnScope ["heap", "kind", "one", "other", "more"] ["heap", "kind", "one", "other"] (defScope s__law_grown_right) := ⟨rfl, rfl, rfl, by decide +kernel, rfl, by decide +kernel, by decide +kernel⟩
abbrev W__law_grown_right : WS := (wSeq (wAsg (wOp addD (wC (.int 1)) (wCall F__law_draw (wCons (wVar 0) (wCons (wC (.int 50)) wNil)))) (wgName 4)) (wSeq (wIfS (wOr (wB (wOp fGt (wCall F_least_beyond (wCons (wVar 1) (wCons (wVar 2) (wCons (wOp addD (wVar 3) (wVar 4)) wNil)))) (wCall F_least_beyond (wCons (wVar 1) (wCons (wVar 2) (wCons (wVar 3) wNil)))))) (wB (wOp fLt (wCall F_least_beyond (wCons (wVar 1) (wCons (wOp addD (wVar 2) (wVar 4)) (wCons (wVar 3) wNil)))) (wCall F_least_beyond (wCons (wVar 1) (wCons (wVar 2) (wCons (wVar 3) wNil))))))) (wRet (wC (.bl false))) wNext) (wRet (wAndV (wOp fGe (wCall F_most_beyond (wCons (wVar 1) (wCons (wOp addD (wVar 2) (wVar 4)) (wCons (wVar 3) wNil)))) (wCall F_most_beyond (wCons (wVar 1) (wCons (wVar 2) (wCons (wVar 3) wNil))))) (wOp fGe (wCall F_most_beyond (wCons (wVar 1) (wCons (wVar 2) (wCons (wOp addD (wVar 3) (wVar 4)) wNil)))) (wCall F_most_beyond (wCons (wVar 1) (wCons (wVar 2) (wCons (wVar 3) wNil)))))))))
theorem dv__law_grown_right {f : Addr} (T : Txt K mg aKINDS) (h_least_beyond : Has P w K mg base 3 "least_beyond" s_least_beyond ["kind", "from_centre", "radius"] F_least_beyond) (h_most_beyond : Has P w K mg base 2 "most_beyond" s_most_beyond ["kind", "from_centre", "radius"] F_most_beyond) (h__law_draw : Has P w K mg base 1 "_law_draw" s__law_draw ["heap", "many"] F__law_draw) (cdv : Value) (A : Around) (outer : List Env) (s : Shared) (H : Hp) (E : XK) (gd : A.guards = some []) (hr : Room 3 (A.deeper (envOfC "_law_grown_right" (defScope s__law_grown_right) s.heap.objs.size f cdv))) :
    ∃ t, DSs (cxOf (L2.CX P w) P w K mg base ["heap", "kind", "one", "other", "more"] "_law_grown_right" (defScope s__law_grown_right) f cdv A outer s H E) E (defBody s__law_grown_right) t W__law_grown_right := ⟨_, (dss_cons (ds_set 4 sc__law_grown_right.nd (de_add de_int (de_h h__law_draw (hr.mono (by decide)) gd (da_cons (de_var 0) (da_cons de_int da_nil))))) (dss_cons (ds_if (DW.dt (dw_or (dt_cmp op_gt sim_gt (de_h h_least_beyond (hr.mono (by decide)) gd (da_cons (de_var 1) (da_cons (de_var 2) (da_cons (de_add (de_var 3) (de_var 4)) da_nil)))) (de_h h_least_beyond (hr.mono (by decide)) gd (da_cons (de_var 1) (da_cons (de_var 2) (da_cons (de_var 3) da_nil))))) (dw_or1 (dt_cmp op_lt sim_lt (de_h h_least_beyond (hr.mono (by decide)) gd (da_cons (de_var 1) (da_cons (de_add (de_var 2) (de_var 4)) (da_cons (de_var 3) da_nil)))) (de_h h_least_beyond (hr.mono (by decide)) gd (da_cons (de_var 1) (da_cons (de_var 2) (da_cons (de_var 3) da_nil)))))))) (dss_one (ds_ret de_bl)) dss_nil) (dss_one (ds_ret (de_and (de_cmp op_ge sim_ge (de_h h_most_beyond (hr.mono (by decide)) gd (da_cons (de_var 1) (da_cons (de_add (de_var 2) (de_var 4)) (da_cons (de_var 3) da_nil)))) (de_h h_most_beyond (hr.mono (by decide)) gd (da_cons (de_var 1) (da_cons (de_var 2) (da_cons (de_var 3) da_nil))))) (de_one (de_cmp op_ge sim_ge (de_h h_most_beyond (hr.mono (by decide)) gd (da_cons (de_var 1) (da_cons (de_var 2) (da_cons (de_add (de_var 3) (de_var 4)) da_nil)))) (de_h h_most_beyond (hr.mono (by decide)) gd (da_cons (de_var 1) (da_cons (de_var 2) (da_cons (de_var 3) da_nil)))))))))))⟩
theorem ok__law_grown_right {f : Addr} {fd : FuncData} (Fn : Fun K "_law_grown_right" "_law_grown_right" s__law_grown_right f fd) (T : Txt K mg aKINDS) (h_least_beyond : Has P w K mg base 3 "least_beyond" s_least_beyond ["kind", "from_centre", "radius"] F_least_beyond) (h_most_beyond : Has P w K mg base 2 "most_beyond" s_most_beyond ["kind", "from_centre", "radius"] F_most_beyond) (h__law_draw : Has P w K mg base 1 "_law_draw" s__law_draw ["heap", "many"] F__law_draw) (len : ∀ ds M Q E, F__law_grown_right ds M Q E → ds.length = 4)
    (body : ∀ ds M Q R, F__law_grown_right ds M Q R → W__law_grown_right { nx := fun _ M' => Q .non M', rt := Q, xr := R } (startE 5 ds) M) : FnG P w K mg base 4 f fd ["heap", "kind", "one", "other"] (lift K F__law_grown_right) :=
  ok_fn Fn sc__law_grown_right len fun cdv A outer s H E gd hr => (dv__law_grown_right T h_least_beyond h_most_beyond h__law_draw cdv A outer s H E gd hr).elim fun t ht => ⟨t, _, ht, body⟩

theorem sc__law_squares_right : FnScope ["heap", "size", "reach", "times", "far", "radius"] ["heap"] (defScope s__law_squares_right) := ⟨rfl, rfl, rfl, by decide +kernel, rfl, by decide +kernel, by decide +kernel⟩
abbrev W__law_squares_right : WS := (wSeq (wPar3 3 4 5 (wCons (wOp addD (wC (.int 1)) (wCall F__law_draw (wCons (wVar 0) (wCons (wC (.int 40)) wNil)))) (wCons (wCall F__law_draw (wCons (wVar 0) (wCons (wC (.int 3000)) wNil))) (wCons (wCall F__law_draw (wCons (wVar 0) (wCons (wC (.int 3000)) wNil))) wNil)))) (wSeq (wAsg (wIf (wB (wOp fGt (wVar 4) (wVar 5))) (wOp (fI0 fun i j => .int (i - j)) (wVar 4) (wVar 5)) (wOp (fI0 fun i j => .int (i - j)) (wVar 5) (wVar 4))) (wgName 1)) (wSeq (wIfS (wB (wOp (eqV true) (wCall F_gap_of (wCons (wC (.str "square")) (wCons (wOp (fI CM fun i j => .int (i * j)) (wOp (fI CM fun i j => .int (i * j)) (wVar 3) (wVar 4)) (wVar 4)) (wCons (wOp (fI CM fun i j => .int (i * j)) (wOp (fI CM fun i j => .int (i * j)) (wVar 3) (wVar 5)) (wVar 5)) wNil)))) (wOp (fI CM fun i j => .int (i * j)) (wOp (fI CM fun i j => .int (i * j)) (wVar 3) (wVar 1)) (wVar 1)))) (wRet (wC (.bl false))) wNext) (wSeq (wIfS (wB (wOp (eqV true) (wCall F_most_beyond (wCons (wC (.str "square")) (wCons (wOp (fI CM fun i j => .int (i * j)) (wOp (fI CM fun i j => .int (i * j)) (wVar 3) (wVar 4)) (wVar 4)) (wCons (wOp (fI CM fun i j => .int (i * j)) (wOp (fI CM fun i j => .int (i * j)) (wVar 3) (wVar 5)) (wVar 5)) wNil)))) (wOp (fI CM fun i j => .int (i * j)) (wOp (fI CM fun i j => .int (i * j)) (wVar 3) (wOp addD (wVar 4) (wVar 5))) (wOp addD (wVar 4) (wVar 5))))) (wRet (wC (.bl false))) wNext) (wSeq (wFor (wiSeq (wLst (wCons (wVar 1) (wCons (wCB (f2I fun i j => if j > i then j else i) (wCons (wC (.int 0)) (wCons (wOp (fI0 fun i j => .int (i - j)) (wVar 1) (wC (.int 1))) wNil))) (wCons (wOp addD (wVar 1) (wC (.int 1))) (wCons (wCall F__law_draw (wCons (wVar 0) (wCons (wC (.int 3000)) wNil))) wNil)))))) (wgName 2) (wIfS (wB (wOp (eqV true) (wCB fRepr (wCons (wCall F_reaches (wCons (wC (.str "square")) (wCons (wOp (fI CM fun i j => .int (i * j)) (wOp (fI CM fun i j => .int (i * j)) (wVar 3) (wVar 4)) (wVar 4)) (wCons (wOp (fI CM fun i j => .int (i * j)) (wOp (fI CM fun i j => .int (i * j)) (wVar 3) (wVar 5)) (wVar 5)) (wCons (wOp (fI CM fun i j => .int (i * j)) (wOp (fI CM fun i j => .int (i * j)) (wVar 3) (wVar 2)) (wVar 2)) wNil))))) wNil)) (wCB fRepr (wCons (wOp fLe (wVar 4) (wOp addD (wVar 5) (wVar 2))) wNil)))) (wRet (wC (.bl false))) wNext)) (wRet (wC (.bl true))))))))
theorem dv__law_squares_right {f : Addr} (T : Txt K mg aKINDS) (h_gap_of : Has P w K mg base 2 "gap_of" s_gap_of ["kind", "one", "other"] F_gap_of) (h_most_beyond : Has P w K mg base 2 "most_beyond" s_most_beyond ["kind", "from_centre", "radius"] F_most_beyond) (h_reaches : Has P w K mg base 1 "reaches" s_reaches ["kind", "from_centre", "radius", "reach"] F_reaches) (h__law_draw : Has P w K mg base 1 "_law_draw" s__law_draw ["heap", "many"] F__law_draw) (cdv : Value) (A : Around) (outer : List Env) (s : Shared) (H : Hp) (E : XK) (gd : A.guards = some []) (hr : Room 2 (A.deeper (envOfC "_law_squares_right" (defScope s__law_squares_right) s.heap.objs.size f cdv))) :
    ∃ t, DSs (cxOf (L2.CX P w) P w K mg base ["heap", "size", "reach", "times", "far", "radius"] "_law_squares_right" (defScope s__law_squares_right) f cdv A outer s H E) E (defBody s__law_squares_right) t W__law_squares_right := ⟨_, (dss_cons (ds_par3 3 4 5 rfl sc__law_squares_right.nd (da_cons (de_add de_int (de_h h__law_draw (hr.mono (by decide)) gd (da_cons (de_var 0) (da_cons de_int da_nil)))) (da_cons (de_h h__law_draw (hr.mono (by decide)) gd (da_cons (de_var 0) (da_cons de_int da_nil))) (da_cons (de_h h__law_draw (hr.mono (by decide)) gd (da_cons (de_var 0) (da_cons de_int da_nil))) da_nil)))) (dss_cons (ds_set 1 sc__law_squares_right.nd (de_if (dt_cmp op_gt sim_gt (de_var 4) (de_var 5)) (de_sub (de_var 4) (de_var 5)) (de_sub (de_var 5) (de_var 4)))) (dss_cons (ds_if (dt_cmp (op_neV hr) sim_neV (de_h h_gap_of (hr.mono (by decide)) gd (da_cons de_str (da_cons (de_mul (de_mul (de_var 3) (de_var 4)) (de_var 4)) (da_cons (de_mul (de_mul (de_var 3) (de_var 5)) (de_var 5)) da_nil)))) (de_mul (de_mul (de_var 3) (de_var 1)) (de_var 1))) (dss_one (ds_ret de_bl)) dss_nil) (dss_cons (ds_if (dt_cmp (op_neV hr) sim_neV (de_h h_most_beyond (hr.mono (by decide)) gd (da_cons de_str (da_cons (de_mul (de_mul (de_var 3) (de_var 4)) (de_var 4)) (da_cons (de_mul (de_mul (de_var 3) (de_var 5)) (de_var 5)) da_nil)))) (de_mul (de_mul (de_var 3) (de_add (de_var 4) (de_var 5))) (de_add (de_var 4) (de_var 5)))) (dss_one (ds_ret de_bl)) dss_nil) (dss_cons (ds_for (passes_of rfl) rfl (di_seq (de_lst (da_cons (de_var 1) (da_cons (de_callB (call_max2 rfl) sim_2I T.z_max (show bootBuiltins "max" = some (.builtin "max") from rfl) (da_cons de_int (da_cons (de_sub (de_var 1) de_int) da_nil))) (da_cons (de_add (de_var 1) de_int) (da_cons (de_h h__law_draw (hr.mono (by decide)) gd (da_cons (de_var 0) (da_cons de_int da_nil))) da_nil)))))) (dg_name 2 sc__law_squares_right.nd) (dss_one (ds_if (dt_cmp (op_neV hr) sim_neV (de_callB (call_repr_any hr gd) sim_repr T.z_repr (show bootBuiltins "repr" = some (.builtin "repr") from rfl) (da_cons (de_h h_reaches (hr.mono (by decide)) gd (da_cons de_str (da_cons (de_mul (de_mul (de_var 3) (de_var 4)) (de_var 4)) (da_cons (de_mul (de_mul (de_var 3) (de_var 5)) (de_var 5)) (da_cons (de_mul (de_mul (de_var 3) (de_var 2)) (de_var 2)) da_nil))))) da_nil)) (de_callB (call_repr_any hr gd) sim_repr T.z_repr (show bootBuiltins "repr" = some (.builtin "repr") from rfl) (da_cons (de_cmp op_le sim_le (de_var 4) (de_add (de_var 5) (de_var 2))) da_nil))) (dss_one (ds_ret de_bl)) dss_nil))) (dss_one (ds_ret de_bl)))))))⟩
theorem ok__law_squares_right {f : Addr} {fd : FuncData} (Fn : Fun K "_law_squares_right" "_law_squares_right" s__law_squares_right f fd) (T : Txt K mg aKINDS) (h_gap_of : Has P w K mg base 2 "gap_of" s_gap_of ["kind", "one", "other"] F_gap_of) (h_most_beyond : Has P w K mg base 2 "most_beyond" s_most_beyond ["kind", "from_centre", "radius"] F_most_beyond) (h_reaches : Has P w K mg base 1 "reaches" s_reaches ["kind", "from_centre", "radius", "reach"] F_reaches) (h__law_draw : Has P w K mg base 1 "_law_draw" s__law_draw ["heap", "many"] F__law_draw) (len : ∀ ds M Q E, F__law_squares_right ds M Q E → ds.length = 1)
    (body : ∀ ds M Q R, F__law_squares_right ds M Q R → W__law_squares_right { nx := fun _ M' => Q .non M', rt := Q, xr := R } (startE 6 ds) M) : FnG P w K mg base 3 f fd ["heap"] (lift K F__law_squares_right) :=
  ok_fn Fn sc__law_squares_right len fun cdv A outer s H E gd hr => (dv__law_squares_right T h_gap_of h_most_beyond h_reaches h__law_draw cdv A outer s H E gd hr).elim fun t ht => ⟨t, _, ht, body⟩

theorem sc_law : FnScope ["script", "heap", "turn", "far", "kind", "other", "one"] ["script"] (defScope s_law) := ⟨rfl, rfl, rfl, by decide +kernel, rfl, by decide +kernel, by decide +kernel⟩
abbrev W_law : WS := (wSeq (wAsg (wCall F__law_heap (wCons (wVar 0) wNil)) (wgName 1)) (wSeq (wFor (wiRange1 (wCons (wOp addD (wC (.int 2)) (wCB fInt (wCons (wOp fGt (wCB fLen (wCons (wVar 0) wNil)) (wC (.int 2))) wNil))) wNil)) (wgName 2) (wSeq (wFor (wiSeq (wC c_KINDS)) (wgName 4) (wSeq (wPar 6 5 (wCons (wCall F__law_number (wCons (wVar 1) wNil)) (wCons (wCall F__law_number (wCons (wVar 1) wNil)) wNil))) (wSeq (wAsg (wCall F__law_pick (wCons (wVar 1) (wCons (wLst (wCons (wVar 5) (wCons (wVar 5) (wCons (wVar 5) (wCons (wVar 6) wNil))))) wNil))) (wgName 5)) (wIfS (wOr (wNot (wB (wCall F__law_two_right (wCons (wVar 1) (wCons (wVar 4) (wCons (wVar 6) (wCons (wVar 5) wNil))))))) (wNot (wB (wCall F__law_grown_right (wCons (wVar 1) (wCons (wVar 4) (wCons (wVar 6) (wCons (wVar 5) wNil)))))))) (wRet (wC (.bl false))) wNext)))) (wIfS (wNot (wB (wCall F__law_squares_right (wCons (wVar 1) wNil)))) (wRet (wC (.bl false))) wNext))) (wSeq (wIfS (wB (wOp (eqV true) (wLst (wCons (wCall F_gap_of (wCons (wC (.str "square")) (wCons (wC (.int 9)) (wCons (wC (.int 25)) wNil)))) (wCons (wCall F_gap_of (wCons (wC (.str "square")) (wCons (wC (.int 2)) (wCons (wC (.int 3)) wNil)))) (wCons (wCall F_least_beyond (wCons (wC (.str "square")) (wCons (wC (.int 49)) (wCons (wC (.int 10)) wNil)))) (wCons (wCall F_most_beyond (wCons (wC (.str "square")) (wCons (wC (.int 2)) (wCons (wC (.int 8)) wNil)))) wNil))))) (wLst (wCons (wC (.int 4)) (wCons (wC (.int 1)) (wCons (wC (.int 15)) (wCons (wC (.int 18)) wNil))))))) (wRet (wC (.bl false))) wNext) (wSeq (wIfS (wB (wOp (eqV true) (wLst (wCons (wCall F_reaches (wCons (wC (.str "square")) (wCons (wC (.int 50)) (wCons (wC (.int 18)) (wCons (wC (.int 8)) wNil))))) (wCons (wCall F_reaches (wCons (wC (.str "square")) (wCons (wC (.int 51)) (wCons (wC (.int 18)) (wCons (wC (.int 8)) wNil))))) (wCons (wCall F_reaches (wCons (wC (.str "most")) (wCons (wC (.int 5)) (wCons (wC (.int 3)) (wCons (wC (.int 2)) wNil))))) (wCons (wCall F_reaches (wCons (wC (.str "sum")) (wCons (wC (.int 6)) (wCons (wC (.int 3)) (wCons (wC (.int 2)) wNil))))) wNil))))) (wLst (wCons (wC (.bl true)) (wCons (wC (.bl false)) (wCons (wC (.bl true)) (wCons (wC (.bl false)) wNil))))))) (wRet (wC (.bl false))) wNext) (wSeq (wAsg (wOp (fI CM fun i j => .int (i * j)) (wC (.int 32)) (wOp (fI CPow fun i j => .int (i ^ j.toNat)) (wC (.int 10)) (wC (.int 8)))) (wgName 3)) (wRet (wAndV (wOp (eqV false) (wCall F_gap_of (wCons (wC (.str "square")) (wCons (wVar 3) (wCons (wOp (fI0 fun i j => .int (i - j)) (wVar 3) (wC (.int 1))) wNil)))) (wC (.int 1))) (wAndV (wOp (eqV false) (wCall F_most_beyond (wCons (wC (.str "square")) (wCons (wVar 3) (wCons (wVar 3) wNil)))) (wOp (fI CM fun i j => .int (i * j)) (wC (.int 4)) (wVar 3))) (wOp fIsB (wCall F_reaches (wCons (wC (.str "square")) (wCons (wVar 3) (wCons (wOp (fI CDivW fun i j => .int (i / j)) (wVar 3) (wC (.int 4))) (wCons (wOp (fI CDivW fun i j => .int (i / j)) (wVar 3) (wC (.int 4))) wNil))))) (wC (.bl true)))))))))))
theorem dv_law {f : Addr} (T : Txt K mg aKINDS) (h_gap_of : Has P w K mg base 2 "gap_of" s_gap_of ["kind", "one", "other"] F_gap_of) (h_least_beyond : Has P w K mg base 3 "least_beyond" s_least_beyond ["kind", "from_centre", "radius"] F_least_beyond) (h_most_beyond : Has P w K mg base 2 "most_beyond" s_most_beyond ["kind", "from_centre", "radius"] F_most_beyond) (h_reaches : Has P w K mg base 1 "reaches" s_reaches ["kind", "from_centre", "radius", "reach"] F_reaches) (h__law_heap : Has P w K mg base 1 "_law_heap" s__law_heap ["script"] F__law_heap) (h__law_pick : Has P w K mg base 2 "_law_pick" s__law_pick ["heap", "some"] F__law_pick) (h__law_number : Has P w K mg base 3 "_law_number" s__law_number ["heap"] F__law_number) (h__law_two_right : Has P w K mg base 4 "_law_two_right" s__law_two_right ["heap", "kind", "one", "other"] F__law_two_right) (h__law_grown_right : Has P w K mg base 4 "_law_grown_right" s__law_grown_right ["heap", "kind", "one", "other"] F__law_grown_right) (h__law_squares_right : Has P w K mg base 3 "_law_squares_right" s__law_squares_right ["heap"] F__law_squares_right) (cdv : Value) (A : Around) (outer : List Env) (s : Shared) (H : Hp) (E : XK) (gd : A.guards = some []) (hr : Room 4 (A.deeper (envOfC "law" (defScope s_law) s.heap.objs.size f cdv))) :
    ∃ t, DSs (cxOf (L2.CX P w) P w K mg base ["script", "heap", "turn", "far", "kind", "other", "one"] "law" (defScope s_law) f cdv A outer s H E) E (defBody s_law) t W_law := ⟨_, (dss_cons (ds_set 1 sc_law.nd (de_h h__law_heap (hr.mono (by decide)) gd (da_cons (de_var 0) da_nil))) (dss_cons (ds_for (passes_of rfl) rfl (di_range1 T.z_range (da_cons (de_add de_int (de_callTy call_int1 sim_int T.z_int (show bootBuiltins "int" = some (.type "int") from rfl) (da_cons (de_cmp op_gt sim_gt (de_callB call_lenA sim_len T.z_len (show bootBuiltins "len" = some (.builtin "len") from rfl) (da_cons (de_var 0) da_nil)) de_int) da_nil))) da_nil)) (dg_name 2 sc_law.nd) (dss_cons (ds_for (passes_of rfl) rfl (di_seq (de_glob (v := .ref aKINDS) (by rfl) T.m_KINDS rfl T.r_KINDS)) (dg_name 4 sc_law.nd) (dss_cons (ds_par 6 5 rfl sc_law.nd (da_cons (de_h h__law_number (hr.mono (by decide)) gd (da_cons (de_var 1) da_nil)) (da_cons (de_h h__law_number (hr.mono (by decide)) gd (da_cons (de_var 1) da_nil)) da_nil))) (dss_cons (ds_set 5 sc_law.nd (de_h h__law_pick (hr.mono (by decide)) gd (da_cons (de_var 1) (da_cons (de_lst (da_cons (de_var 5) (da_cons (de_var 5) (da_cons (de_var 5) (da_cons (de_var 6) da_nil))))) da_nil)))) (dss_one (ds_if (DW.dt (dw_or (dt_not (dt_val (de_h h__law_two_right (hr.mono (by decide)) gd (da_cons (de_var 1) (da_cons (de_var 4) (da_cons (de_var 6) (da_cons (de_var 5) da_nil))))))) (dw_or1 (dt_not (dt_val (de_h h__law_grown_right (hr.mono (by decide)) gd (da_cons (de_var 1) (da_cons (de_var 4) (da_cons (de_var 6) (da_cons (de_var 5) da_nil)))))))))) (dss_one (ds_ret de_bl)) dss_nil))))) (dss_one (ds_if (dt_not (dt_val (de_h h__law_squares_right (hr.mono (by decide)) gd (da_cons (de_var 1) da_nil)))) (dss_one (ds_ret de_bl)) dss_nil)))) (dss_cons (ds_if (dt_cmp (op_neV hr) sim_neV (de_lst (da_cons (de_h h_gap_of (hr.mono (by decide)) gd (da_cons de_str (da_cons de_int (da_cons de_int da_nil)))) (da_cons (de_h h_gap_of (hr.mono (by decide)) gd (da_cons de_str (da_cons de_int (da_cons de_int da_nil)))) (da_cons (de_h h_least_beyond (hr.mono (by decide)) gd (da_cons de_str (da_cons de_int (da_cons de_int da_nil)))) (da_cons (de_h h_most_beyond (hr.mono (by decide)) gd (da_cons de_str (da_cons de_int (da_cons de_int da_nil)))) da_nil))))) (de_lst (da_cons de_int (da_cons de_int (da_cons de_int (da_cons de_int da_nil)))))) (dss_one (ds_ret de_bl)) dss_nil) (dss_cons (ds_if (dt_cmp (op_neV hr) sim_neV (de_lst (da_cons (de_h h_reaches (hr.mono (by decide)) gd (da_cons de_str (da_cons de_int (da_cons de_int (da_cons de_int da_nil))))) (da_cons (de_h h_reaches (hr.mono (by decide)) gd (da_cons de_str (da_cons de_int (da_cons de_int (da_cons de_int da_nil))))) (da_cons (de_h h_reaches (hr.mono (by decide)) gd (da_cons de_str (da_cons de_int (da_cons de_int (da_cons de_int da_nil))))) (da_cons (de_h h_reaches (hr.mono (by decide)) gd (da_cons de_str (da_cons de_int (da_cons de_int (da_cons de_int da_nil))))) da_nil))))) (de_lst (da_cons de_bl (da_cons de_bl (da_cons de_bl (da_cons de_bl da_nil)))))) (dss_one (ds_ret de_bl)) dss_nil) (dss_cons (ds_set 3 sc_law.nd (de_mul de_int (de_pow de_int de_int))) (dss_one (ds_ret (de_and (de_cmp (op_eqV hr) sim_eqV (de_h h_gap_of (hr.mono (by decide)) gd (da_cons de_str (da_cons (de_var 3) (da_cons (de_sub (de_var 3) de_int) da_nil)))) de_int) (de_and (de_cmp (op_eqV hr) sim_eqV (de_h h_most_beyond (hr.mono (by decide)) gd (da_cons de_str (da_cons (de_var 3) (da_cons (de_var 3) da_nil)))) (de_mul de_int (de_var 3))) (de_one (de_cmp op_isBl sim_isB (de_h h_reaches (hr.mono (by decide)) gd (da_cons de_str (da_cons (de_var 3) (da_cons (de_fdiv (de_var 3) de_int) (da_cons (de_fdiv (de_var 3) de_int) da_nil))))) de_bl)))))))))))⟩
theorem ok_law {f : Addr} {fd : FuncData} (Fn : Fun K "law" "law" s_law f fd) (T : Txt K mg aKINDS) (h_gap_of : Has P w K mg base 2 "gap_of" s_gap_of ["kind", "one", "other"] F_gap_of) (h_least_beyond : Has P w K mg base 3 "least_beyond" s_least_beyond ["kind", "from_centre", "radius"] F_least_beyond) (h_most_beyond : Has P w K mg base 2 "most_beyond" s_most_beyond ["kind", "from_centre", "radius"] F_most_beyond) (h_reaches : Has P w K mg base 1 "reaches" s_reaches ["kind", "from_centre", "radius", "reach"] F_reaches) (h__law_heap : Has P w K mg base 1 "_law_heap" s__law_heap ["script"] F__law_heap) (h__law_pick : Has P w K mg base 2 "_law_pick" s__law_pick ["heap", "some"] F__law_pick) (h__law_number : Has P w K mg base 3 "_law_number" s__law_number ["heap"] F__law_number) (h__law_two_right : Has P w K mg base 4 "_law_two_right" s__law_two_right ["heap", "kind", "one", "other"] F__law_two_right) (h__law_grown_right : Has P w K mg base 4 "_law_grown_right" s__law_grown_right ["heap", "kind", "one", "other"] F__law_grown_right) (h__law_squares_right : Has P w K mg base 3 "_law_squares_right" s__law_squares_right ["heap"] F__law_squares_right) (len : ∀ ds M Q E, F_law ds M Q E → ds.length = 1)
    (body : ∀ ds M Q R, F_law ds M Q R → W_law { nx := fun _ M' => Q .non M', rt := Q, xr := R } (startE 7 ds) M) : FnG P w K mg base 5 f fd ["script"] (lift K F_law) :=
  ok_fn Fn sc_law len fun cdv A outer s H E gd hr => (dv_law T h_gap_of h_least_beyond h_most_beyond h_reaches h__law_heap h__law_pick h__law_number h__law_two_right h__law_grown_right h__law_squares_right cdv A outer s H E gd hr).elim fun t ht => ⟨t, _, ht, body⟩
theorem ok__law_draw {f : Addr} {fd : FuncData} (Fn : Fun K "_law_draw" "_law_draw" s__law_draw f fd) (T : Txt K mg aKINDS) : FnG P w K mg base 1 f fd ["heap", "many"] (lift K drawF) := by
  refine fn_g Fn sc__law_draw (fun vs H Q E h => ?_) (fun cdv A outer s H vs Q E gd hr h => ?_)
  · obtain ⟨Z, ds, M, Qd, Rd, _, r, ⟨a, a0, n, rfl, _⟩, _⟩ := h
    exact r.len
  · obtain ⟨Z, ds, M, Qd, Rd, sat, r, ⟨a, a0, n, rfl, hm, hn, hn2, q⟩, kq, _⟩ := h
    cases r with
    | cons r1 r2 =>
    cases r2 with
    | cons r2 r3 =>
    cases r3
    cases r1
    cases r2
    obtain ⟨m0, cs, st, ea, e0, s0, s1, cl, cn⟩ := sat.cell a _ hm
    have d0 : Dr H a a0 cs st H := ⟨fun _ _ _ _ e => e, ea, e0, s0, s1, cl, cn⟩
    have fin : ∀ (H' : Hp) (cs' : List Int) (st' k : Int), Dr H a a0 cs' st' H' → 0 ≤ k → k < n → Q (.int k) H' := fun H' cs' st' k d h1 h2 => kq _ _ H' M (Go.drawn sat hm d.keep d.ok) (.int k) (q k h1 h2)
    have last : ∀ cs' : List Int, cs' ≠ [] → ∃ cs0 c, cs' = cs0 ++ [c] := fun cs' h => ⟨_, _, (List.dropLast_concat_getLast h).symm⟩
    have tail : ∃ t2, PSs (cxOf (L2.CX P w) P w K mg base ["heap", "many", "rest"] "_law_draw" (defScope s__law_draw) f cdv A outer s H E) (defBody s__law_draw).tail t2 ∧
        ∀ (H2 : Hp) (cs' : List Int), Dr H a a0 cs' st H2 → t2 { nx := fun _ J => Q .non J, rt := Q } [some (.ref a), some (.int n), none] H2 := by
      refine ⟨_, pss_cons (ps_if (dt_cmp (op_neG hr) sim_ne (de_ix (de_var 0) de_int) (de_lst da_nil)).pe
            (pss_cons (ps_set (i := 2) sc__law_draw.nd rfl (Or.inl rfl) (pe_bm0 PySem.F.plainAttrs_list PySem.F.slot_list_pop PySem.F.type_list_pop mt_pop (de_ix (de_var 0) de_int).pe))
              (pss_cons (ps_expr (pe_bm PySem.F.plainAttrs_list PySem.F.slot_list_append PySem.F.type_list_append mt_append (de_ix (de_var 0) de_int).pe (da_cons (de_fdiv (de_var 2) (de_var 1)) da_nil).pe))
                (pss_one (ps_ret (de_mod (de_callTy call_int1 sim_int T.z_int (by rfl) (da_cons (de_var 2) da_nil)) (de_var 1)).pe)))) pss_nil)
          (pss_cons (ds_asg (E := E) (de_mod (de_callTy call_int1 sim_int T.z_int (by rfl) (da_cons (de_add (de_mul (de_ix (de_var 0) de_int) de_int) de_int) da_nil)) de_int) (dg_sub (de_var 0) de_int)).pe
            (pss_one (ps_ret (de_mod (de_callTy call_int1 sim_int T.z_int (by rfl) (da_cons (de_fdiv (de_ix (de_var 0) de_int) de_int) da_nil)) (de_var 1)).pe))), fun H2 cs' d2 => ?_⟩
      refine ⟨_, rfl, ix_l d2.ha rfl ⟨Nat.zero_le _, fun p hp => ?_⟩⟩
      have d3 := d2.new (o := .lst []) hp
      refine ne_nil d3.h0 upd_same ⟨_, rfl, ?_⟩
      refine ite2 (fun hc => ?_) (fun hc => ?_)
      · obtain ⟨cs0, c, rfl⟩ := last cs' (of_decide_eq_true hc)
        have c0 : 0 ≤ c := d3.pos c (List.mem_append_right _ (List.mem_singleton.mpr rfl))
        have d4 := d3.put (cs' := cs0) (by have z := d3.len; rw [List.length_append] at z; omega) (fun x hx => d3.pos x (List.mem_append_left _ hx))
        have l4 : cs0.length < 100 := by
          have z := d3.len
          rw [List.length_append, List.length_singleton] at z
          omega
        refine ⟨_, rfl, ix_l d3.ha rfl ⟨.inl ⟨rfl, _, SqL.of d3.h0⟩, pop_last d3.h0 ?_⟩⟩
        refine ⟨_, rfl, ix_l d4.ha rfl ⟨.inl ⟨rfl, _, SqL.of d4.h0⟩, _, rfl, _, rfl, _, _, rfl, rfl, ⟨hn, hn2⟩, a0, _, _, rfl, rfl, d4.h0, by rw [List.length_map]; exact Nat.lt_of_lt_of_le l4 (by decide), ?_⟩⟩
        have d5 := d4.put (cs' := cs0 ++ [c / n]) (by rw [List.length_append, List.length_singleton]; omega) (fun x hx => by
          rcases List.mem_append.mp hx with z | z
          · exact d4.pos x z
          · rw [List.mem_singleton.mp z]
            exact Int.ediv_nonneg c0 (by omega))
        rw [List.map_append] at d5
        refine ⟨_, rfl, .inl ⟨_, rfl, _, rfl, _, _, rfl, rfl, hn, ?_⟩⟩
        exact fin _ _ _ _ d5 (Int.emod_nonneg _ (by omega)) (Int.emod_lt_of_pos _ hn)
      · refine ⟨_, rfl, ix_l d3.ha rfl ⟨_, _, rfl, rfl, .inl (.inr ⟨by decide, by decide⟩), .inl ⟨_, _, rfl, rfl, .inl ⟨_, rfl, _, _, rfl, rfl, (by show (0 : Int) < 2147483647; decide), _, rfl, a, _, _, _, rfl, rfl, d3.ha, rfl, ?_⟩⟩⟩⟩
        have d5 := d3.stir (s' := (st * 48271 + 13) % 2147483647) (Int.emod_nonneg _ (by decide)) (Int.lt_trans (Int.emod_lt_of_pos _ (by decide)) (by decide))
        exact ⟨_, rfl, ix_l d5.ha rfl ⟨_, _, rfl, rfl, ⟨(by decide), (by decide)⟩, .inl ⟨_, rfl, _, rfl, _, _, rfl, rfl, hn, fin _ _ _ _ d5 (Int.emod_nonneg _ (by omega)) (Int.emod_lt_of_pos _ hn)⟩⟩⟩
    obtain ⟨t2, ht2, out⟩ := tail
    refine ⟨_, pss_cons (ps_while (passes_of rfl) (DW.dt (dw_and (dt_cmp (op_neG hr) sim_ne (de_ix (de_var 0) de_int) (de_lst da_nil)) (dw_and1 (dt_cmp (op_eqG hr) sim_eq (de_ix (de_ix (de_var 0) de_int) (de_neg de_int)) de_int)))).pe
        (pss_one (ps_expr (pe_bm0 PySem.F.plainAttrs_list PySem.F.slot_list_pop PySem.F.type_list_pop mt_pop (de_ix (de_var 0) de_int).pe)))) ht2, ?_⟩
    refine ⟨fun m σ' H' => σ' = [some (.ref a), some (.int n), none] ∧ ∃ cs' : List Int, Dr H a a0 cs' st H' ∧ m = cs'.length, ⟨_, rfl, cs, d0, rfl⟩, ?_⟩
    rintro m σ' H' ⟨rfl, cs', d, rfl⟩
    refine ⟨_, rfl, ix_l d.ha rfl ⟨Nat.zero_le _, fun p hp => ?_⟩⟩
    have d1 := d.new (o := .lst []) hp
    refine ne_nil d1.h0 upd_same ⟨_, rfl, ?_⟩
    refine ite2 (fun hc => ?_) (fun hc => ?_)
    · obtain ⟨cs0, c, rfl⟩ := last cs' (of_decide_eq_true hc)
      refine ⟨_, rfl, ix_l d1.ha rfl ⟨_, rfl, ix_l d1.h0 at_last ?_⟩⟩
      unfold tC
      refine eq_int ⟨_, rfl, ?_⟩
      refine ite2 (fun h0 => ?_) (fun h0 => ?_)
      · have dp := d1.put (cs' := cs0) (by have z := d1.len; rw [List.length_append] at z; omega) (fun x hx => d1.pos x (List.mem_append_left _ hx))
        refine ⟨fun σ2 H2 => σ2 = [some (.ref a), some (.int n), none] ∧ Dr H a a0 cs0 st H2, fun σ2 H2 ⟨e, d2⟩ => ⟨cs0.length, by rw [List.length_append, List.length_singleton]; omega, e, cs0, d2, rfl⟩, ?_⟩
        exact ⟨_, rfl, ix_l d1.ha rfl ⟨.inl ⟨rfl, _, SqL.of d1.h0⟩, pop_last d1.h0 ⟨rfl, dp⟩⟩⟩
      · exact out _ _ d1
    · exact out _ _ d1
end
end K04
namespace K04
open PySem L2 L3
/-! ### the arithmetic -/
theorem rt_le {n : Int} (h : 0 ≤ n) : 0 ≤ rt n ∧ rt n * rt n ≤ n ∧ n < (rt n + 1) * (rt n + 1) := by
  have s := Float64.isqrt_spec n.toNat
  have e : (n.toNat : Int) = n := Int.toNat_of_nonneg h
  refine ⟨Int.natCast_nonneg _, ?_, ?_⟩
  · have z : ((Float64.isqrt n.toNat * Float64.isqrt n.toNat : Nat) : Int) ≤ (n.toNat : Int) := by exact_mod_cast s.1
    rw [e, Int.natCast_mul] at z
    exact z
  · have z : (n.toNat : Int) < (((Float64.isqrt n.toNat + 1) * (Float64.isqrt n.toNat + 1) : Nat) : Int) := by exact_mod_cast s.2
    rw [e, Int.natCast_mul, Int.natCast_add] at z
    exact z
theorem sq_lt {a b : Int} (ha : 0 ≤ a) (hb : 0 ≤ b) (h : a * a < b * b) : a < b := by
  rcases Int.lt_or_le a b with z | z
  · exact z
  · have := Int.mul_le_mul z z hb ha
    omega
theorem sq_le {a b : Int} (hb : 0 ≤ b) (h : a ≤ b) (ha : 0 ≤ a) : a * a ≤ b * b := Int.mul_le_mul h h ha hb
/-- the root is the one whose square is at most the number, and the next one's is not -/
theorem rt_is {n r : Int} (h : 0 ≤ r) (h1 : r * r ≤ n) (h2 : n < (r + 1) * (r + 1)) : rt n = r := by
  have h0 : 0 ≤ n := Int.le_trans (Int.mul_nonneg h h) h1
  obtain ⟨t0, t1, t2⟩ := rt_le h0
  have a1 : rt n < r + 1 := sq_lt t0 (by omega) (by omega)
  have a2 : r < rt n + 1 := sq_lt h (by omega) (by omega)
  omega
theorem rt_mono {m n : Int} (h0 : 0 ≤ m) (h : m ≤ n) : rt m ≤ rt n := by
  obtain ⟨t0, t1, t2⟩ := rt_le h0
  obtain ⟨u0, u1, u2⟩ := rt_le (Int.le_trans h0 h)
  have a1 : rt m < rt n + 1 := sq_lt t0 (by omega) (by omega)
  omega
theorem le_rt {u n : Int} (h0 : 0 ≤ n) (hu : 0 ≤ u) : u ≤ rt n ↔ u * u ≤ n := by
  obtain ⟨t0, t1, t2⟩ := rt_le h0
  constructor
  · intro h
    have := sq_le t0 h hu
    omega
  · intro h
    have a1 : u < rt n + 1 := sq_lt hu (by omega) (by omega)
    omega
theorem p4 {a b : Int} (ha : 0 ≤ a) (hb : 0 ≤ b) : 0 ≤ 4 * a * b := Int.mul_nonneg (by omega) hb
theorem gap_comm {s : Bool} {a b : Int} : gapI s a b = gapI s b a := by
  unfold gapI
  have e : 4 * a * b = 4 * b * a := by grind
  rw [e]
  cases s
  · simp only [Bool.false_eq_true, if_false]
    split <;> split <;> omega
  · simp only [if_true]
    omega
theorem gap_pos {s : Bool} {a b : Int} (ha : 0 ≤ a) (hb : 0 ≤ b) : 0 ≤ gapI s a b := by
  unfold gapI
  cases s
  · simp only [Bool.false_eq_true, if_false]
    split <;> omega
  · simp only [if_true]
    obtain ⟨t0, t1, t2⟩ := rt_le (p4 ha hb)
    have : 0 ≤ (a - b) * (a - b) := by
      rcases Int.le_total 0 (a - b) with z | z
      · exact Int.mul_nonneg z z
      · exact Int.mul_nonneg_of_nonpos_of_nonpos z z
    have e : (a - b) * (a - b) = (a + b) * (a + b) - 4 * a * b := by grind
    have : rt (4 * a * b) < a + b + 1 := sq_lt t0 (by omega) (by
      have e2 : (a + b + 1) * (a + b + 1) = (a + b) * (a + b) + 2 * (a + b) + 1 := by grind
      omega)
    omega
theorem most_pos {s : Bool} {a b : Int} (ha : 0 ≤ a) (hb : 0 ≤ b) : 0 ≤ mostI s a b := by
  unfold mostI
  cases s
  · simp only [Bool.false_eq_true, if_false]
    omega
  · simp only [if_true]
    have := (rt_le (p4 ha hb)).1
    omega
theorem least_pos {s : Bool} {a b : Int} (ha : 0 ≤ a) (hb : 0 ≤ b) : 0 ≤ leastI s a b := by
  unfold leastI
  split
  · omega
  · exact gap_pos ha hb
/-- what reaches: just what is at least the least beyond -/
theorem reach_iff {s : Bool} {a b r : Int} (ha : 0 ≤ a) (hb : 0 ≤ b) (hr : 0 ≤ r) : reachB s a b r = true ↔ leastI s a b ≤ r := by
  unfold reachB leastI gapI
  cases s
  · simp only [true_or, if_true, decide_eq_true_eq, Bool.false_eq_true, if_false]
    split
    · omega
    · split <;> omega
  · simp only [Bool.true_eq_false, false_or, if_true]
    obtain ⟨t0, t1, t2⟩ := rt_le (p4 ha hb)
    by_cases hab : a ≤ b
    · rw [if_pos hab, if_pos (by omega)]
      simp only [decide_eq_true_eq]
      omega
    · rw [if_neg hab]
      by_cases h : a - b - r ≤ 0
      · rw [if_pos h]
        simp only [decide_eq_true_eq]
        have : 2 * b ≤ rt (4 * a * b) := (le_rt (p4 ha hb) (by omega)).mpr (by
          have e : (2 * b) * (2 * b) = 4 * b * b := by grind
          have : 4 * b * b ≤ 4 * a * b := Int.mul_le_mul_of_nonneg_right (by omega) hb
          omega)
        omega
      · rw [if_neg h]
        simp only [decide_eq_true_eq]
        have e : (a - b - r) * (a - b - r) - 4 * b * r = (a + b - r) * (a + b - r) - 4 * a * b := by grind
        have k := le_rt (u := a + b - r) (p4 ha hb) (by omega)
        constructor
        · intro z
          have := k.mpr (by omega)
          omega
        · intro z
          have := k.mp (by omega)
          omega
theorem reach_comm {s : Bool} {a b r : Int} : reachB s a b r = reachB s a r b := by
  unfold reachB
  have e1 : a - b - r = a - r - b := by omega
  have e2 : 4 * b * r = 4 * r * b := by grind
  rw [e1, e2]
theorem reach_is {s : Bool} {a b r : Int} (ha : 0 ≤ a) (hb : 0 ≤ b) (hr : 0 ≤ r) : reachB s a b r = decide (leastI s a b ≤ r) := by
  have z := reach_iff (s := s) ha hb hr
  cases h : reachB s a b r
  · rw [h] at z
    exact (decide_eq_false (fun q => nomatch z.mpr q)).symm
  · exact (decide_eq_true (z.mp h)).symm
/-- a greater one's least beyond is the gap -/
theorem least_gap {s : Bool} {a b : Int} (h : b ≤ a) (hb : 0 ≤ b) : leastI s a b = gapI s a b := by
  unfold leastI
  split
  · have e : a = b := by omega
    subst e
    unfold gapI
    cases s
    · simp
    · simp only [if_true]
      have : rt (4 * a * a) = 2 * a := rt_is (by omega) (by grind) (by grind)
      omega
  · rfl
/-- the most: as far as it reaches -/
theorem most_reach {s : Bool} {a b : Int} (ha : 0 ≤ a) (hb : 0 ≤ b) : reachB s (mostI s a b) a b = true ∧ reachB s (mostI s a b + 1) a b = false := by
  unfold reachB mostI
  cases s
  · simp only [true_or, if_true, decide_eq_true_eq, Bool.false_eq_true, if_false, decide_eq_false_iff_not]
    constructor <;> omega
  · simp only [Bool.true_eq_false, false_or, if_true]
    obtain ⟨t0, t1, t2⟩ := rt_le (p4 ha hb)
    have e1 : a + b + rt (4 * a * b) - a - b = rt (4 * a * b) := by omega
    have e2 : a + b + rt (4 * a * b) + 1 - a - b = rt (4 * a * b) + 1 := by omega
    rw [e1, e2]
    constructor
    · split
      · exact decide_eq_true (by omega)
      · exact decide_eq_true t1
    · rw [if_neg (by omega)]
      exact decide_eq_false (by omega)
theorem least_most {s : Bool} {a b : Int} (ha : 0 ≤ a) (hb : 0 ≤ b) : leastI s a b ≤ mostI s a b := by
  unfold leastI mostI gapI
  have := (rt_le (p4 ha hb)).1
  cases s
  · simp only [Bool.false_eq_true, if_false]
    split
    · omega
    · split <;> omega
  · simp only [if_true]
    split <;> omega
theorem reach_more {s : Bool} {a b r m : Int} (hb : 0 ≤ b) (hr : 0 ≤ r) (hm : 0 ≤ m) (h : reachB s a b r = true) : reachB s a (b + m) r = true := by
  unfold reachB at h ⊢
  cases s
  · simp only [true_or, if_true, decide_eq_true_eq] at h ⊢
    omega
  · simp only [Bool.true_eq_false, false_or] at h ⊢
    by_cases z : a - (b + m) - r ≤ 0
    · rw [if_pos z]
      exact decide_eq_true z
    · rw [if_neg z]
      rw [if_neg (by omega)] at h
      have h := of_decide_eq_true h
      have k := sq_le (a := a - (b + m) - r) (b := a - b - r) (by omega) (by omega) (by omega)
      have k2 : 4 * b * r ≤ 4 * (b + m) * r := Int.mul_le_mul_of_nonneg_right (by omega) hr
      exact decide_eq_true (by omega)
theorem reach_near {s : Bool} {a b r m : Int} (hm : 0 ≤ m) (h : reachB s (a + m) b r = true) : reachB s a b r = true := by
  unfold reachB at h ⊢
  cases s
  · simp only [true_or, if_true, decide_eq_true_eq] at h ⊢
    omega
  · simp only [Bool.true_eq_false, false_or] at h ⊢
    by_cases z : a - b - r ≤ 0
    · rw [if_pos z]
      exact decide_eq_true z
    · rw [if_neg z]
      rw [if_neg (by omega)] at h
      have h := of_decide_eq_true h
      have k := sq_le (a := a - b - r) (b := a + m - b - r) (by omega) (by omega) (by omega)
      exact decide_eq_true (by omega)
theorem least_more {s : Bool} {a b m : Int} (ha : 0 ≤ a) (hb : 0 ≤ b) (hm : 0 ≤ m) : leastI s a (b + m) ≤ leastI s a b :=
  (reach_iff ha (by omega) (least_pos ha hb)).mp (reach_more hb (least_pos ha hb) hm ((reach_iff ha hb (least_pos ha hb)).mpr (Int.le_refl _)))
theorem least_near {s : Bool} {a b m : Int} (ha : 0 ≤ a) (hb : 0 ≤ b) (hm : 0 ≤ m) : leastI s a b ≤ leastI s (a + m) b :=
  (reach_iff ha hb (least_pos (by omega) hb)).mp (reach_near hm ((reach_iff (by omega) hb (least_pos (by omega) hb)).mpr (Int.le_refl _)))
theorem most_more {s : Bool} {a b m : Int} (ha : 0 ≤ a) (hb : 0 ≤ b) (hm : 0 ≤ m) : mostI s a b ≤ mostI s a (b + m) ∧ mostI s a b ≤ mostI s (a + m) b := by
  unfold mostI
  cases s
  · simp only [Bool.false_eq_true, if_false]
    omega
  · simp only [if_true]
    have h1 : rt (4 * a * b) ≤ rt (4 * a * (b + m)) := rt_mono (p4 ha hb) (Int.mul_le_mul_of_nonneg_left (by omega) (by omega))
    have h2 : rt (4 * a * b) ≤ rt (4 * (a + m) * b) := rt_mono (p4 ha hb) (Int.mul_le_mul_of_nonneg_right (by omega) hb)
    omega
/-- squares times one number -/
theorem rt_squares {t f r : Int} (ht : 0 ≤ t) (hf : 0 ≤ f) (hr : 0 ≤ r) : rt (4 * (t * f * f) * (t * r * r)) = 2 * t * f * r := by
  have p : 0 ≤ 2 * t * f * r := Int.mul_nonneg (Int.mul_nonneg (by omega) hf) hr
  refine rt_is p ?_ ?_
  · have e : (2 * t * f * r) * (2 * t * f * r) = 4 * (t * f * f) * (t * r * r) := by grind
    omega
  · have e : (2 * t * f * r) * (2 * t * f * r) = 4 * (t * f * f) * (t * r * r) := by grind
    have e2 : (2 * t * f * r + 1) * (2 * t * f * r + 1) = (2 * t * f * r) * (2 * t * f * r) + 2 * (2 * t * f * r) + 1 := by grind
    omega
theorem gap_squares {t f r : Int} (ht : 0 ≤ t) (hf : 0 ≤ f) (hr : 0 ≤ r) : gapI true (t * f * f) (t * r * r) = t * (f - r) * (f - r) := by
  unfold gapI
  rw [if_pos rfl, rt_squares ht hf hr]
  grind
theorem most_squares {t f r : Int} (ht : 0 ≤ t) (hf : 0 ≤ f) (hr : 0 ≤ r) : mostI true (t * f * f) (t * r * r) = t * (f + r) * (f + r) := by
  unfold mostI
  rw [if_pos rfl, rt_squares ht hf hr]
  grind
theorem reach_squares {t f r q : Int} (ht : 0 < t) (hf : 0 ≤ f) (hr : 0 ≤ r) (hq : 0 ≤ q) : reachB true (t * f * f) (t * r * r) (t * q * q) = decide (f ≤ r + q) := by
  have ff := Int.mul_nonneg hf hf
  have rr := Int.mul_nonneg hr hr
  have qq := Int.mul_nonneg hq hq
  have rq := Int.mul_nonneg hr hq
  unfold reachB
  simp only [Bool.true_eq_false, false_or]
  have e : t * f * f - t * r * r - t * q * q = t * (f * f - r * r - q * q) := by grind
  have e2 : 4 * (t * r * r) * (t * q * q) = (t * (2 * (r * q))) * (t * (2 * (r * q))) := by grind
  have e3 : (r + q) * (r + q) = r * r + 2 * (r * q) + q * q := by grind
  rw [e, e2]
  by_cases h : f ≤ r + q
  · rw [decide_eq_true h]
    have k := sq_le (by omega) h hf
    by_cases z : t * (f * f - r * r - q * q) ≤ 0
    · rw [if_pos z]
      exact decide_eq_true z
    · rw [if_neg z]
      refine decide_eq_true (sq_le (Int.mul_nonneg (by omega) (by omega)) (Int.mul_le_mul_of_nonneg_left (by omega) (by omega)) (by omega))
  · rw [decide_eq_false h]
    have k : (r + q) * (r + q) < f * f := by
      have k := sq_le (a := r + q + 1) (b := f) hf (by omega) (by omega)
      have e6 : (r + q + 1) * (r + q + 1) = (r + q) * (r + q) + 2 * (r + q) + 1 := by grind
      omega
    have p : t * (2 * (r * q)) < t * (f * f - r * r - q * q) := Int.mul_lt_mul_of_pos_left (by omega) ht
    have p0 : 0 ≤ t * (2 * (r * q)) := Int.mul_nonneg (by omega) (by omega)
    rw [if_neg (by omega)]
    refine decide_eq_false fun z => ?_
    have := sq_lt (a := t * (f * f - r * r - q * q)) (b := t * (2 * (r * q)) + 1) (by omega) (by omega) (by
      have e5 : (t * (2 * (r * q)) + 1) * (t * (2 * (r * q)) + 1) = (t * (2 * (r * q))) * (t * (2 * (r * q))) + 2 * (t * (2 * (r * q))) + 1 := by grind
      omega)
    omega
/-! ### the readings of the texts, by data -/
theorem eqV_int {M : Mp} {neg : Bool} {x y : Int} {Q : KD} : eqV neg (.int x) (.int y) M Q ↔ Q (.bl (if neg then !decide (x = y) else decide (x = y))) M := Iff.rfl
theorem eqV_str {M : Mp} {neg : Bool} {x y : Str} {Q : KD} : eqV neg (.str x) (.str y) M Q ↔ Q (.bl (if neg then !decide (x = y) else decide (x = y))) M := Iff.rfl
theorem eqV_bl {M : Mp} {neg : Bool} {x y : Bool} {Q : KD} : eqV neg (.bl x) (.bl y) M Q ↔ Q (.bl (if neg then !decide (x = y) else decide (x = y))) M := Iff.rfl
theorem sq_sq : sq "square" = true := by
  unfold sq
  decide +kernel
theorem nb_cm {a b : Int} (h1 : nb a) : CM a b := .inl (.inl ⟨by have := h1.1; omega, by have := h1.2; omega⟩)
theorem root_i {M : Mp} {a b : Int} {Q : KD} {R} (na : nb a) (nb' : nb b) : F_root_of_both [.int a, .int b] M Q R ↔ Q (.int (rt (4 * a * b))) M := by
  constructor
  · rintro ⟨_, _, h, _, _, q⟩
    cases h
    exact q
  · exact fun q => ⟨a, b, rfl, na, nb', q⟩
theorem gap_i {M : Mp} {k : Str} {a b : Int} {Q : KD} {R} (na : nb a) (nb' : nb b) : F_gap_of [.str k, .int a, .int b] M Q R ↔ Q (.int (gapI (sq k) a b)) M := by
  constructor
  · rintro ⟨_, _, _, h, _, _, q⟩
    cases h
    exact q
  · exact fun q => ⟨k, a, b, rfl, na, nb', q⟩
theorem least_i {M : Mp} {k : Str} {a b : Int} {Q : KD} {R} (na : nb a) (nb' : nb b) : F_least_beyond [.str k, .int a, .int b] M Q R ↔ Q (.int (leastI (sq k) a b)) M := by
  constructor
  · rintro ⟨_, _, _, h, _, _, q⟩
    cases h
    exact q
  · exact fun q => ⟨k, a, b, rfl, na, nb', q⟩
theorem most_i {M : Mp} {k : Str} {a b : Int} {Q : KD} {R} (na : nb a) (nb' : nb b) : F_most_beyond [.str k, .int a, .int b] M Q R ↔ Q (.int (mostI (sq k) a b)) M := by
  constructor
  · rintro ⟨_, _, _, h, _, _, q⟩
    cases h
    exact q
  · exact fun q => ⟨k, a, b, rfl, na, nb', q⟩
theorem reaches_i {M : Mp} {k : Str} {a b r : Int} {Q : KD} {R} (na : nb a) (nb' : nb b) (nr : nb r) : F_reaches [.str k, .int a, .int b, .int r] M Q R ↔ Q (.bl (reachB (sq k) a b r)) M := by
  constructor
  · rintro ⟨_, _, _, _, h, _, _, _, q⟩
    cases h
    exact q
  · exact fun q => ⟨k, a, b, r, rfl, na, nb', nr, q⟩
theorem reach_i {M : Mp} {k : Str} {a b r : Int} {Q : KD} {R} (na : nb a) (nb' : nb b) (nr : nb r) : F__law_reach [.str k, .int a, .int b, .int r] M Q R ↔ Q (.bl (reachB (sq k) a b r)) M := by
  constructor
  · rintro ⟨_, _, _, _, h, _, _, _, q⟩
    cases h
    exact q
  · exact fun q => ⟨k, a, b, r, rfl, na, nb', nr, q⟩
theorem lroot_i {M : Mp} {n : Int} {Q : KD} {R} (h0 : 0 ≤ n) (h1 : n < 2 ^ 120) : F__law_root [.int n] M Q R ↔ Q (.int (rt n)) M := by
  constructor
  · rintro ⟨_, h, _, _, q⟩
    cases h
    exact q
  · exact fun q => ⟨n, rfl, h0, h1, q⟩
theorem draw_i {M : Mp} {a a0 : Addr} {n : Int} {Q : KD} {R} (hm : M a = some (.drw a0)) (h0 : 0 < n) (h1 : n.natAbs.log2 < 9000) : drawF [.tok a, .int n] M Q R ↔ ∀ k, 0 ≤ k → k < n → Q (.int k) M := by
  constructor
  · rintro ⟨_, _, _, h, _, _, _, q⟩
    cases h
    exact q
  · exact fun q => ⟨a, a0, n, rfl, hm, h0, h1, q⟩
theorem pick_i {M : Mp} {a a0 : Addr} {es : List D} {Q : KD} {R} (hm : M a = some (.drw a0)) (h0 : 0 < es.length) (h1 : es.length ≤ 1000000) : pickF [.tok a, .lst es] M Q R ↔ ∀ x ∈ es, Q x M := by
  constructor
  · rintro ⟨_, _, _, _, h, _, hs, _, _, q⟩
    cases h
    cases hs
    exact q
  · exact fun q => ⟨a, a0, _, es, rfl, hm, rfl, h0, h1, q⟩
theorem number_i {M : Mp} {a a0 : Addr} {Q : KD} {R} (hm : M a = some (.drw a0)) : F__law_number [.tok a] M Q R ↔ ∀ n : Int, nn n → Q (.int n) M := by
  constructor
  · rintro ⟨_, _, h, _, q⟩
    cases h
    exact q
  · exact fun q => ⟨a, a0, rfl, hm, q⟩
theorem repr_nb {M : Mp} {n : Int} {Q : KD} (h : nb n) : fRepr [.int n] M Q ↔ Q (.str (shown (.int n))) M := by
  refine ⟨fun h => h.2.2, fun q => ⟨⟨1, by decide, ?_⟩, by simp [res, cost], q⟩⟩
  show n.natAbs < 2 ^ 200
  have := h.1
  have := h.2
  omega
theorem repr_bl {M : Mp} {b : Bool} {Q : KD} : fRepr [.bl b] M Q ↔ Q (.str (shown (.bl b))) M :=
  ⟨fun h => h.2.2, fun q => ⟨⟨1, by decide, True.intro⟩, by simp [res, cost], q⟩⟩

theorem loop_ix {g : WG} {wb : WS} {Ok : Mp → Prop} {D3 : Ends3} {ds : List D} (P : Nat → En → Mp → Prop)
    (hs : ∀ i d ρ M, ds[i]? = some d → P i ρ M → Ok M ∧ ∀ K : En → Mp → Prop, (∀ ρ' M', P (i + 1) ρ' M' → K ρ' M') → g d ρ M fun ρ1 M1 => wb { D3 with nx := K, ct := K, bk := D3.nx } ρ1 M1)
    (he : ∀ ρ M, P ds.length ρ M → Ok M ∧ D3.nx ρ M) : ∀ {ρ M}, P 0 ρ M → wLoop g wb Ok D3 ds ρ M := by
  have main : ∀ (es : List D) (i : Nat), i ≤ ds.length → ds.drop i = es → ∀ ρ M, P i ρ M → wLoop g wb Ok D3 es ρ M := by
    intro es
    induction es with
    | nil =>
      intro i hi e ρ M h
      have l : ds.length ≤ i := List.drop_eq_nil_iff.mp e
      obtain rfl : i = ds.length := Nat.le_antisymm hi l
      exact he ρ M h
    | cons d es ih =>
      intro i hi e ρ M h
      have l : i < ds.length := by
        rcases Nat.lt_or_ge i ds.length with z | z
        · exact z
        · rw [List.drop_eq_nil_of_le z] at e
          cases e
      have e2 := List.drop_eq_getElem_cons l
      rw [e] at e2
      obtain ⟨e3, e4⟩ := List.cons.inj e2
      obtain ⟨ok, k⟩ := hs i d ρ M (by rw [List.getElem?_eq_getElem l, e3]) h
      exact ⟨ok, k _ fun ρ' M' h' => ih (i + 1) l e4.symm ρ' M' h'⟩
  exact fun {ρ M} h => main ds 0 (Nat.zero_le _) rfl ρ M h
theorem seq_gen {u1 u2 : WS} {D : Ends3} {ρ : En} {M : Mp} (h : ∀ K : En → Mp → Prop, K = u2 D → u1 { D with nx := K } ρ M) : wSeq u1 u2 D ρ M := h _ rfl
theorem for_gen {wi : WI} {g : WG} {wb : WS} {D : Ends3} {ρ : En} {M : Mp} (h : ∀ B : WS, B = wb → wFor wi g B D ρ M) : wFor wi g wb D ρ M := h _ rfl
theorem intsD_len {lo : Int} {n : Nat} : (intsD lo n).length = n := by
  unfold intsD
  rw [List.length_map, List.length_range]
theorem intsD_get {lo : Int} {n i : Nat} {d : D} (h : (intsD lo n)[i]? = some d) : i < n ∧ d = .int (lo + (i : Int)) := by
  have hi : i < n := by
    have z := (List.getElem?_eq_some_iff.mp h).1
    rw [intsD_len] at z
    exact z
  refine ⟨hi, ?_⟩
  unfold intsD at h
  rw [List.getElem?_map, List.getElem?_range hi] at h
  exact (Option.some.inj h).symm
theorem wp_root_of_both : ∀ ds M Q R, F_root_of_both ds M Q R → W_root_of_both { nx := fun _ M' => Q .non M', rt := Q, xr := R } (startE 2 ds) M := by
  rintro ds M Q R ⟨a, b, rfl, na, nb', q⟩
  unfold W_root_of_both
  simp (disch := first | assumption | decide) only [wSeq, wNext, wAsg, wgName, wIfS, wB, wOp, wVar, wC, wCall, wCallK, wCons, wNil, wRet, wRetN, wDrop, wTup, wLst, wIf, wAnd, wOr, wNot, wAndV, wOrV, wNotV, wNeg, wChain, fI, fI0, addD, fLt, fLe, fGt, fGe, fIsB, wCB, fAbs, f2I, fInt, fIsq, wPar, wPar3, permD, startE, List.map_cons, List.map_nil, List.cons_append, List.nil_append, List.append_nil, List.length_cons, List.length_nil, List.replicate, List.getElem?_cons_zero, List.getElem?_cons_succ, List.set_cons_zero, List.set_cons_succ, List.getD_cons_zero, List.getD_cons_succ, Nat.reduceAdd, Nat.reduceSub, Nat.zero_add, true_and, and_true, Bool.not_true, Bool.not_false, if_true, if_false, Bool.false_eq_true, reduceIte, decide_eq_true_eq, Bool.not_eq_true', decide_eq_false_iff_not, eqV_int, eqV_str, eqV_bl, decide_true, reduceCtorEq, not_true_eq_false, not_false_eq_true, Bool.not_eq_true, List.forall_mem_cons, List.not_mem_nil, false_implies, implies_true, Int.reduceNeg, Int.reduceToNat, Int.reducePow, Int.reduceMul, Int.reduceAdd, repr_nb, repr_bl, root_i, gap_i, least_i, most_i, reaches_i, reach_i, lroot_i, draw_i, pick_i, number_i]
  have h1 : 4 * a * b < 2 ^ 13000 := by
    have : 4 * a * b ≤ (4 * 2 ^ 50) * 2 ^ 50 := Int.mul_le_mul (by have := na.2; omega) (by have := nb'.2; omega) nb'.1 (by decide)
    exact Int.lt_of_le_of_lt this (by decide +kernel)
  exact ⟨.inl (.inl ⟨by decide, by decide⟩), .inl (.inr ⟨by have := nb'.1; omega, by have := nb'.2; omega⟩), p4 na.1 nb'.1, h1, q⟩
theorem wp_gap_of : ∀ ds M Q R, F_gap_of ds M Q R → W_gap_of { nx := fun _ M' => Q .non M', rt := Q, xr := R } (startE 3 ds) M := by
  rintro ds M Q R ⟨k, a, b, rfl, na, nb', q⟩
  unfold W_gap_of
  simp (disch := first | assumption | decide) only [wSeq, wNext, wAsg, wgName, wIfS, wB, wOp, wVar, wC, wCall, wCallK, wCons, wNil, wRet, wRetN, wDrop, wTup, wLst, wIf, wAnd, wOr, wNot, wAndV, wOrV, wNotV, wNeg, wChain, fI, fI0, addD, fLt, fLe, fGt, fGe, fIsB, wCB, fAbs, f2I, fInt, fIsq, wPar, wPar3, permD, startE, List.map_cons, List.map_nil, List.cons_append, List.nil_append, List.append_nil, List.length_cons, List.length_nil, List.replicate, List.getElem?_cons_zero, List.getElem?_cons_succ, List.set_cons_zero, List.set_cons_succ, List.getD_cons_zero, List.getD_cons_succ, Nat.reduceAdd, Nat.reduceSub, Nat.zero_add, true_and, and_true, Bool.not_true, Bool.not_false, if_true, if_false, Bool.false_eq_true, reduceIte, decide_eq_true_eq, Bool.not_eq_true', decide_eq_false_iff_not, eqV_int, eqV_str, eqV_bl, decide_true, reduceCtorEq, not_true_eq_false, not_false_eq_true, Bool.not_eq_true, List.forall_mem_cons, List.not_mem_nil, false_implies, implies_true, Int.reduceNeg, Int.reduceToNat, Int.reducePow, Int.reduceMul, Int.reduceAdd, repr_nb, repr_bl, root_i, gap_i, least_i, most_i, reaches_i, reach_i, lroot_i, draw_i, pick_i, number_i]
  unfold gapI sq at q
  simp only [decide_eq_true_eq] at q
  split <;> simp_all
theorem wp_least_beyond : ∀ ds M Q R, F_least_beyond ds M Q R → W_least_beyond { nx := fun _ M' => Q .non M', rt := Q, xr := R } (startE 3 ds) M := by
  rintro ds M Q R ⟨k, a, b, rfl, na, nb', q⟩
  unfold W_least_beyond
  simp (disch := first | assumption | decide) only [wSeq, wNext, wAsg, wgName, wIfS, wB, wOp, wVar, wC, wCall, wCallK, wCons, wNil, wRet, wRetN, wDrop, wTup, wLst, wIf, wAnd, wOr, wNot, wAndV, wOrV, wNotV, wNeg, wChain, fI, fI0, addD, fLt, fLe, fGt, fGe, fIsB, wCB, fAbs, f2I, fInt, fIsq, wPar, wPar3, permD, startE, List.map_cons, List.map_nil, List.cons_append, List.nil_append, List.append_nil, List.length_cons, List.length_nil, List.replicate, List.getElem?_cons_zero, List.getElem?_cons_succ, List.set_cons_zero, List.set_cons_succ, List.getD_cons_zero, List.getD_cons_succ, Nat.reduceAdd, Nat.reduceSub, Nat.zero_add, true_and, and_true, Bool.not_true, Bool.not_false, if_true, if_false, Bool.false_eq_true, reduceIte, decide_eq_true_eq, Bool.not_eq_true', decide_eq_false_iff_not, eqV_int, eqV_str, eqV_bl, decide_true, reduceCtorEq, not_true_eq_false, not_false_eq_true, Bool.not_eq_true, List.forall_mem_cons, List.not_mem_nil, false_implies, implies_true, Int.reduceNeg, Int.reduceToNat, Int.reducePow, Int.reduceMul, Int.reduceAdd, repr_nb, repr_bl, root_i, gap_i, least_i, most_i, reaches_i, reach_i, lroot_i, draw_i, pick_i, number_i]
  unfold leastI at q
  split <;> simp_all
theorem wp_most_beyond : ∀ ds M Q R, F_most_beyond ds M Q R → W_most_beyond { nx := fun _ M' => Q .non M', rt := Q, xr := R } (startE 3 ds) M := by
  rintro ds M Q R ⟨k, a, b, rfl, na, nb', q⟩
  unfold W_most_beyond
  simp (disch := first | assumption | decide) only [wSeq, wNext, wAsg, wgName, wIfS, wB, wOp, wVar, wC, wCall, wCallK, wCons, wNil, wRet, wRetN, wDrop, wTup, wLst, wIf, wAnd, wOr, wNot, wAndV, wOrV, wNotV, wNeg, wChain, fI, fI0, addD, fLt, fLe, fGt, fGe, fIsB, wCB, fAbs, f2I, fInt, fIsq, wPar, wPar3, permD, startE, List.map_cons, List.map_nil, List.cons_append, List.nil_append, List.append_nil, List.length_cons, List.length_nil, List.replicate, List.getElem?_cons_zero, List.getElem?_cons_succ, List.set_cons_zero, List.set_cons_succ, List.getD_cons_zero, List.getD_cons_succ, Nat.reduceAdd, Nat.reduceSub, Nat.zero_add, true_and, and_true, Bool.not_true, Bool.not_false, if_true, if_false, Bool.false_eq_true, reduceIte, decide_eq_true_eq, Bool.not_eq_true', decide_eq_false_iff_not, eqV_int, eqV_str, eqV_bl, decide_true, reduceCtorEq, not_true_eq_false, not_false_eq_true, Bool.not_eq_true, List.forall_mem_cons, List.not_mem_nil, false_implies, implies_true, Int.reduceNeg, Int.reduceToNat, Int.reducePow, Int.reduceMul, Int.reduceAdd, repr_nb, repr_bl, root_i, gap_i, least_i, most_i, reaches_i, reach_i, lroot_i, draw_i, pick_i, number_i]
  unfold mostI sq at q
  simp only [decide_eq_true_eq] at q
  split <;> simp_all
theorem cm_of {a b : Int} (h1 : -2 ^ 60 ≤ a) (h2 : a ≤ 2 ^ 60) : CM a b := .inl (.inl ⟨by omega, by omega⟩)
theorem cm_of' {a b : Int} (h1 : -2 ^ 60 ≤ b) (h2 : b ≤ 2 ^ 60) : CM a b := .inl (.inr ⟨by omega, by omega⟩)
theorem wp_reaches : ∀ ds M Q R, F_reaches ds M Q R → W_reaches { nx := fun _ M' => Q .non M', rt := Q, xr := R } (startE 5 ds) M := by
  rintro ds M Q R ⟨k, a, b, r, rfl, na, nb', nr, q⟩
  unfold W_reaches
  simp (disch := first | assumption | decide) only [wSeq, wNext, wAsg, wgName, wIfS, wB, wOp, wVar, wC, wCall, wCallK, wCons, wNil, wRet, wRetN, wDrop, wTup, wLst, wIf, wAnd, wOr, wNot, wAndV, wOrV, wNotV, wNeg, wChain, fI, fI0, addD, fLt, fLe, fGt, fGe, fIsB, wCB, fAbs, f2I, fInt, fIsq, wPar, wPar3, permD, startE, List.map_cons, List.map_nil, List.cons_append, List.nil_append, List.append_nil, List.length_cons, List.length_nil, List.replicate, List.getElem?_cons_zero, List.getElem?_cons_succ, List.set_cons_zero, List.set_cons_succ, List.getD_cons_zero, List.getD_cons_succ, Nat.reduceAdd, Nat.reduceSub, Nat.zero_add, true_and, and_true, Bool.not_true, Bool.not_false, if_true, if_false, Bool.false_eq_true, reduceIte, decide_eq_true_eq, Bool.not_eq_true', decide_eq_false_iff_not, eqV_int, eqV_str, eqV_bl, decide_true, reduceCtorEq, not_true_eq_false, not_false_eq_true, Bool.not_eq_true, List.forall_mem_cons, List.not_mem_nil, false_implies, implies_true, Int.reduceNeg, Int.reduceToNat, Int.reducePow, Int.reduceMul, Int.reduceAdd, repr_nb, repr_bl, root_i, gap_i, least_i, most_i, reaches_i, reach_i, lroot_i, draw_i, pick_i, number_i]
  obtain ⟨n1, n2⟩ := na
  obtain ⟨n3, n4⟩ := nb'
  obtain ⟨n5, n6⟩ := nr
  have c1 : CM (a - b - r) (a - b - r) := cm_of (by omega) (by omega)
  have c2 : CM 4 b := cm_of (by omega) (by omega)
  have c3 : CM (4 * b) r := cm_of' (by omega) (by omega)
  unfold reachB sq at q
  simp only [decide_eq_false_iff_not] at q
  split
  · rename_i h
    rw [if_pos (.inl h)] at q
    exact q
  · rename_i h
    split
    · rename_i h2
      rw [if_pos (.inr h2)] at q
      exact q
    · rename_i h2
      rw [if_neg (fun z => z.elim h h2)] at q
      exact ⟨c1, c2, c3, q⟩
theorem wp__law_reach : ∀ ds M Q R, F__law_reach ds M Q R → W__law_reach { nx := fun _ M' => Q .non M', rt := Q, xr := R } (startE 5 ds) M := by
  rintro ds M Q R ⟨k, a, b, r, rfl, na, nb', nr, q⟩
  unfold W__law_reach
  simp (disch := first | assumption | decide) only [wSeq, wNext, wAsg, wgName, wIfS, wB, wOp, wVar, wC, wCall, wCallK, wCons, wNil, wRet, wRetN, wDrop, wTup, wLst, wIf, wAnd, wOr, wNot, wAndV, wOrV, wNotV, wNeg, wChain, fI, fI0, addD, fLt, fLe, fGt, fGe, fIsB, wCB, fAbs, f2I, fInt, fIsq, wPar, wPar3, permD, startE, List.map_cons, List.map_nil, List.cons_append, List.nil_append, List.append_nil, List.length_cons, List.length_nil, List.replicate, List.getElem?_cons_zero, List.getElem?_cons_succ, List.set_cons_zero, List.set_cons_succ, List.getD_cons_zero, List.getD_cons_succ, Nat.reduceAdd, Nat.reduceSub, Nat.zero_add, true_and, and_true, Bool.not_true, Bool.not_false, if_true, if_false, Bool.false_eq_true, reduceIte, decide_eq_true_eq, Bool.not_eq_true', decide_eq_false_iff_not, eqV_int, eqV_str, eqV_bl, decide_true, reduceCtorEq, not_true_eq_false, not_false_eq_true, Bool.not_eq_true, List.forall_mem_cons, List.not_mem_nil, false_implies, implies_true, Int.reduceNeg, Int.reduceToNat, Int.reducePow, Int.reduceMul, Int.reduceAdd, repr_nb, repr_bl, root_i, gap_i, least_i, most_i, reaches_i, reach_i, lroot_i, draw_i, pick_i, number_i]
  obtain ⟨n1, n2⟩ := na
  obtain ⟨n3, n4⟩ := nb'
  obtain ⟨n5, n6⟩ := nr
  have c1 : CM (a - b - r) (a - b - r) := cm_of (by omega) (by omega)
  have c2 : CM 4 b := cm_of (by omega) (by omega)
  have c3 : CM (4 * b) r := cm_of' (by omega) (by omega)
  unfold reachB sq at q
  simp only [decide_eq_false_iff_not] at q
  split
  · rename_i h
    rw [if_pos (.inl h)] at q
    have e : decide (a ≤ b + r) = decide (a - b - r ≤ 0) := decide_eq_decide.mpr (by omega)
    rw [e]
    exact q
  · rename_i h
    by_cases h2 : a - b - r ≤ 0
    · rw [if_pos (.inr h2), decide_eq_true h2] at q
      rw [decide_eq_true h2]
      exact q
    · rw [if_neg (fun z => z.elim h h2)] at q
      rw [decide_eq_false h2]
      exact ⟨c1, c2, c3, q⟩
theorem wp__law_number : ∀ ds M Q R, F__law_number ds M Q R → W__law_number { nx := fun _ M' => Q .non M', rt := Q, xr := R } (startE 3 ds) M := by
  rintro ds M Q R ⟨a, a0, rfl, hm, q⟩
  unfold W__law_number
  simp (disch := first | assumption | decide) only [wSeq, wNext, wAsg, wgName, wIfS, wB, wOp, wVar, wC, wCall, wCallK, wCons, wNil, wRet, wRetN, wDrop, wTup, wLst, wIf, wAnd, wOr, wNot, wAndV, wOrV, wNotV, wNeg, wChain, fI, fI0, addD, fLt, fLe, fGt, fGe, fIsB, wCB, fAbs, f2I, fInt, fIsq, wPar, wPar3, permD, startE, List.map_cons, List.map_nil, List.cons_append, List.nil_append, List.append_nil, List.length_cons, List.length_nil, List.replicate, List.getElem?_cons_zero, List.getElem?_cons_succ, List.set_cons_zero, List.set_cons_succ, List.getD_cons_zero, List.getD_cons_succ, Nat.reduceAdd, Nat.reduceSub, Nat.zero_add, true_and, and_true, Bool.not_true, Bool.not_false, if_true, if_false, Bool.false_eq_true, reduceIte, decide_eq_true_eq, Bool.not_eq_true', decide_eq_false_iff_not, eqV_int, eqV_str, eqV_bl, decide_true, reduceCtorEq, not_true_eq_false, not_false_eq_true, Bool.not_eq_true, List.forall_mem_cons, List.not_mem_nil, false_implies, implies_true, Int.reduceNeg, Int.reduceToNat, Int.reducePow, Int.reduceMul, Int.reduceAdd, repr_nb, repr_bl, root_i, gap_i, least_i, most_i, reaches_i, reach_i, lroot_i, draw_i, pick_i, number_i]
  have q' : ∀ n : Int, 0 ≤ n → n < 2 ^ 40 → Q (.int n) M := fun n h1 h2 => q n ⟨h1, h2⟩
  have l3 : 3 ≤ sizeLine := by decide
  have l4 : 4 ≤ sizeLine := by decide
  have c1 : CPow 10 8 := ⟨by decide, by decide, by decide⟩
  have sm : ∀ k : Int, 0 ≤ k → k < 56000 → CM k k ∧ ∀ e : Int, -1 ≤ e → e ≤ 1 → Q (.int (if k * k + e > 0 then k * k + e else 0)) M := fun k h1 h2 => by
    refine ⟨cm_of (by omega) (by omega), fun e h3 h4 => ?_⟩
    have p : 0 ≤ k * k := Int.mul_nonneg h1 h1
    have p2 : k * k ≤ 56000 * 56000 := Int.mul_le_mul (by omega) (by omega) h1 (by decide)
    split
    · exact q' _ (by omega) (by omega)
    · exact q' _ (by omega) (by omega)
  intro k h1 h2
  split
  · intro k h1 h2
    exact q' k h1 (by omega)
  · split
    · exact ⟨c1, cm_of (by decide) (by decide), fun k h1 h2 => q' k h1 (by omega)⟩
    · have sm2 : ∀ k : Int, 0 ≤ k → k < 56000 → CM k k ∧ 4 ≤ sizeLine ∧ Q (.int (if k * k + 0 > 0 then k * k + 0 else 0)) M ∧ Q (.int (if k * k + 0 > 0 then k * k + 0 else 0)) M ∧ Q (.int (if k * k + 1 > 0 then k * k + 1 else 0)) M ∧ Q (.int (if k * k + -1 > 0 then k * k + -1 else 0)) M := fun k h1 h2 =>
        ⟨(sm k h1 h2).1, l4, (sm k h1 h2).2 0 (by decide) (by decide), (sm k h1 h2).2 0 (by decide) (by decide), (sm k h1 h2).2 1 (by decide) (by decide), (sm k h1 h2).2 (-1) (by decide) (by decide)⟩
      exact ⟨l3, fun k h1 h2 => sm2 k h1 (by omega), fun k h1 h2 => sm2 k h1 (by omega), fun k h1 h2 => sm2 k h1 (by omega)⟩
end K04
namespace K04
open PySem L2 L3
theorem gap_le {s : Bool} {a b : Int} (ha : 0 ≤ a) (hb : 0 ≤ b) : gapI s a b ≤ a + b := by
  unfold gapI
  have := (rt_le (p4 ha hb)).1
  cases s
  · simp only [Bool.false_eq_true, if_false]
    split <;> omega
  · simp only [if_true]
    omega
theorem rt_le_sum {a b : Int} (ha : 0 ≤ a) (hb : 0 ≤ b) : rt (4 * a * b) ≤ a + b := by
  have h := gap_pos (s := true) ha hb
  unfold gapI at h
  rw [if_pos rfl] at h
  omega
theorem gap_zero {s : Bool} {a : Int} (ha : 0 ≤ a) : gapI s a 0 = a := by
  have h := least_gap (s := s) ha (Int.le_refl 0)
  unfold gapI
  cases s
  · simp only [Bool.false_eq_true, if_false]
    split <;> omega
  · simp only [if_true]
    have e : rt (4 * a * 0) = 0 := rt_is (by omega) (by omega) (by omega)
    omega
theorem most_zero {s : Bool} {a : Int} (ha : 0 ≤ a) : mostI s 0 a = a := by
  unfold mostI
  cases s
  · simp only [Bool.false_eq_true, if_false]
    omega
  · simp only [if_true]
    have e : rt (4 * 0 * a) = 0 := rt_is (by omega) (by omega) (by omega)
    omega
theorem least_same {s : Bool} {a : Int} : leastI s a a = 0 := by
  unfold leastI
  rw [if_pos (Int.le_refl a)]
theorem wp__law_two_right : ∀ ds M Q R, F__law_two_right ds M Q R → W__law_two_right { nx := fun _ M' => Q .non M', rt := Q, xr := R } (startE 13 ds) M := by
  rintro ds M Q R ⟨a, a0, k, x, y, rfl, hm, nx, ny, q⟩
  obtain ⟨x0, x1⟩ := nx
  obtain ⟨y0, y1⟩ := ny
  have b1 : nb x := ⟨x0, by omega⟩
  have b2 : nb y := ⟨y0, by omega⟩
  have b0 : nb 0 := ⟨by decide, by decide⟩
  have r0 : 0 ≤ 4 * x * y := p4 x0 y0
  have r1 : 4 * x * y < 2 ^ 120 := by
    have : 4 * x * y ≤ (4 * 2 ^ 50) * 2 ^ 50 := Int.mul_le_mul (by omega) (by omega) y0 (by decide)
    exact Int.lt_of_le_of_lt this (by decide +kernel)
  have c1 : CM 4 x := cm_of' (by omega) (by omega)
  have c2 : CM (4 * x) y := cm_of' (by omega) (by omega)
  have rl := rt_le_sum x0 y0
  have rp := (rt_le r0).1
  have g0 : 0 ≤ gapI (sq k) x y := gap_pos x0 y0
  have gl : gapI (sq k) x y ≤ x + y := gap_le x0 y0
  have e1 : gapI (sq k) y x = gapI (sq k) x y := gap_comm
  have bg : nb (gapI (sq k) x y) := ⟨g0, by omega⟩
  have l0 : 0 ≤ leastI (sq k) x y := least_pos x0 y0
  have m0 : 0 ≤ mostI (sq k) x y := most_pos x0 y0
  have ml : mostI (sq k) x y ≤ 2 * (x + y) := by
    unfold mostI
    split <;> omega
  have bm : nb (mostI (sq k) x y) := ⟨m0, by omega⟩
  have bm1 : nb (mostI (sq k) x y + 1) := ⟨by omega, by omega⟩
  obtain ⟨mr1, mr2⟩ := most_reach (s := sq k) x0 y0
  have lm := least_most (s := sq k) x0 y0
  have bl : nb (leastI (sq k) x y) := ⟨l0, by omega⟩
  have z1 : leastI (sq k) x x = 0 := least_same
  have z2 : gapI (sq k) x 0 = x := gap_zero x0
  have z3 : mostI (sq k) 0 x = x := most_zero x0
  have hsq : (k = "square") = (sq k = true) := by
    unfold sq
    rw [decide_eq_true_eq]
  unfold W__law_two_right
  refine seq_gen fun K hK => ?_
  simp (disch := first | assumption | decide) only [wSeq, wNext, wAsg, wgName, wIfS, wB, wOp, wVar, wC, wCall, wCallK, wCons, wNil, wRet, wRetN, wDrop, wTup, wLst, wIf, wAnd, wOr, wNot, wAndV, wOrV, wNotV, wNeg, wChain, fI, fI0, addD, fLt, fLe, fGt, fGe, fIsB, wCB, fAbs, f2I, fInt, fIsq, wPar, wPar3, permD, startE, List.map_cons, List.map_nil, List.cons_append, List.nil_append, List.append_nil, List.length_cons, List.length_nil, List.replicate, List.getElem?_cons_zero, List.getElem?_cons_succ, List.set_cons_zero, List.set_cons_succ, List.getD_cons_zero, List.getD_cons_succ, Nat.reduceAdd, Nat.reduceSub, Nat.zero_add, true_and, and_true, Bool.not_true, Bool.not_false, if_true, if_false, Bool.false_eq_true, reduceIte, decide_eq_true_eq, Bool.not_eq_true', decide_eq_false_iff_not, eqV_int, eqV_str, eqV_bl, decide_true, reduceCtorEq, not_true_eq_false, not_false_eq_true, Bool.not_eq_true, List.forall_mem_cons, List.not_mem_nil, false_implies, implies_true, Int.reduceNeg, Int.reduceToNat, Int.reducePow, Int.reduceMul, Int.reduceAdd, repr_nb, repr_bl, root_i, gap_i, least_i, most_i, reaches_i, reach_i, lroot_i, draw_i, pick_i, number_i, c1, c2]
  subst hK
  refine seq_gen fun K hK => ?_
  simp (disch := first | assumption | decide) only [wSeq, wNext, wAsg, wgName, wIfS, wB, wOp, wVar, wC, wCall, wCallK, wCons, wNil, wRet, wRetN, wDrop, wTup, wLst, wIf, wAnd, wOr, wNot, wAndV, wOrV, wNotV, wNeg, wChain, fI, fI0, addD, fLt, fLe, fGt, fGe, fIsB, wCB, fAbs, f2I, fInt, fIsq, wPar, wPar3, permD, startE, List.map_cons, List.map_nil, List.cons_append, List.nil_append, List.append_nil, List.length_cons, List.length_nil, List.replicate, List.getElem?_cons_zero, List.getElem?_cons_succ, List.set_cons_zero, List.set_cons_succ, List.getD_cons_zero, List.getD_cons_succ, Nat.reduceAdd, Nat.reduceSub, Nat.zero_add, true_and, and_true, Bool.not_true, Bool.not_false, if_true, if_false, Bool.false_eq_true, reduceIte, decide_eq_true_eq, Bool.not_eq_true', decide_eq_false_iff_not, eqV_int, eqV_str, eqV_bl, decide_true, reduceCtorEq, not_true_eq_false, not_false_eq_true, Bool.not_eq_true, List.forall_mem_cons, List.not_mem_nil, false_implies, implies_true, Int.reduceNeg, Int.reduceToNat, Int.reducePow, Int.reduceMul, Int.reduceAdd, repr_nb, repr_bl, root_i, gap_i, least_i, most_i, reaches_i, reach_i, lroot_i, draw_i, pick_i, number_i, hsq]
  have hG : K [some (.tok a), some (.str k), some (.int x), some (.int y), some (.int (rt (4 * x * y))), some (.int (gapI (sq k) x y)), none, none, none, none, none, none, none] M := ?G
  case G =>
    subst hK
    refine seq_gen fun K hK => ?_
    simp (disch := first | assumption | decide) only [wSeq, wNext, wAsg, wgName, wIfS, wB, wOp, wVar, wC, wCall, wCallK, wCons, wNil, wRet, wRetN, wDrop, wTup, wLst, wIf, wAnd, wOr, wNot, wAndV, wOrV, wNotV, wNeg, wChain, fI, fI0, addD, fLt, fLe, fGt, fGe, fIsB, wCB, fAbs, f2I, fInt, fIsq, wPar, wPar3, permD, startE, List.map_cons, List.map_nil, List.cons_append, List.nil_append, List.append_nil, List.length_cons, List.length_nil, List.replicate, List.getElem?_cons_zero, List.getElem?_cons_succ, List.set_cons_zero, List.set_cons_succ, List.getD_cons_zero, List.getD_cons_succ, Nat.reduceAdd, Nat.reduceSub, Nat.zero_add, true_and, and_true, Bool.not_true, Bool.not_false, if_true, if_false, Bool.false_eq_true, reduceIte, decide_eq_true_eq, Bool.not_eq_true', decide_eq_false_iff_not, eqV_int, eqV_str, eqV_bl, decide_true, reduceCtorEq, not_true_eq_false, not_false_eq_true, Bool.not_eq_true, List.forall_mem_cons, List.not_mem_nil, false_implies, implies_true, Int.reduceNeg, Int.reduceToNat, Int.reducePow, Int.reduceMul, Int.reduceAdd, repr_nb, repr_bl, root_i, gap_i, least_i, most_i, reaches_i, reach_i, lroot_i, draw_i, pick_i, number_i]
    subst hK
    refine seq_gen fun K hK => ?_
    simp (disch := first | assumption | decide) only [wSeq, wNext, wAsg, wgName, wIfS, wB, wOp, wVar, wC, wCall, wCallK, wCons, wNil, wRet, wRetN, wDrop, wTup, wLst, wIf, wAnd, wOr, wNot, wAndV, wOrV, wNotV, wNeg, wChain, fI, fI0, addD, fLt, fLe, fGt, fGe, fIsB, wCB, fAbs, f2I, fInt, fIsq, wPar, wPar3, permD, startE, List.map_cons, List.map_nil, List.cons_append, List.nil_append, List.append_nil, List.length_cons, List.length_nil, List.replicate, List.getElem?_cons_zero, List.getElem?_cons_succ, List.set_cons_zero, List.set_cons_succ, List.getD_cons_zero, List.getD_cons_succ, Nat.reduceAdd, Nat.reduceSub, Nat.zero_add, true_and, and_true, Bool.not_true, Bool.not_false, if_true, if_false, Bool.false_eq_true, reduceIte, decide_eq_true_eq, Bool.not_eq_true', decide_eq_false_iff_not, eqV_int, eqV_str, eqV_bl, decide_true, reduceCtorEq, not_true_eq_false, not_false_eq_true, Bool.not_eq_true, List.forall_mem_cons, List.not_mem_nil, false_implies, implies_true, Int.reduceNeg, Int.reduceToNat, Int.reducePow, Int.reduceMul, Int.reduceAdd, repr_nb, repr_bl, root_i, gap_i, least_i, most_i, reaches_i, reach_i, lroot_i, draw_i, pick_i, number_i, e1, Int.not_lt.mpr g0]
    subst hK
    -- high, low
    refine seq_gen fun K hK => ?_
    simp (disch := first | assumption | decide) only [wSeq, wNext, wAsg, wgName, wIfS, wB, wOp, wVar, wC, wCall, wCallK, wCons, wNil, wRet, wRetN, wDrop, wTup, wLst, wIf, wAnd, wOr, wNot, wAndV, wOrV, wNotV, wNeg, wChain, fI, fI0, addD, fLt, fLe, fGt, fGe, fIsB, wCB, fAbs, f2I, fInt, fIsq, wPar, wPar3, permD, startE, List.map_cons, List.map_nil, List.cons_append, List.nil_append, List.append_nil, List.length_cons, List.length_nil, List.replicate, List.getElem?_cons_zero, List.getElem?_cons_succ, List.set_cons_zero, List.set_cons_succ, List.getD_cons_zero, List.getD_cons_succ, Nat.reduceAdd, Nat.reduceSub, Nat.zero_add, true_and, and_true, Bool.not_true, Bool.not_false, if_true, if_false, Bool.false_eq_true, reduceIte, decide_eq_true_eq, Bool.not_eq_true', decide_eq_false_iff_not, eqV_int, eqV_str, eqV_bl, decide_true, reduceCtorEq, not_true_eq_false, not_false_eq_true, Bool.not_eq_true, List.forall_mem_cons, List.not_mem_nil, false_implies, implies_true, Int.reduceNeg, Int.reduceToNat, Int.reducePow, Int.reduceMul, Int.reduceAdd, repr_nb, repr_bl, root_i, gap_i, least_i, most_i, reaches_i, reach_i, lroot_i, draw_i, pick_i, number_i]
    obtain ⟨hi, ehi⟩ : ∃ hi, hi = (if y > x then y else x) := ⟨_, rfl⟩
    obtain ⟨lo, elo⟩ : ∃ lo, lo = (if y < x then y else x) := ⟨_, rfl⟩
    have hl : 0 ≤ lo ∧ lo ≤ hi ∧ hi < 2 ^ 40 ∧ (hi = x ∧ lo = y ∨ hi = y ∧ lo = x) := by
      rw [ehi, elo]
      split <;> split <;> omega
    rw [← ehi, ← elo]
    obtain ⟨lo0, lohi, hi1, hor⟩ := hl
    have bhi : nb hi := ⟨by omega, by omega⟩
    have blo : nb lo := ⟨lo0, by omega⟩
    have eg : gapI (sq k) hi lo = gapI (sq k) x y := by
      rcases hor with ⟨h1, h2⟩ | ⟨h1, h2⟩
      · rw [h1, h2]
      · rw [h1, h2]
        exact e1
    have elg : leastI (sq k) hi lo = gapI (sq k) x y := (least_gap lohi lo0).trans eg
    have F2 : reachB (sq k) hi lo (gapI (sq k) x y) = true := (reach_iff (by omega) lo0 g0).mpr (by omega)
    clear ehi elo
    subst hK
    refine seq_gen fun K hK => ?_
    simp (disch := first | assumption | decide) only [wSeq, wNext, wAsg, wgName, wIfS, wB, wOp, wVar, wC, wCall, wCallK, wCons, wNil, wRet, wRetN, wDrop, wTup, wLst, wIf, wAnd, wOr, wNot, wAndV, wOrV, wNotV, wNeg, wChain, fI, fI0, addD, fLt, fLe, fGt, fGe, fIsB, wCB, fAbs, f2I, fInt, fIsq, wPar, wPar3, permD, startE, List.map_cons, List.map_nil, List.cons_append, List.nil_append, List.append_nil, List.length_cons, List.length_nil, List.replicate, List.getElem?_cons_zero, List.getElem?_cons_succ, List.set_cons_zero, List.set_cons_succ, List.getD_cons_zero, List.getD_cons_succ, Nat.reduceAdd, Nat.reduceSub, Nat.zero_add, true_and, and_true, Bool.not_true, Bool.not_false, if_true, if_false, Bool.false_eq_true, reduceIte, decide_eq_true_eq, Bool.not_eq_true', decide_eq_false_iff_not, eqV_int, eqV_str, eqV_bl, decide_true, reduceCtorEq, not_true_eq_false, not_false_eq_true, Bool.not_eq_true, List.forall_mem_cons, List.not_mem_nil, false_implies, implies_true, Int.reduceNeg, Int.reduceToNat, Int.reducePow, Int.reduceMul, Int.reduceAdd, repr_nb, repr_bl, root_i, gap_i, least_i, most_i, reaches_i, reach_i, lroot_i, draw_i, pick_i, number_i, F2]
    have next : K [some (.tok a), some (.str k), some (.int x), some (.int y), some (.int (rt (4 * x * y))), some (.int (gapI (sq k) x y)), some (.int (gapI (sq k) x y)), none, some (.int hi), some (.int lo), none, none, none] M := ?N
    case N =>
      subst hK
      refine seq_gen fun K hK => ?_
      simp (disch := first | assumption | decide) only [wSeq, wNext, wAsg, wgName, wIfS, wB, wOp, wVar, wC, wCall, wCallK, wCons, wNil, wRet, wRetN, wDrop, wTup, wLst, wIf, wAnd, wOr, wNot, wAndV, wOrV, wNotV, wNeg, wChain, fI, fI0, addD, fLt, fLe, fGt, fGe, fIsB, wCB, fAbs, f2I, fInt, fIsq, wPar, wPar3, permD, startE, List.map_cons, List.map_nil, List.cons_append, List.nil_append, List.append_nil, List.length_cons, List.length_nil, List.replicate, List.getElem?_cons_zero, List.getElem?_cons_succ, List.set_cons_zero, List.set_cons_succ, List.getD_cons_zero, List.getD_cons_succ, Nat.reduceAdd, Nat.reduceSub, Nat.zero_add, true_and, and_true, Bool.not_true, Bool.not_false, if_true, if_false, Bool.false_eq_true, reduceIte, decide_eq_true_eq, Bool.not_eq_true', decide_eq_false_iff_not, eqV_int, eqV_str, eqV_bl, decide_true, reduceCtorEq, not_true_eq_false, not_false_eq_true, Bool.not_eq_true, List.forall_mem_cons, List.not_mem_nil, false_implies, implies_true, Int.reduceNeg, Int.reduceToNat, Int.reducePow, Int.reduceMul, Int.reduceAdd, repr_nb, repr_bl, root_i, gap_i, least_i, most_i, reaches_i, reach_i, lroot_i, draw_i, pick_i, number_i, hsq]
      have next : K [some (.tok a), some (.str k), some (.int x), some (.int y), some (.int (rt (4 * x * y))), some (.int (gapI (sq k) x y)), some (.int (gapI (sq k) x y)), none, some (.int hi), some (.int lo), some (.int (leastI (sq k) x y)), some (.int (mostI (sq k) x y)), none] M := ?N
      case N =>
        subst hK
        refine seq_gen fun K hK => ?_
        simp (disch := first | assumption | decide) only [wSeq, wNext, wAsg, wgName, wIfS, wB, wOp, wVar, wC, wCall, wCallK, wCons, wNil, wRet, wRetN, wDrop, wTup, wLst, wIf, wAnd, wOr, wNot, wAndV, wOrV, wNotV, wNeg, wChain, fI, fI0, addD, fLt, fLe, fGt, fGe, fIsB, wCB, fAbs, f2I, fInt, fIsq, wPar, wPar3, permD, startE, List.map_cons, List.map_nil, List.cons_append, List.nil_append, List.append_nil, List.length_cons, List.length_nil, List.replicate, List.getElem?_cons_zero, List.getElem?_cons_succ, List.set_cons_zero, List.set_cons_succ, List.getD_cons_zero, List.getD_cons_succ, Nat.reduceAdd, Nat.reduceSub, Nat.zero_add, true_and, and_true, Bool.not_true, Bool.not_false, if_true, if_false, Bool.false_eq_true, reduceIte, decide_eq_true_eq, Bool.not_eq_true', decide_eq_false_iff_not, eqV_int, eqV_str, eqV_bl, decide_true, reduceCtorEq, not_true_eq_false, not_false_eq_true, Bool.not_eq_true, List.forall_mem_cons, List.not_mem_nil, false_implies, implies_true, Int.reduceNeg, Int.reduceToNat, Int.reducePow, Int.reduceMul, Int.reduceAdd, repr_nb, repr_bl, root_i, gap_i, least_i, most_i, reaches_i, reach_i, lroot_i, draw_i, pick_i, number_i]
        subst hK
        refine seq_gen fun K hK => ?_
        simp (disch := first | assumption | decide) only [wSeq, wNext, wAsg, wgName, wIfS, wB, wOp, wVar, wC, wCall, wCallK, wCons, wNil, wRet, wRetN, wDrop, wTup, wLst, wIf, wAnd, wOr, wNot, wAndV, wOrV, wNotV, wNeg, wChain, fI, fI0, addD, fLt, fLe, fGt, fGe, fIsB, wCB, fAbs, f2I, fInt, fIsq, wPar, wPar3, permD, startE, List.map_cons, List.map_nil, List.cons_append, List.nil_append, List.append_nil, List.length_cons, List.length_nil, List.replicate, List.getElem?_cons_zero, List.getElem?_cons_succ, List.set_cons_zero, List.set_cons_succ, List.getD_cons_zero, List.getD_cons_succ, Nat.reduceAdd, Nat.reduceSub, Nat.zero_add, true_and, and_true, Bool.not_true, Bool.not_false, if_true, if_false, Bool.false_eq_true, reduceIte, decide_eq_true_eq, Bool.not_eq_true', decide_eq_false_iff_not, eqV_int, eqV_str, eqV_bl, decide_true, reduceCtorEq, not_true_eq_false, not_false_eq_true, Bool.not_eq_true, List.forall_mem_cons, List.not_mem_nil, false_implies, implies_true, Int.reduceNeg, Int.reduceToNat, Int.reducePow, Int.reduceMul, Int.reduceAdd, repr_nb, repr_bl, root_i, gap_i, least_i, most_i, reaches_i, reach_i, lroot_i, draw_i, pick_i, number_i]
        subst hK
        refine seq_gen fun K hK => ?_
        simp (disch := first | assumption | decide) only [wSeq, wNext, wAsg, wgName, wIfS, wB, wOp, wVar, wC, wCall, wCallK, wCons, wNil, wRet, wRetN, wDrop, wTup, wLst, wIf, wAnd, wOr, wNot, wAndV, wOrV, wNotV, wNeg, wChain, fI, fI0, addD, fLt, fLe, fGt, fGe, fIsB, wCB, fAbs, f2I, fInt, fIsq, wPar, wPar3, permD, startE, List.map_cons, List.map_nil, List.cons_append, List.nil_append, List.append_nil, List.length_cons, List.length_nil, List.replicate, List.getElem?_cons_zero, List.getElem?_cons_succ, List.set_cons_zero, List.set_cons_succ, List.getD_cons_zero, List.getD_cons_succ, Nat.reduceAdd, Nat.reduceSub, Nat.zero_add, true_and, and_true, Bool.not_true, Bool.not_false, if_true, if_false, Bool.false_eq_true, reduceIte, decide_eq_true_eq, Bool.not_eq_true', decide_eq_false_iff_not, eqV_int, eqV_str, eqV_bl, decide_true, reduceCtorEq, not_true_eq_false, not_false_eq_true, Bool.not_eq_true, List.forall_mem_cons, List.not_mem_nil, false_implies, implies_true, Int.reduceNeg, Int.reduceToNat, Int.reducePow, Int.reduceMul, Int.reduceAdd, repr_nb, repr_bl, root_i, gap_i, least_i, most_i, reaches_i, reach_i, lroot_i, draw_i, pick_i, number_i, mr1, mr2, Int.not_lt.mpr lm]
        subst hK
        refine seq_gen fun K hK => ?_
        refine for_gen fun B hB => ?_
        simp (disch := first | assumption | decide) only [wSeq, wNext, wAsg, wgName, wIfS, wB, wOp, wVar, wC, wCall, wCallK, wCons, wNil, wRet, wRetN, wDrop, wTup, wLst, wIf, wAnd, wOr, wNot, wAndV, wOrV, wNotV, wNeg, wChain, fI, fI0, addD, fLt, fLe, fGt, fGe, fIsB, wCB, fAbs, f2I, fInt, fIsq, wPar, wPar3, permD, startE, List.map_cons, List.map_nil, List.cons_append, List.nil_append, List.append_nil, List.length_cons, List.length_nil, List.replicate, List.getElem?_cons_zero, List.getElem?_cons_succ, List.set_cons_zero, List.set_cons_succ, List.getD_cons_zero, List.getD_cons_succ, Nat.reduceAdd, Nat.reduceSub, Nat.zero_add, true_and, and_true, Bool.not_true, Bool.not_false, if_true, if_false, Bool.false_eq_true, reduceIte, decide_eq_true_eq, Bool.not_eq_true', decide_eq_false_iff_not, eqV_int, eqV_str, eqV_bl, decide_true, reduceCtorEq, not_true_eq_false, not_false_eq_true, Bool.not_eq_true, List.forall_mem_cons, List.not_mem_nil, false_implies, implies_true, Int.reduceNeg, Int.reduceToNat, Int.reducePow, Int.reduceMul, Int.reduceAdd, repr_nb, repr_bl, root_i, gap_i, least_i, most_i, reaches_i, reach_i, lroot_i, draw_i, pick_i, number_i, wFor, wiSeq]
        intro n nn'
        refine ⟨by decide, ?_⟩
        have bn : nb n := ⟨nn'.1, by have := nn'.2; omega⟩
        refine loop_ix (fun i ρ' M' => M' = M ∧ ∃ v7 v12, ρ' = [some (.tok a), some (.str k), some (.int x), some (.int y), some (.int (rt (4 * x * y))), some (.int (gapI (sq k) x y)), some (.int (gapI (sq k) x y)), v7, some (.int hi), some (.int lo), some (.int (leastI (sq k) x y)), some (.int (mostI (sq k) x y)), v12]) ?_ ?_ ⟨rfl, _, _, rfl⟩
        · rintro i d ρ' M' hi' ⟨rfl, v7, v12, rfl⟩
          refine ⟨True.intro, fun K' hK' => ?_⟩
          obtain ⟨r, rfl, br⟩ : ∃ r : Int, d = .int r ∧ nb r := by
            have hm' := List.mem_of_getElem? hi'
            simp only [List.mem_cons, List.not_mem_nil, or_false] at hm'
            rcases hm' with rfl | rfl | rfl | rfl
            · exact ⟨_, rfl, bl⟩
            · refine ⟨_, rfl, ?_⟩
              split
              · exact ⟨by omega, by have := bl.2; omega⟩
              · exact b0
            · exact ⟨_, rfl, bn⟩
            · exact ⟨_, rfl, b0⟩
          have hr : reachB (sq k) x y r = decide (leastI (sq k) x y ≤ r) := reach_is x0 y0 br.1
          have hrc : reachB (sq k) x r y = decide (leastI (sq k) x y ≤ r) := reach_comm.trans hr
          simp only [List.set_cons_succ, List.set_cons_zero]
          subst hB
          refine seq_gen fun K2 hK2 => ?_
          simp (disch := first | assumption | decide) only [wSeq, wNext, wAsg, wgName, wIfS, wB, wOp, wVar, wC, wCall, wCallK, wCons, wNil, wRet, wRetN, wDrop, wTup, wLst, wIf, wAnd, wOr, wNot, wAndV, wOrV, wNotV, wNeg, wChain, fI, fI0, addD, fLt, fLe, fGt, fGe, fIsB, wCB, fAbs, f2I, fInt, fIsq, wPar, wPar3, permD, startE, List.map_cons, List.map_nil, List.cons_append, List.nil_append, List.append_nil, List.length_cons, List.length_nil, List.replicate, List.getElem?_cons_zero, List.getElem?_cons_succ, List.set_cons_zero, List.set_cons_succ, List.getD_cons_zero, List.getD_cons_succ, Nat.reduceAdd, Nat.reduceSub, Nat.zero_add, true_and, and_true, Bool.not_true, Bool.not_false, if_true, if_false, Bool.false_eq_true, reduceIte, decide_eq_true_eq, Bool.not_eq_true', decide_eq_false_iff_not, eqV_int, eqV_str, eqV_bl, decide_true, reduceCtorEq, not_true_eq_false, not_false_eq_true, Bool.not_eq_true, List.forall_mem_cons, List.not_mem_nil, false_implies, implies_true, Int.reduceNeg, Int.reduceToNat, Int.reducePow, Int.reduceMul, Int.reduceAdd, repr_nb, repr_bl, root_i, gap_i, least_i, most_i, reaches_i, reach_i, lroot_i, draw_i, pick_i, number_i]
          subst hK2
          refine seq_gen fun K2 hK2 => ?_
          simp (disch := first | assumption | decide) only [wSeq, wNext, wAsg, wgName, wIfS, wB, wOp, wVar, wC, wCall, wCallK, wCons, wNil, wRet, wRetN, wDrop, wTup, wLst, wIf, wAnd, wOr, wNot, wAndV, wOrV, wNotV, wNeg, wChain, fI, fI0, addD, fLt, fLe, fGt, fGe, fIsB, wCB, fAbs, f2I, fInt, fIsq, wPar, wPar3, permD, startE, List.map_cons, List.map_nil, List.cons_append, List.nil_append, List.append_nil, List.length_cons, List.length_nil, List.replicate, List.getElem?_cons_zero, List.getElem?_cons_succ, List.set_cons_zero, List.set_cons_succ, List.getD_cons_zero, List.getD_cons_succ, Nat.reduceAdd, Nat.reduceSub, Nat.zero_add, true_and, and_true, Bool.not_true, Bool.not_false, if_true, if_false, Bool.false_eq_true, reduceIte, decide_eq_true_eq, Bool.not_eq_true', decide_eq_false_iff_not, eqV_int, eqV_str, eqV_bl, decide_true, reduceCtorEq, not_true_eq_false, not_false_eq_true, Bool.not_eq_true, List.forall_mem_cons, List.not_mem_nil, false_implies, implies_true, Int.reduceNeg, Int.reduceToNat, Int.reducePow, Int.reduceMul, Int.reduceAdd, repr_nb, repr_bl, root_i, gap_i, least_i, most_i, reaches_i, reach_i, lroot_i, draw_i, pick_i, number_i, hr]
          subst hK2
          simp (disch := first | assumption | decide) only [wSeq, wNext, wAsg, wgName, wIfS, wB, wOp, wVar, wC, wCall, wCallK, wCons, wNil, wRet, wRetN, wDrop, wTup, wLst, wIf, wAnd, wOr, wNot, wAndV, wOrV, wNotV, wNeg, wChain, fI, fI0, addD, fLt, fLe, fGt, fGe, fIsB, wCB, fAbs, f2I, fInt, fIsq, wPar, wPar3, permD, startE, List.map_cons, List.map_nil, List.cons_append, List.nil_append, List.append_nil, List.length_cons, List.length_nil, List.replicate, List.getElem?_cons_zero, List.getElem?_cons_succ, List.set_cons_zero, List.set_cons_succ, List.getD_cons_zero, List.getD_cons_succ, Nat.reduceAdd, Nat.reduceSub, Nat.zero_add, true_and, and_true, Bool.not_true, Bool.not_false, if_true, if_false, Bool.false_eq_true, reduceIte, decide_eq_true_eq, Bool.not_eq_true', decide_eq_false_iff_not, eqV_int, eqV_str, eqV_bl, decide_true, reduceCtorEq, not_true_eq_false, not_false_eq_true, Bool.not_eq_true, List.forall_mem_cons, List.not_mem_nil, false_implies, implies_true, Int.reduceNeg, Int.reduceToNat, Int.reducePow, Int.reduceMul, Int.reduceAdd, repr_nb, repr_bl, root_i, gap_i, least_i, most_i, reaches_i, reach_i, lroot_i, draw_i, pick_i, number_i, hr, hrc]
          exact hK' _ _ ⟨rfl, _, _, rfl⟩
        · rintro ρ' M' ⟨rfl, v7, v12, rfl⟩
          refine ⟨True.intro, ?_⟩
          show K _ _
          subst hK
          simp (disch := first | assumption | decide) only [wSeq, wNext, wAsg, wgName, wIfS, wB, wOp, wVar, wC, wCall, wCallK, wCons, wNil, wRet, wRetN, wDrop, wTup, wLst, wIf, wAnd, wOr, wNot, wAndV, wOrV, wNotV, wNeg, wChain, fI, fI0, addD, fLt, fLe, fGt, fGe, fIsB, wCB, fAbs, f2I, fInt, fIsq, wPar, wPar3, permD, startE, List.map_cons, List.map_nil, List.cons_append, List.nil_append, List.append_nil, List.length_cons, List.length_nil, List.replicate, List.getElem?_cons_zero, List.getElem?_cons_succ, List.set_cons_zero, List.set_cons_succ, List.getD_cons_zero, List.getD_cons_succ, Nat.reduceAdd, Nat.reduceSub, Nat.zero_add, true_and, and_true, Bool.not_true, Bool.not_false, if_true, if_false, Bool.false_eq_true, reduceIte, decide_eq_true_eq, Bool.not_eq_true', decide_eq_false_iff_not, eqV_int, eqV_str, eqV_bl, decide_true, reduceCtorEq, not_true_eq_false, not_false_eq_true, Bool.not_eq_true, List.forall_mem_cons, List.not_mem_nil, false_implies, implies_true, Int.reduceNeg, Int.reduceToNat, Int.reducePow, Int.reduceMul, Int.reduceAdd, repr_nb, repr_bl, root_i, gap_i, least_i, most_i, reaches_i, reach_i, lroot_i, draw_i, pick_i, number_i, z1, z2, z3]
          exact q
      unfold leastI mostI at next
      split
      · rename_i h1
        rw [if_neg (by omega)] at next
        split
        · rename_i h2
          rw [if_pos h2] at next
          exact next
        · rename_i h2
          rw [if_neg h2] at next
          rw [Int.add_zero]
          exact next
      · rename_i h1
        rw [if_pos (by omega)] at next
        split
        · rename_i h2
          rw [if_pos h2] at next
          exact next
        · rename_i h2
          rw [if_neg h2] at next
          rw [Int.add_zero]
          exact next
    split
    · rename_i hp
      have bg1 : nb (gapI (sq k) x y - 1) := ⟨by omega, by omega⟩
      have F3 : reachB (sq k) hi lo (gapI (sq k) x y - 1) = false := by
        rw [reach_is (by omega) lo0 (by omega)]
        exact decide_eq_false (by omega)
      simp (disch := first | assumption | decide) only [wSeq, wNext, wAsg, wgName, wIfS, wB, wOp, wVar, wC, wCall, wCallK, wCons, wNil, wRet, wRetN, wDrop, wTup, wLst, wIf, wAnd, wOr, wNot, wAndV, wOrV, wNotV, wNeg, wChain, fI, fI0, addD, fLt, fLe, fGt, fGe, fIsB, wCB, fAbs, f2I, fInt, fIsq, wPar, wPar3, permD, startE, List.map_cons, List.map_nil, List.cons_append, List.nil_append, List.append_nil, List.length_cons, List.length_nil, List.replicate, List.getElem?_cons_zero, List.getElem?_cons_succ, List.set_cons_zero, List.set_cons_succ, List.getD_cons_zero, List.getD_cons_succ, Nat.reduceAdd, Nat.reduceSub, Nat.zero_add, true_and, and_true, Bool.not_true, Bool.not_false, if_true, if_false, Bool.false_eq_true, reduceIte, decide_eq_true_eq, Bool.not_eq_true', decide_eq_false_iff_not, eqV_int, eqV_str, eqV_bl, decide_true, reduceCtorEq, not_true_eq_false, not_false_eq_true, Bool.not_eq_true, List.forall_mem_cons, List.not_mem_nil, false_implies, implies_true, Int.reduceNeg, Int.reduceToNat, Int.reducePow, Int.reduceMul, Int.reduceAdd, repr_nb, repr_bl, root_i, gap_i, least_i, most_i, reaches_i, reach_i, lroot_i, draw_i, pick_i, number_i, F3]
      exact next
    · exact next
  split
  · rename_i h
    unfold gapI at hG
    rw [if_pos h] at hG
    exact hG
  · rename_i h
    unfold gapI at hG
    rw [if_neg h] at hG
    have e : (if y > x then y else x) - (if y < x then y else x) = if x - y < 0 then -(x - y) else x - y := by
      split <;> split <;> split <;> omega
    rw [e]
    exact hG
end K04
namespace K04
open PySem L2 L3
theorem wp__law_grown_right : ∀ ds M Q R, F__law_grown_right ds M Q R → W__law_grown_right { nx := fun _ M' => Q .non M', rt := Q, xr := R } (startE 5 ds) M := by
  rintro ds M Q R ⟨a, a0, k, x, y, rfl, hm, ⟨x0, x1⟩, ⟨y0, y1⟩, q⟩
  unfold W__law_grown_right
  refine seq_gen fun K hK => ?_
  simp (disch := first | assumption | decide) only [wSeq, wNext, wAsg, wgName, wIfS, wB, wOp, wVar, wC, wCall, wCallK, wCons, wNil, wRet, wRetN, wDrop, wTup, wLst, wIf, wAnd, wOr, wNot, wAndV, wOrV, wNotV, wNeg, wChain, fI, fI0, addD, fLt, fLe, fGt, fGe, fIsB, wCB, fAbs, f2I, fInt, fIsq, wPar, wPar3, permD, startE, List.map_cons, List.map_nil, List.cons_append, List.nil_append, List.append_nil, List.length_cons, List.length_nil, List.replicate, List.getElem?_cons_zero, List.getElem?_cons_succ, List.set_cons_zero, List.set_cons_succ, List.getD_cons_zero, List.getD_cons_succ, Nat.reduceAdd, Nat.reduceSub, Nat.zero_add, true_and, and_true, Bool.not_true, Bool.not_false, if_true, if_false, Bool.false_eq_true, reduceIte, decide_eq_true_eq, Bool.not_eq_true', decide_eq_false_iff_not, eqV_int, eqV_str, eqV_bl, decide_true, reduceCtorEq, not_true_eq_false, not_false_eq_true, Bool.not_eq_true, List.forall_mem_cons, List.not_mem_nil, false_implies, implies_true, Int.reduceNeg, Int.reduceToNat, Int.reducePow, Int.reduceMul, Int.reduceAdd, repr_nb, repr_bl, root_i, gap_i, least_i, most_i, reaches_i, reach_i, lroot_i, draw_i, pick_i, number_i]
  intro m m0 m1
  subst hK
  have b1 : nb x := ⟨x0, by omega⟩
  have b2 : nb y := ⟨y0, by omega⟩
  have b3 : nb (x + (1 + m)) := ⟨by omega, by omega⟩
  have b4 : nb (y + (1 + m)) := ⟨by omega, by omega⟩
  have h1 := least_more (s := sq k) x0 y0 (m := 1 + m) (by omega)
  have h2 := least_near (s := sq k) x0 y0 (m := 1 + m) (by omega)
  have h3 := most_more (s := sq k) x0 y0 (m := 1 + m) (by omega)
  refine seq_gen fun K hK => ?_
  simp (disch := first | assumption | decide) only [wSeq, wNext, wAsg, wgName, wIfS, wB, wOp, wVar, wC, wCall, wCallK, wCons, wNil, wRet, wRetN, wDrop, wTup, wLst, wIf, wAnd, wOr, wNot, wAndV, wOrV, wNotV, wNeg, wChain, fI, fI0, addD, fLt, fLe, fGt, fGe, fIsB, wCB, fAbs, f2I, fInt, fIsq, wPar, wPar3, permD, startE, List.map_cons, List.map_nil, List.cons_append, List.nil_append, List.append_nil, List.length_cons, List.length_nil, List.replicate, List.getElem?_cons_zero, List.getElem?_cons_succ, List.set_cons_zero, List.set_cons_succ, List.getD_cons_zero, List.getD_cons_succ, Nat.reduceAdd, Nat.reduceSub, Nat.zero_add, true_and, and_true, Bool.not_true, Bool.not_false, if_true, if_false, Bool.false_eq_true, reduceIte, decide_eq_true_eq, Bool.not_eq_true', decide_eq_false_iff_not, eqV_int, eqV_str, eqV_bl, decide_true, reduceCtorEq, not_true_eq_false, not_false_eq_true, Bool.not_eq_true, List.forall_mem_cons, List.not_mem_nil, false_implies, implies_true, Int.reduceNeg, Int.reduceToNat, Int.reducePow, Int.reduceMul, Int.reduceAdd, repr_nb, repr_bl, root_i, gap_i, least_i, most_i, reaches_i, reach_i, lroot_i, draw_i, pick_i, number_i, Int.not_lt.mpr h1, Int.not_lt.mpr h2]
  subst hK
  simp (disch := first | assumption | decide) only [wSeq, wNext, wAsg, wgName, wIfS, wB, wOp, wVar, wC, wCall, wCallK, wCons, wNil, wRet, wRetN, wDrop, wTup, wLst, wIf, wAnd, wOr, wNot, wAndV, wOrV, wNotV, wNeg, wChain, fI, fI0, addD, fLt, fLe, fGt, fGe, fIsB, wCB, fAbs, f2I, fInt, fIsq, wPar, wPar3, permD, startE, List.map_cons, List.map_nil, List.cons_append, List.nil_append, List.append_nil, List.length_cons, List.length_nil, List.replicate, List.getElem?_cons_zero, List.getElem?_cons_succ, List.set_cons_zero, List.set_cons_succ, List.getD_cons_zero, List.getD_cons_succ, Nat.reduceAdd, Nat.reduceSub, Nat.zero_add, true_and, and_true, Bool.not_true, Bool.not_false, if_true, if_false, Bool.false_eq_true, reduceIte, decide_eq_true_eq, Bool.not_eq_true', decide_eq_false_iff_not, eqV_int, eqV_str, eqV_bl, decide_true, reduceCtorEq, not_true_eq_false, not_false_eq_true, Bool.not_eq_true, List.forall_mem_cons, List.not_mem_nil, false_implies, implies_true, Int.reduceNeg, Int.reduceToNat, Int.reducePow, Int.reduceMul, Int.reduceAdd, repr_nb, repr_bl, root_i, gap_i, least_i, most_i, reaches_i, reach_i, lroot_i, draw_i, pick_i, number_i, decide_eq_true h3.1, decide_eq_true h3.2]
  exact q
theorem wp__law_squares_right : ∀ ds M Q R, F__law_squares_right ds M Q R → W__law_squares_right { nx := fun _ M' => Q .non M', rt := Q, xr := R } (startE 6 ds) M := by
  rintro ds M Q R ⟨a, a0, rfl, hm, q⟩
  unfold W__law_squares_right
  refine seq_gen fun K hK => ?_
  simp (disch := first | assumption | decide) only [wSeq, wNext, wAsg, wgName, wIfS, wB, wOp, wVar, wC, wCall, wCallK, wCons, wNil, wRet, wRetN, wDrop, wTup, wLst, wIf, wAnd, wOr, wNot, wAndV, wOrV, wNotV, wNeg, wChain, fI, fI0, addD, fLt, fLe, fGt, fGe, fIsB, wCB, fAbs, f2I, fInt, fIsq, wPar, wPar3, permD, startE, List.map_cons, List.map_nil, List.cons_append, List.nil_append, List.append_nil, List.length_cons, List.length_nil, List.replicate, List.getElem?_cons_zero, List.getElem?_cons_succ, List.set_cons_zero, List.set_cons_succ, List.getD_cons_zero, List.getD_cons_succ, Nat.reduceAdd, Nat.reduceSub, Nat.zero_add, true_and, and_true, Bool.not_true, Bool.not_false, if_true, if_false, Bool.false_eq_true, reduceIte, decide_eq_true_eq, Bool.not_eq_true', decide_eq_false_iff_not, eqV_int, eqV_str, eqV_bl, decide_true, reduceCtorEq, not_true_eq_false, not_false_eq_true, Bool.not_eq_true, List.forall_mem_cons, List.not_mem_nil, false_implies, implies_true, Int.reduceNeg, Int.reduceToNat, Int.reducePow, Int.reduceMul, Int.reduceAdd, repr_nb, repr_bl, root_i, gap_i, least_i, most_i, reaches_i, reach_i, lroot_i, draw_i, pick_i, number_i]
  intro t t0 t1 f f0 f1 r r0 r1
  subst hK
  have tp : 0 < 1 + t := by omega
  refine seq_gen fun K hK => ?_
  simp (disch := first | assumption | decide) only [wSeq, wNext, wAsg, wgName, wIfS, wB, wOp, wVar, wC, wCall, wCallK, wCons, wNil, wRet, wRetN, wDrop, wTup, wLst, wIf, wAnd, wOr, wNot, wAndV, wOrV, wNotV, wNeg, wChain, fI, fI0, addD, fLt, fLe, fGt, fGe, fIsB, wCB, fAbs, f2I, fInt, fIsq, wPar, wPar3, permD, startE, List.map_cons, List.map_nil, List.cons_append, List.nil_append, List.append_nil, List.length_cons, List.length_nil, List.replicate, List.getElem?_cons_zero, List.getElem?_cons_succ, List.set_cons_zero, List.set_cons_succ, List.getD_cons_zero, List.getD_cons_succ, Nat.reduceAdd, Nat.reduceSub, Nat.zero_add, true_and, and_true, Bool.not_true, Bool.not_false, if_true, if_false, Bool.false_eq_true, reduceIte, decide_eq_true_eq, Bool.not_eq_true', decide_eq_false_iff_not, eqV_int, eqV_str, eqV_bl, decide_true, reduceCtorEq, not_true_eq_false, not_false_eq_true, Bool.not_eq_true, List.forall_mem_cons, List.not_mem_nil, false_implies, implies_true, Int.reduceNeg, Int.reduceToNat, Int.reducePow, Int.reduceMul, Int.reduceAdd, repr_nb, repr_bl, root_i, gap_i, least_i, most_i, reaches_i, reach_i, lroot_i, draw_i, pick_i, number_i]
  obtain ⟨z, ez⟩ : ∃ z, z = (if f > r then f - r else r - f) := ⟨_, rfl⟩
  have next : K [some (.tok a), some (.int z), none, some (.int (1 + t)), some (.int f), some (.int r)] M := ?N
  case N =>
    have z0 : 0 ≤ z ∧ z < 3000 ∧ (z = f - r ∨ z = r - f) := by
      rw [ez]
      split <;> omega
    clear ez
    obtain ⟨z0, z1, zor⟩ := z0
    have sqb : ∀ v : Int, 0 ≤ v → v < 3002 → 0 ≤ (1 + t) * v ∧ (1 + t) * v ≤ 41 * 3002 ∧ 0 ≤ (1 + t) * v * v ∧ (1 + t) * v * v ≤ 41 * 3002 * 3002 := fun v h1 h2 => by
      have p1 : 0 ≤ (1 + t) * v := Int.mul_nonneg (by omega) h1
      have p2 : (1 + t) * v ≤ 41 * 3002 := Int.mul_le_mul (by omega) (by omega) h1 (by decide)
      exact ⟨p1, p2, Int.mul_nonneg p1 h1, Int.mul_le_mul p2 (by omega) h1 (by decide)⟩
    have cv : ∀ v : Int, 0 ≤ v → v < 3002 → CM (1 + t) v ∧ CM ((1 + t) * v) v ∧ nb ((1 + t) * v * v) := fun v h1 h2 => by
      obtain ⟨p1, p2, p3, p4⟩ := sqb v h1 h2
      exact ⟨cm_of (by omega) (by omega), cm_of (by omega) (by omega), p3, by omega⟩
    obtain ⟨cf1, cf2, nf⟩ := cv f f0 (by omega)
    obtain ⟨cr1, cr2, nr⟩ := cv r r0 (by omega)
    obtain ⟨cz1, cz2, nz⟩ := cv z z0 (by omega)
    have eg : gapI true ((1 + t) * f * f) ((1 + t) * r * r) = (1 + t) * z * z := by
      rw [gap_squares (by omega) f0 r0]
      rcases zor with h | h <;> rw [h] <;> grind
    have em : mostI true ((1 + t) * f * f) ((1 + t) * r * r) = (1 + t) * (f + r) * (f + r) := most_squares (by omega) f0 r0
    have cs1 : CM (1 + t) (f + r) := cm_of (by omega) (by omega)
    have cs2 : CM ((1 + t) * (f + r)) (f + r) := cm_of' (by omega) (by omega)
    subst hK
    refine seq_gen fun K hK => ?_
    simp (disch := first | assumption | decide) only [wSeq, wNext, wAsg, wgName, wIfS, wB, wOp, wVar, wC, wCall, wCallK, wCons, wNil, wRet, wRetN, wDrop, wTup, wLst, wIf, wAnd, wOr, wNot, wAndV, wOrV, wNotV, wNeg, wChain, fI, fI0, addD, fLt, fLe, fGt, fGe, fIsB, wCB, fAbs, f2I, fInt, fIsq, wPar, wPar3, permD, startE, List.map_cons, List.map_nil, List.cons_append, List.nil_append, List.append_nil, List.length_cons, List.length_nil, List.replicate, List.getElem?_cons_zero, List.getElem?_cons_succ, List.set_cons_zero, List.set_cons_succ, List.getD_cons_zero, List.getD_cons_succ, Nat.reduceAdd, Nat.reduceSub, Nat.zero_add, true_and, and_true, Bool.not_true, Bool.not_false, if_true, if_false, Bool.false_eq_true, reduceIte, decide_eq_true_eq, Bool.not_eq_true', decide_eq_false_iff_not, eqV_int, eqV_str, eqV_bl, decide_true, reduceCtorEq, not_true_eq_false, not_false_eq_true, Bool.not_eq_true, List.forall_mem_cons, List.not_mem_nil, false_implies, implies_true, Int.reduceNeg, Int.reduceToNat, Int.reducePow, Int.reduceMul, Int.reduceAdd, repr_nb, repr_bl, root_i, gap_i, least_i, most_i, reaches_i, reach_i, lroot_i, draw_i, pick_i, number_i, cf1, cf2, cr1, cr2, cz1, cz2, sq_sq, eg]
    subst hK
    refine seq_gen fun K hK => ?_
    simp (disch := first | assumption | decide) only [wSeq, wNext, wAsg, wgName, wIfS, wB, wOp, wVar, wC, wCall, wCallK, wCons, wNil, wRet, wRetN, wDrop, wTup, wLst, wIf, wAnd, wOr, wNot, wAndV, wOrV, wNotV, wNeg, wChain, fI, fI0, addD, fLt, fLe, fGt, fGe, fIsB, wCB, fAbs, f2I, fInt, fIsq, wPar, wPar3, permD, startE, List.map_cons, List.map_nil, List.cons_append, List.nil_append, List.append_nil, List.length_cons, List.length_nil, List.replicate, List.getElem?_cons_zero, List.getElem?_cons_succ, List.set_cons_zero, List.set_cons_succ, List.getD_cons_zero, List.getD_cons_succ, Nat.reduceAdd, Nat.reduceSub, Nat.zero_add, true_and, and_true, Bool.not_true, Bool.not_false, if_true, if_false, Bool.false_eq_true, reduceIte, decide_eq_true_eq, Bool.not_eq_true', decide_eq_false_iff_not, eqV_int, eqV_str, eqV_bl, decide_true, reduceCtorEq, not_true_eq_false, not_false_eq_true, Bool.not_eq_true, List.forall_mem_cons, List.not_mem_nil, false_implies, implies_true, Int.reduceNeg, Int.reduceToNat, Int.reducePow, Int.reduceMul, Int.reduceAdd, repr_nb, repr_bl, root_i, gap_i, least_i, most_i, reaches_i, reach_i, lroot_i, draw_i, pick_i, number_i, cf1, cf2, cr1, cr2, cs1, cs2, sq_sq, em]
    subst hK
    refine seq_gen fun K hK => ?_
    refine for_gen fun B hB => ?_
    simp (disch := first | assumption | decide) only [wSeq, wNext, wAsg, wgName, wIfS, wB, wOp, wVar, wC, wCall, wCallK, wCons, wNil, wRet, wRetN, wDrop, wTup, wLst, wIf, wAnd, wOr, wNot, wAndV, wOrV, wNotV, wNeg, wChain, fI, fI0, addD, fLt, fLe, fGt, fGe, fIsB, wCB, fAbs, f2I, fInt, fIsq, wPar, wPar3, permD, startE, List.map_cons, List.map_nil, List.cons_append, List.nil_append, List.append_nil, List.length_cons, List.length_nil, List.replicate, List.getElem?_cons_zero, List.getElem?_cons_succ, List.set_cons_zero, List.set_cons_succ, List.getD_cons_zero, List.getD_cons_succ, Nat.reduceAdd, Nat.reduceSub, Nat.zero_add, true_and, and_true, Bool.not_true, Bool.not_false, if_true, if_false, Bool.false_eq_true, reduceIte, decide_eq_true_eq, Bool.not_eq_true', decide_eq_false_iff_not, eqV_int, eqV_str, eqV_bl, decide_true, reduceCtorEq, not_true_eq_false, not_false_eq_true, Bool.not_eq_true, List.forall_mem_cons, List.not_mem_nil, false_implies, implies_true, Int.reduceNeg, Int.reduceToNat, Int.reducePow, Int.reduceMul, Int.reduceAdd, repr_nb, repr_bl, root_i, gap_i, least_i, most_i, reaches_i, reach_i, lroot_i, draw_i, pick_i, number_i, wFor, wiSeq]
    intro v v0 v1
    refine ⟨by decide, ?_⟩
    refine loop_ix (fun i ρ' M' => M' = M ∧ ∃ v2, ρ' = [some (.tok a), some (.int z), v2, some (.int (1 + t)), some (.int f), some (.int r)]) ?_ ?_ ⟨rfl, _, rfl⟩
    · rintro i d ρ' M' hi' ⟨rfl, v2, rfl⟩
      refine ⟨True.intro, fun K' hK' => ?_⟩
      obtain ⟨u, rfl, u0, u1⟩ : ∃ u : Int, d = .int u ∧ 0 ≤ u ∧ u < 3002 := by
        have hm' := List.mem_of_getElem? hi'
        simp only [List.mem_cons, List.not_mem_nil, or_false] at hm'
        rcases hm' with rfl | rfl | rfl | rfl
        · exact ⟨_, rfl, z0, by omega⟩
        · refine ⟨_, rfl, ?_, ?_⟩ <;> split <;> omega
        · exact ⟨_, rfl, by omega, by omega⟩
        · exact ⟨_, rfl, by omega, by omega⟩
      obtain ⟨cu1, cu2, nu⟩ := cv u u0 u1
      have er : reachB true ((1 + t) * f * f) ((1 + t) * r * r) ((1 + t) * u * u) = decide (f ≤ r + u) := reach_squares tp f0 r0 u0
      simp only [List.set_cons_succ, List.set_cons_zero]
      subst hB
      simp (disch := first | assumption | decide) only [wSeq, wNext, wAsg, wgName, wIfS, wB, wOp, wVar, wC, wCall, wCallK, wCons, wNil, wRet, wRetN, wDrop, wTup, wLst, wIf, wAnd, wOr, wNot, wAndV, wOrV, wNotV, wNeg, wChain, fI, fI0, addD, fLt, fLe, fGt, fGe, fIsB, wCB, fAbs, f2I, fInt, fIsq, wPar, wPar3, permD, startE, List.map_cons, List.map_nil, List.cons_append, List.nil_append, List.append_nil, List.length_cons, List.length_nil, List.replicate, List.getElem?_cons_zero, List.getElem?_cons_succ, List.set_cons_zero, List.set_cons_succ, List.getD_cons_zero, List.getD_cons_succ, Nat.reduceAdd, Nat.reduceSub, Nat.zero_add, true_and, and_true, Bool.not_true, Bool.not_false, if_true, if_false, Bool.false_eq_true, reduceIte, decide_eq_true_eq, Bool.not_eq_true', decide_eq_false_iff_not, eqV_int, eqV_str, eqV_bl, decide_true, reduceCtorEq, not_true_eq_false, not_false_eq_true, Bool.not_eq_true, List.forall_mem_cons, List.not_mem_nil, false_implies, implies_true, Int.reduceNeg, Int.reduceToNat, Int.reducePow, Int.reduceMul, Int.reduceAdd, repr_nb, repr_bl, root_i, gap_i, least_i, most_i, reaches_i, reach_i, lroot_i, draw_i, pick_i, number_i, cf1, cf2, cr1, cr2, cu1, cu2, sq_sq, er]
      exact hK' _ _ ⟨rfl, _, rfl⟩
    · rintro ρ' M' ⟨rfl, v2, rfl⟩
      refine ⟨True.intro, ?_⟩
      show K _ _
      subst hK
      simp (disch := first | assumption | decide) only [wSeq, wNext, wAsg, wgName, wIfS, wB, wOp, wVar, wC, wCall, wCallK, wCons, wNil, wRet, wRetN, wDrop, wTup, wLst, wIf, wAnd, wOr, wNot, wAndV, wOrV, wNotV, wNeg, wChain, fI, fI0, addD, fLt, fLe, fGt, fGe, fIsB, wCB, fAbs, f2I, fInt, fIsq, wPar, wPar3, permD, startE, List.map_cons, List.map_nil, List.cons_append, List.nil_append, List.append_nil, List.length_cons, List.length_nil, List.replicate, List.getElem?_cons_zero, List.getElem?_cons_succ, List.set_cons_zero, List.set_cons_succ, List.getD_cons_zero, List.getD_cons_succ, Nat.reduceAdd, Nat.reduceSub, Nat.zero_add, true_and, and_true, Bool.not_true, Bool.not_false, if_true, if_false, Bool.false_eq_true, reduceIte, decide_eq_true_eq, Bool.not_eq_true', decide_eq_false_iff_not, eqV_int, eqV_str, eqV_bl, decide_true, reduceCtorEq, not_true_eq_false, not_false_eq_true, Bool.not_eq_true, List.forall_mem_cons, List.not_mem_nil, false_implies, implies_true, Int.reduceNeg, Int.reduceToNat, Int.reducePow, Int.reduceMul, Int.reduceAdd, repr_nb, repr_bl, root_i, gap_i, least_i, most_i, reaches_i, reach_i, lroot_i, draw_i, pick_i, number_i]
      exact q
  rw [ez] at next
  split
  · rename_i h
    rw [if_pos h] at next
    exact next
  · rename_i h
    rw [if_neg h] at next
    exact next
theorem pw (m : Nat) : (0 : Int) < 2 ^ m := Int.pow_pos (by decide)
theorem pw_le {m k : Nat} (h : m ≤ k) : (2 : Int) ^ m ≤ 2 ^ k := by
  have z : (2 : Nat) ^ m ≤ 2 ^ k := Nat.pow_le_pow_right (by decide) h
  exact_mod_cast z
theorem wp__law_root : ∀ ds M Q R, F__law_root ds M Q R → W__law_root { nx := fun _ M' => Q .non M', rt := Q, xr := R } (startE 5 ds) M := by
  rintro ds M Q R ⟨n, rfl, n0, n1, q⟩
  unfold W__law_root
  refine seq_gen fun K hK => ?_
  simp (disch := first | assumption | decide) only [wSeq, wNext, wAsg, wgName, wIfS, wB, wOp, wVar, wC, wCall, wCallK, wCons, wNil, wRet, wRetN, wDrop, wTup, wLst, wIf, wAnd, wOr, wNot, wAndV, wOrV, wNotV, wNeg, wChain, fI, fI0, addD, fLt, fLe, fGt, fGe, fIsB, wCB, fAbs, f2I, fInt, fIsq, wPar, wPar3, permD, startE, List.map_cons, List.map_nil, List.cons_append, List.nil_append, List.append_nil, List.length_cons, List.length_nil, List.replicate, List.getElem?_cons_zero, List.getElem?_cons_succ, List.set_cons_zero, List.set_cons_succ, List.getD_cons_zero, List.getD_cons_succ, Nat.reduceAdd, Nat.reduceSub, Nat.zero_add, true_and, and_true, Bool.not_true, Bool.not_false, if_true, if_false, Bool.false_eq_true, reduceIte, decide_eq_true_eq, Bool.not_eq_true', decide_eq_false_iff_not, eqV_int, eqV_str, eqV_bl, decide_true, reduceCtorEq, not_true_eq_false, not_false_eq_true, Bool.not_eq_true, List.forall_mem_cons, List.not_mem_nil, false_implies, implies_true, Int.reduceNeg, Int.reduceToNat, Int.reducePow, Int.reduceMul, Int.reduceAdd, repr_nb, repr_bl, root_i, gap_i, least_i, most_i, reaches_i, reach_i, lroot_i, draw_i, pick_i, number_i, wgTup, wgCons, wgNil]
  subst hK
  refine ⟨by decide, seq_gen fun K hK => ?_⟩
  refine for_gen fun B hB => ?_
  simp (disch := first | assumption | decide) only [wSeq, wNext, wAsg, wgName, wIfS, wB, wOp, wVar, wC, wCall, wCallK, wCons, wNil, wRet, wRetN, wDrop, wTup, wLst, wIf, wAnd, wOr, wNot, wAndV, wOrV, wNotV, wNeg, wChain, fI, fI0, addD, fLt, fLe, fGt, fGe, fIsB, wCB, fAbs, f2I, fInt, fIsq, wPar, wPar3, permD, startE, List.map_cons, List.map_nil, List.cons_append, List.nil_append, List.append_nil, List.length_cons, List.length_nil, List.replicate, List.getElem?_cons_zero, List.getElem?_cons_succ, List.set_cons_zero, List.set_cons_succ, List.getD_cons_zero, List.getD_cons_succ, Nat.reduceAdd, Nat.reduceSub, Nat.zero_add, true_and, and_true, Bool.not_true, Bool.not_false, if_true, if_false, Bool.false_eq_true, reduceIte, decide_eq_true_eq, Bool.not_eq_true', decide_eq_false_iff_not, eqV_int, eqV_str, eqV_bl, decide_true, reduceCtorEq, not_true_eq_false, not_false_eq_true, Bool.not_eq_true, List.forall_mem_cons, List.not_mem_nil, false_implies, implies_true, Int.reduceNeg, Int.reduceToNat, Int.reducePow, Int.reduceMul, Int.reduceAdd, repr_nb, repr_bl, root_i, gap_i, least_i, most_i, reaches_i, reach_i, lroot_i, draw_i, pick_i, number_i, wFor, wiRange1]
  refine ⟨by decide, by decide, ?_⟩
  refine loop_ix (fun i ρ' M' => M' = M ∧ ∃ (v1 : Option D) (m : Nat), ρ' = [some (.int n), v1, some (.int 0), some (.int (2 ^ m)), none] ∧ m ≤ 61 ∧ (n < 2 ^ m * 2 ^ m ∨ m = i)) ?_ ?_ ⟨rfl, _, 0, rfl, by decide, .inr rfl⟩
  · rintro i d ρ' M' hi ⟨rfl, v1, m, rfl, hm, hor⟩
    refine ⟨True.intro, fun K' hK' => ?_⟩
    have p0 := pw m
    have p1 := pw_le hm
    have cm1 : CM (2 ^ m) (2 ^ m) := .inl (.inl ⟨by omega, by omega⟩)
    have cm2 : CM (2 ^ m) 2 := .inl (.inl ⟨by omega, by omega⟩)
    simp only [List.set_cons_succ, List.set_cons_zero]
    subst hB
    simp (disch := first | assumption | decide) only [wSeq, wNext, wAsg, wgName, wIfS, wB, wOp, wVar, wC, wCall, wCallK, wCons, wNil, wRet, wRetN, wDrop, wTup, wLst, wIf, wAnd, wOr, wNot, wAndV, wOrV, wNotV, wNeg, wChain, fI, fI0, addD, fLt, fLe, fGt, fGe, fIsB, wCB, fAbs, f2I, fInt, fIsq, wPar, wPar3, permD, startE, List.map_cons, List.map_nil, List.cons_append, List.nil_append, List.append_nil, List.length_cons, List.length_nil, List.replicate, List.getElem?_cons_zero, List.getElem?_cons_succ, List.set_cons_zero, List.set_cons_succ, List.getD_cons_zero, List.getD_cons_succ, Nat.reduceAdd, Nat.reduceSub, Nat.zero_add, true_and, and_true, Bool.not_true, Bool.not_false, if_true, if_false, Bool.false_eq_true, reduceIte, decide_eq_true_eq, Bool.not_eq_true', decide_eq_false_iff_not, eqV_int, eqV_str, eqV_bl, decide_true, reduceCtorEq, not_true_eq_false, not_false_eq_true, Bool.not_eq_true, List.forall_mem_cons, List.not_mem_nil, false_implies, implies_true, Int.reduceNeg, Int.reduceToNat, Int.reducePow, Int.reduceMul, Int.reduceAdd, repr_nb, repr_bl, root_i, gap_i, least_i, most_i, reaches_i, reach_i, lroot_i, draw_i, pick_i, number_i]
    refine ⟨cm1, ?_⟩
    split
    · rename_i h
      refine ⟨cm2, ?_⟩
      have hm60 : m < 60 := by
        rcases Nat.lt_or_ge m 60 with z | z
        · exact z
        · have k1 := pw_le z
          have k2 : (2 : Int) ^ 60 * 2 ^ 60 ≤ 2 ^ m * 2 ^ m := Int.mul_le_mul k1 k1 (by decide) (by omega)
          have k3 : (2 : Int) ^ 60 * 2 ^ 60 = 2 ^ 120 := by decide
          omega
      have e : (2 : Int) ^ m * 2 = 2 ^ (m + 1) := by rw [Int.pow_succ]
      rw [e]
      refine hK' _ _ ⟨rfl, _, m + 1, rfl, by omega, ?_⟩
      rcases hor with z | z
      · omega
      · exact .inr (by omega)
    · rename_i h
      exact hK' _ _ ⟨rfl, _, m, rfl, hm, .inl (by omega)⟩
  · rintro ρ' M' ⟨rfl, v1, m, rfl, hm, hor⟩
    have hn : n < 2 ^ m * 2 ^ m := by
      rcases hor with z | z
      · exact z
      · rw [intsD_len] at z
        have z2 : m = 80 := z
        omega
    refine ⟨True.intro, ?_⟩
    show K _ _
    subst hK
    refine seq_gen fun K hK => ?_
    refine for_gen fun B hB => ?_
    simp (disch := first | assumption | decide) only [wSeq, wNext, wAsg, wgName, wIfS, wB, wOp, wVar, wC, wCall, wCallK, wCons, wNil, wRet, wRetN, wDrop, wTup, wLst, wIf, wAnd, wOr, wNot, wAndV, wOrV, wNotV, wNeg, wChain, fI, fI0, addD, fLt, fLe, fGt, fGe, fIsB, wCB, fAbs, f2I, fInt, fIsq, wPar, wPar3, permD, startE, List.map_cons, List.map_nil, List.cons_append, List.nil_append, List.append_nil, List.length_cons, List.length_nil, List.replicate, List.getElem?_cons_zero, List.getElem?_cons_succ, List.set_cons_zero, List.set_cons_succ, List.getD_cons_zero, List.getD_cons_succ, Nat.reduceAdd, Nat.reduceSub, Nat.zero_add, true_and, and_true, Bool.not_true, Bool.not_false, if_true, if_false, Bool.false_eq_true, reduceIte, decide_eq_true_eq, Bool.not_eq_true', decide_eq_false_iff_not, eqV_int, eqV_str, eqV_bl, decide_true, reduceCtorEq, not_true_eq_false, not_false_eq_true, Bool.not_eq_true, List.forall_mem_cons, List.not_mem_nil, false_implies, implies_true, Int.reduceNeg, Int.reduceToNat, Int.reducePow, Int.reduceMul, Int.reduceAdd, repr_nb, repr_bl, root_i, gap_i, least_i, most_i, reaches_i, reach_i, lroot_i, draw_i, pick_i, number_i, wFor, wiRange1]
    refine ⟨by decide, by decide, ?_⟩
    refine loop_ix (fun i ρ' M2 => M2 = M' ∧ ∃ (v1 v4 : Option D) (l : Int) (j : Nat), ρ' = [some (.int n), v1, some (.int l), some (.int (l + 2 ^ j)), v4] ∧ 0 ≤ l ∧ l * l ≤ n ∧ n < (l + 2 ^ j) * (l + 2 ^ j) ∧ (j = 0 ∨ j + i ≤ 61)) ?_ ?_ ⟨rfl, _, _, 0, m, by rw [Int.zero_add], Int.le_refl _, n0, by rw [Int.zero_add]; exact hn, .inr hm⟩
    · rintro i d ρ' M2 hi ⟨rfl, v1, v4, l, j, rfl, l0, ln, nh, hj⟩
      refine ⟨True.intro, fun K' hK' => ?_⟩
      have p0 := pw j
      have p1 := pw_le (m := j) (k := 61) (by omega)
      have lb : l < 2 ^ 60 := sq_lt l0 (by decide) (by
        have k3 : (2 : Int) ^ 60 * 2 ^ 60 = 2 ^ 120 := by decide
        omega)
      have cd : CDivW (l + (l + 2 ^ j)) 2 := ⟨by decide, by decide⟩
      simp only [List.set_cons_succ, List.set_cons_zero]
      subst hB
      refine seq_gen fun K2 hK2 => ?_
      simp (disch := first | assumption | decide) only [wSeq, wNext, wAsg, wgName, wIfS, wB, wOp, wVar, wC, wCall, wCallK, wCons, wNil, wRet, wRetN, wDrop, wTup, wLst, wIf, wAnd, wOr, wNot, wAndV, wOrV, wNotV, wNeg, wChain, fI, fI0, addD, fLt, fLe, fGt, fGe, fIsB, wCB, fAbs, f2I, fInt, fIsq, wPar, wPar3, permD, startE, List.map_cons, List.map_nil, List.cons_append, List.nil_append, List.append_nil, List.length_cons, List.length_nil, List.replicate, List.getElem?_cons_zero, List.getElem?_cons_succ, List.set_cons_zero, List.set_cons_succ, List.getD_cons_zero, List.getD_cons_succ, Nat.reduceAdd, Nat.reduceSub, Nat.zero_add, true_and, and_true, Bool.not_true, Bool.not_false, if_true, if_false, Bool.false_eq_true, reduceIte, decide_eq_true_eq, Bool.not_eq_true', decide_eq_false_iff_not, eqV_int, eqV_str, eqV_bl, decide_true, reduceCtorEq, not_true_eq_false, not_false_eq_true, Bool.not_eq_true, List.forall_mem_cons, List.not_mem_nil, false_implies, implies_true, Int.reduceNeg, Int.reduceToNat, Int.reducePow, Int.reduceMul, Int.reduceAdd, repr_nb, repr_bl, root_i, gap_i, least_i, most_i, reaches_i, reach_i, lroot_i, draw_i, pick_i, number_i]
      refine ⟨cd, ?_⟩
      subst hK2
      have ed : l + 2 ^ j - l = 2 ^ j := by omega
      simp (disch := first | assumption | decide) only [wSeq, wNext, wAsg, wgName, wIfS, wB, wOp, wVar, wC, wCall, wCallK, wCons, wNil, wRet, wRetN, wDrop, wTup, wLst, wIf, wAnd, wOr, wNot, wAndV, wOrV, wNotV, wNeg, wChain, fI, fI0, addD, fLt, fLe, fGt, fGe, fIsB, wCB, fAbs, f2I, fInt, fIsq, wPar, wPar3, permD, startE, List.map_cons, List.map_nil, List.cons_append, List.nil_append, List.append_nil, List.length_cons, List.length_nil, List.replicate, List.getElem?_cons_zero, List.getElem?_cons_succ, List.set_cons_zero, List.set_cons_succ, List.getD_cons_zero, List.getD_cons_succ, Nat.reduceAdd, Nat.reduceSub, Nat.zero_add, true_and, and_true, Bool.not_true, Bool.not_false, if_true, if_false, Bool.false_eq_true, reduceIte, decide_eq_true_eq, Bool.not_eq_true', decide_eq_false_iff_not, eqV_int, eqV_str, eqV_bl, decide_true, reduceCtorEq, not_true_eq_false, not_false_eq_true, Bool.not_eq_true, List.forall_mem_cons, List.not_mem_nil, false_implies, implies_true, Int.reduceNeg, Int.reduceToNat, Int.reducePow, Int.reduceMul, Int.reduceAdd, repr_nb, repr_bl, root_i, gap_i, least_i, most_i, reaches_i, reach_i, lroot_i, draw_i, pick_i, number_i, ed]
      cases j with
      | zero =>
        rw [if_neg (by decide), if_neg (by decide)]
        exact hK' _ _ ⟨rfl, _, _, l, 0, rfl, l0, ln, nh, .inl rfl⟩
      | succ j =>
        have e : (2 : Int) ^ (j + 1) = 2 ^ j * 2 := Int.pow_succ _ _
        have pj := pw j
        have em : (l + (l + 2 ^ (j + 1))) / 2 = l + 2 ^ j := by omega
        have en : l + 2 ^ (j + 1) = l + 2 ^ j + 2 ^ j := by omega
        rw [if_pos (by omega), em]
        refine ⟨.inl (.inl ⟨by omega, by omega⟩), ?_⟩
        split
        · rename_i h
          rw [en]
          exact hK' _ _ ⟨rfl, _, _, l + 2 ^ j, j, rfl, by omega, h, by rw [← en]; exact nh, by omega⟩
        · rename_i h
          rw [if_pos (by omega)]
          exact hK' _ _ ⟨rfl, _, _, l, j, rfl, l0, ln, by omega, by omega⟩
    · rintro ρ' M2 ⟨rfl, v1, v4, l, j, rfl, l0, ln, nh, hj⟩
      refine ⟨True.intro, ?_⟩
      show K _ _
      have j0 : j = 0 := by
        rcases hj with z | z
        · exact z
        · rw [intsD_len] at z
          have z2 : j + 160 ≤ 61 := z
          omega
      subst j0
      have er : rt n = l := rt_is l0 ln nh
      rw [er] at q
      subst hK
      simp (disch := first | assumption | decide) only [wSeq, wNext, wAsg, wgName, wIfS, wB, wOp, wVar, wC, wCall, wCallK, wCons, wNil, wRet, wRetN, wDrop, wTup, wLst, wIf, wAnd, wOr, wNot, wAndV, wOrV, wNotV, wNeg, wChain, fI, fI0, addD, fLt, fLe, fGt, fGe, fIsB, wCB, fAbs, f2I, fInt, fIsq, wPar, wPar3, permD, startE, List.map_cons, List.map_nil, List.cons_append, List.nil_append, List.append_nil, List.length_cons, List.length_nil, List.replicate, List.getElem?_cons_zero, List.getElem?_cons_succ, List.set_cons_zero, List.set_cons_succ, List.getD_cons_zero, List.getD_cons_succ, Nat.reduceAdd, Nat.reduceSub, Nat.zero_add, true_and, and_true, Bool.not_true, Bool.not_false, if_true, if_false, Bool.false_eq_true, reduceIte, decide_eq_true_eq, Bool.not_eq_true', decide_eq_false_iff_not, eqV_int, eqV_str, eqV_bl, decide_true, reduceCtorEq, not_true_eq_false, not_false_eq_true, Bool.not_eq_true, List.forall_mem_cons, List.not_mem_nil, false_implies, implies_true, Int.reduceNeg, Int.reduceToNat, Int.reducePow, Int.reduceMul, Int.reduceAdd, repr_nb, repr_bl, root_i, gap_i, least_i, most_i, reaches_i, reach_i, lroot_i, draw_i, pick_i, number_i]
      exact q
end K04
namespace K04
open PySem L2 L3
theorem wp__law_pick : ∀ ds M Q R, pickF ds M Q R → W__law_pick { nx := fun _ M' => Q .non M', rt := Q, xr := R } (startE 2 ds) M := by
  rintro ds M Q R ⟨a, a0, d, es, rfl, hm, hs, h0, h1, q⟩
  unfold W__law_pick
  simp (disch := first | assumption | decide) only [wSeq, wNext, wAsg, wgName, wIfS, wB, wOp, wVar, wC, wCall, wCallK, wCons, wNil, wRet, wRetN, wDrop, wTup, wLst, wIf, wAnd, wOr, wNot, wAndV, wOrV, wNotV, wNeg, wChain, fI, fI0, addD, fLt, fLe, fGt, fGe, fIsB, wCB, fAbs, f2I, fInt, fIsq, wPar, wPar3, permD, startE, List.map_cons, List.map_nil, List.cons_append, List.nil_append, List.append_nil, List.length_cons, List.length_nil, List.replicate, List.getElem?_cons_zero, List.getElem?_cons_succ, List.set_cons_zero, List.set_cons_succ, List.getD_cons_zero, List.getD_cons_succ, Nat.reduceAdd, Nat.reduceSub, Nat.zero_add, true_and, and_true, Bool.not_true, Bool.not_false, if_true, if_false, Bool.false_eq_true, reduceIte, decide_eq_true_eq, Bool.not_eq_true', decide_eq_false_iff_not, eqV_int, eqV_str, eqV_bl, decide_true, reduceCtorEq, not_true_eq_false, not_false_eq_true, Bool.not_eq_true, List.forall_mem_cons, List.not_mem_nil, false_implies, implies_true, Int.reduceNeg, Int.reduceToNat, Int.reducePow, Int.reduceMul, Int.reduceAdd, repr_nb, repr_bl, root_i, gap_i, least_i, most_i, reaches_i, reach_i, lroot_i, draw_i, pick_i, number_i]
  have fl : ∀ Q' : KD, Q' (.int (es.length : Int)) M → fLen [d] M Q' := fun Q' h => by
    cases d <;> first | exact ⟨es, hs, h⟩ | cases hs
  refine fl _ ?_
  have hl : (0 : Int) < (es.length : Int) := by omega
  have hg : ((es.length : Nat) : Int).natAbs.log2 < 9000 := by
    rw [Int.natAbs_natCast]
    have := Nat.log2_le_self es.length
    have h2 : es.length.log2 < 20 := (Nat.log2_lt (by omega)).mpr (by omega)
    omega
  refine ⟨a, a0, _, rfl, hm, hl, hg, fun k k0 k1 => ?_⟩
  obtain ⟨i, rfl⟩ := Int.eq_ofNat_of_zero_le k0
  have hi : i < es.length := by omega
  have e : atI es (i : Int) = some es[i] := by
    unfold atI ixN
    simp [hi]
  have fx : ∀ Q' : KD, Q' es[i] M → ixD d (.int (i : Int)) M Q' := fun Q' h => by
    cases d <;> first | exact ⟨es, _, hs, e, h⟩ | cases hs
  exact fx _ (q _ (List.getElem_mem hi))
theorem cut_ints (ns : List Int) (lo hi : Option Int) : ∃ ms : List Int, cutD (ns.map .int) lo hi = ms.map .int ∧ ms.length ≤ ns.length := by
  unfold cutD
  refine ⟨(ns.drop (HT.sIx (ns.map D.int).length 0 lo)).take (HT.sIx (ns.map D.int).length (ns.map D.int).length hi - HT.sIx (ns.map D.int).length 0 lo), ?_, ?_⟩
  · rw [← List.map_drop, ← List.map_take]
  · rw [List.length_take, List.length_drop]
    omega
theorem heap_cells {Q : KD} {M : Mp} {sc : Option D} {v2 v3 : Option D} : ∀ (ns acc : List Int), acc.length + ns.length ≤ 63 → (∀ c ∈ acc, 0 ≤ c) → (∀ cs : List Int, cs.length ≤ 63 → (∀ c ∈ cs, 0 ≤ c) → Q (.lst (cs.map .int)) M) →
    wLcL (wgName 1) wYes (wOp addD (wOp (fI CM fun i j => .int (i * j)) (wC (.int 2)) (wCB fAbs (wCons (wVar 1) wNil))) (wCB fInt (wCons (wOp fLt (wVar 1) (wC (.int 0))) wNil))) AnyM [sc, none, v2, v3] (ns.map .int) (acc.map .int) M Q
  | [], acc, hl, hp, q => ⟨True.intro, q acc (by simpa using hl) hp⟩
  | n :: ns, acc, hl, hp, q => by
    refine ⟨True.intro, ?_, ?_⟩
    · rw [List.length_map]
      rw [List.length_cons] at hl
      exact Nat.lt_of_lt_of_le (by omega : acc.length < 63) (by decide)
    · have e : ∀ c : Int, acc.map D.int ++ [.int c] = (acc ++ [c]).map .int := fun c => by rw [List.map_append]; rfl
      simp (disch := first | assumption | decide) only [wSeq, wNext, wAsg, wgName, wIfS, wB, wOp, wVar, wC, wCall, wCallK, wCons, wNil, wRet, wRetN, wDrop, wTup, wLst, wIf, wAnd, wOr, wNot, wAndV, wOrV, wNotV, wNeg, wChain, fI, fI0, addD, fLt, fLe, fGt, fGe, fIsB, wCB, fAbs, f2I, fInt, fIsq, wPar, wPar3, permD, startE, List.map_cons, List.map_nil, List.cons_append, List.nil_append, List.append_nil, List.length_cons, List.length_nil, List.replicate, List.getElem?_cons_zero, List.getElem?_cons_succ, List.set_cons_zero, List.set_cons_succ, List.getD_cons_zero, List.getD_cons_succ, Nat.reduceAdd, Nat.reduceSub, Nat.zero_add, true_and, and_true, Bool.not_true, Bool.not_false, if_true, if_false, Bool.false_eq_true, reduceIte, decide_eq_true_eq, Bool.not_eq_true', decide_eq_false_iff_not, eqV_int, eqV_str, eqV_bl, decide_true, reduceCtorEq, not_true_eq_false, not_false_eq_true, Bool.not_eq_true, List.forall_mem_cons, List.not_mem_nil, false_implies, implies_true, Int.reduceNeg, Int.reduceToNat, Int.reducePow, Int.reduceMul, Int.reduceAdd, repr_nb, repr_bl, root_i, gap_i, least_i, most_i, reaches_i, reach_i, lroot_i, draw_i, pick_i, number_i, wYes]
      refine ⟨.inl (.inl ⟨by decide, by decide⟩), ?_⟩
      rw [e]
      refine heap_cells ns _ (by rw [List.length_append, List.length_singleton]; rw [List.length_cons] at hl; omega) (fun c hc => ?_) q
      rcases List.mem_append.mp hc with z | z
      · exact hp c z
      · rw [List.mem_singleton.mp z]
        split <;> omega
theorem heap_great {Q : KD} {M : Mp} {v0 v2 v3 : Option D} : ∀ (ns acc : List Int), acc.length + ns.length ≤ 63 → (∀ c ∈ acc, 0 ≤ c) → (∀ c ∈ ns, 0 ≤ c) → (∀ cs : List Int, cs.length ≤ 63 → (∀ c ∈ cs, 0 ≤ c) → Q (.lst (cs.map .int)) M) →
    wLcL (wgName 1) (wB (wOp fGe (wVar 1) (wOp (fI CPow fun i j => .int (i ^ j.toNat)) (wC (.int 10)) (wC (.int 18))))) (wVar 1) AnyM [v0, none, v2, v3] (ns.map .int) (acc.map .int) M Q
  | [], acc, hl, hp, hq, q => ⟨True.intro, q acc (by simpa using hl) hp⟩
  | n :: ns, acc, hl, hp, hq, q => by
    rw [List.length_cons] at hl
    refine ⟨True.intro, ?_, ?_⟩
    · rw [List.length_map]
      exact Nat.lt_of_lt_of_le (by omega : acc.length < 63) (by decide)
    · have e : ∀ c : Int, acc.map D.int ++ [.int c] = (acc ++ [c]).map .int := fun c => by rw [List.map_append]; rfl
      simp (disch := first | assumption | decide) only [wSeq, wNext, wAsg, wgName, wIfS, wB, wOp, wVar, wC, wCall, wCallK, wCons, wNil, wRet, wRetN, wDrop, wTup, wLst, wIf, wAnd, wOr, wNot, wAndV, wOrV, wNotV, wNeg, wChain, fI, fI0, addD, fLt, fLe, fGt, fGe, fIsB, wCB, fAbs, f2I, fInt, fIsq, wPar, wPar3, permD, startE, List.map_cons, List.map_nil, List.cons_append, List.nil_append, List.append_nil, List.length_cons, List.length_nil, List.replicate, List.getElem?_cons_zero, List.getElem?_cons_succ, List.set_cons_zero, List.set_cons_succ, List.getD_cons_zero, List.getD_cons_succ, Nat.reduceAdd, Nat.reduceSub, Nat.zero_add, true_and, and_true, Bool.not_true, Bool.not_false, if_true, if_false, Bool.false_eq_true, reduceIte, decide_eq_true_eq, Bool.not_eq_true', decide_eq_false_iff_not, eqV_int, eqV_str, eqV_bl, decide_true, reduceCtorEq, not_true_eq_false, not_false_eq_true, Bool.not_eq_true, List.forall_mem_cons, List.not_mem_nil, false_implies, implies_true, Int.reduceNeg, Int.reduceToNat, Int.reducePow, Int.reduceMul, Int.reduceAdd, repr_nb, repr_bl, root_i, gap_i, least_i, most_i, reaches_i, reach_i, lroot_i, draw_i, pick_i, number_i]
      refine ⟨⟨by decide, by decide, by decide⟩, ?_⟩
      have hq2 : ∀ c ∈ ns, 0 ≤ c := fun c hc => hq c (List.mem_cons_of_mem _ hc)
      split
      · rw [e]
        refine heap_great ns _ (by rw [List.length_append, List.length_singleton]; omega) (fun c hc => ?_) hq2 q
        rcases List.mem_append.mp hc with z | z
        · exact hp c z
        · rw [List.mem_singleton.mp z]
          exact hq n List.mem_cons_self
      · exact heap_great ns acc (by omega) hp hq2 q
theorem wp__law_heap : ∀ ds M Q R, F__law_heap ds M Q R → W__law_heap { nx := fun _ M' => Q .non M', rt := Q, xr := R } (startE 4 ds) M := by
  rintro ds M Q R ⟨ns, rfl, hn, q⟩
  unfold W__law_heap
  refine seq_gen fun K hK => ?_
  simp (disch := first | assumption | decide) only [wSeq, wNext, wAsg, wgName, wIfS, wB, wOp, wVar, wC, wCall, wCallK, wCons, wNil, wRet, wRetN, wDrop, wTup, wLst, wIf, wAnd, wOr, wNot, wAndV, wOrV, wNotV, wNeg, wChain, fI, fI0, addD, fLt, fLe, fGt, fGe, fIsB, wCB, fAbs, f2I, fInt, fIsq, wPar, wPar3, permD, startE, List.map_cons, List.map_nil, List.cons_append, List.nil_append, List.append_nil, List.length_cons, List.length_nil, List.replicate, List.getElem?_cons_zero, List.getElem?_cons_succ, List.set_cons_zero, List.set_cons_succ, List.getD_cons_zero, List.getD_cons_succ, Nat.reduceAdd, Nat.reduceSub, Nat.zero_add, true_and, and_true, Bool.not_true, Bool.not_false, if_true, if_false, Bool.false_eq_true, reduceIte, decide_eq_true_eq, Bool.not_eq_true', decide_eq_false_iff_not, eqV_int, eqV_str, eqV_bl, decide_true, reduceCtorEq, not_true_eq_false, not_false_eq_true, Bool.not_eq_true, List.forall_mem_cons, List.not_mem_nil, false_implies, implies_true, Int.reduceNeg, Int.reduceToNat, Int.reducePow, Int.reduceMul, Int.reduceAdd, repr_nb, repr_bl, root_i, gap_i, least_i, most_i, reaches_i, reach_i, lroot_i, draw_i, pick_i, number_i, wLc, wSl, wNoP, wPart, slD, wiSeq, wipeE]
  obtain ⟨ms, em, lm⟩ := cut_ints ns none (some 60)
  refine ⟨_, ⟨0, .inr rfl⟩, rfl, ?_⟩
  rw [em]
  refine heap_cells ms [] (by simp; omega) (fun c hc => by cases hc) fun cs hc hp => ?_
  subst hK
  refine seq_gen fun K hK => ?_
  refine for_gen fun B hB => ?_
  simp (disch := first | assumption | decide) only [wSeq, wNext, wAsg, wgName, wIfS, wB, wOp, wVar, wC, wCall, wCallK, wCons, wNil, wRet, wRetN, wDrop, wTup, wLst, wIf, wAnd, wOr, wNot, wAndV, wOrV, wNotV, wNeg, wChain, fI, fI0, addD, fLt, fLe, fGt, fGe, fIsB, wCB, fAbs, f2I, fInt, fIsq, wPar, wPar3, permD, startE, List.map_cons, List.map_nil, List.cons_append, List.nil_append, List.append_nil, List.length_cons, List.length_nil, List.replicate, List.getElem?_cons_zero, List.getElem?_cons_succ, List.set_cons_zero, List.set_cons_succ, List.getD_cons_zero, List.getD_cons_succ, Nat.reduceAdd, Nat.reduceSub, Nat.zero_add, true_and, and_true, Bool.not_true, Bool.not_false, if_true, if_false, Bool.false_eq_true, reduceIte, decide_eq_true_eq, Bool.not_eq_true', decide_eq_false_iff_not, eqV_int, eqV_str, eqV_bl, decide_true, reduceCtorEq, not_true_eq_false, not_false_eq_true, Bool.not_eq_true, List.forall_mem_cons, List.not_mem_nil, false_implies, implies_true, Int.reduceNeg, Int.reduceToNat, Int.reducePow, Int.reduceMul, Int.reduceAdd, repr_nb, repr_bl, root_i, gap_i, least_i, most_i, reaches_i, reach_i, lroot_i, draw_i, pick_i, number_i, wFor, wiSeq]
  refine loop_ix (fun i ρ' M' => M' = M ∧ ∃ (v1 : Option D) (s : Int), ρ' = [some (.lst (ns.map .int)), v1, some (.lst (cs.map .int)), some (.int s)] ∧ 0 ≤ s ∧ s < 4294967296) ?_ ?_ ⟨rfl, _, _, rfl, by decide, by decide⟩
  · rintro i d ρ' M' hi ⟨rfl, v1, s, rfl, s0, s1⟩
    refine ⟨True.intro, fun K' hK' => ?_⟩
    obtain ⟨c, rfl⟩ : ∃ c : Int, d = .int c := by
      rw [List.getElem?_map] at hi
      cases e : cs[i]? with
      | none =>
        rw [e] at hi
        cases hi
      | some c =>
        rw [e] at hi
        exact ⟨c, (Option.some.inj hi).symm⟩
    subst hB
    simp (disch := first | assumption | decide) only [wSeq, wNext, wAsg, wgName, wIfS, wB, wOp, wVar, wC, wCall, wCallK, wCons, wNil, wRet, wRetN, wDrop, wTup, wLst, wIf, wAnd, wOr, wNot, wAndV, wOrV, wNotV, wNeg, wChain, fI, fI0, addD, fLt, fLe, fGt, fGe, fIsB, wCB, fAbs, f2I, fInt, fIsq, wPar, wPar3, permD, startE, List.map_cons, List.map_nil, List.cons_append, List.nil_append, List.append_nil, List.length_cons, List.length_nil, List.replicate, List.getElem?_cons_zero, List.getElem?_cons_succ, List.set_cons_zero, List.set_cons_succ, List.getD_cons_zero, List.getD_cons_succ, Nat.reduceAdd, Nat.reduceSub, Nat.zero_add, true_and, and_true, Bool.not_true, Bool.not_false, if_true, if_false, Bool.false_eq_true, reduceIte, decide_eq_true_eq, Bool.not_eq_true', decide_eq_false_iff_not, eqV_int, eqV_str, eqV_bl, decide_true, reduceCtorEq, not_true_eq_false, not_false_eq_true, Bool.not_eq_true, List.forall_mem_cons, List.not_mem_nil, false_implies, implies_true, Int.reduceNeg, Int.reduceToNat, Int.reducePow, Int.reduceMul, Int.reduceAdd, repr_nb, repr_bl, root_i, gap_i, least_i, most_i, reaches_i, reach_i, lroot_i, draw_i, pick_i, number_i]
    refine ⟨.inl (.inr ⟨by decide, by decide⟩), by decide, by decide, ?_⟩
    exact hK' _ _ ⟨rfl, _, _, rfl, Int.emod_nonneg _ (by decide), Int.lt_trans (Int.emod_lt_of_pos _ (by decide)) (by decide)⟩
  · rintro ρ' M' ⟨rfl, v1, s, rfl, s0, s1⟩
    refine ⟨True.intro, ?_⟩
    show K _ _
    subst hK
    simp (disch := first | assumption | decide) only [wSeq, wNext, wAsg, wgName, wIfS, wB, wOp, wVar, wC, wCall, wCallK, wCons, wNil, wRet, wRetN, wDrop, wTup, wLst, wIf, wAnd, wOr, wNot, wAndV, wOrV, wNotV, wNeg, wChain, fI, fI0, addD, fLt, fLe, fGt, fGe, fIsB, wCB, fAbs, f2I, fInt, fIsq, wPar, wPar3, permD, startE, List.map_cons, List.map_nil, List.cons_append, List.nil_append, List.append_nil, List.length_cons, List.length_nil, List.replicate, List.getElem?_cons_zero, List.getElem?_cons_succ, List.set_cons_zero, List.set_cons_succ, List.getD_cons_zero, List.getD_cons_succ, Nat.reduceAdd, Nat.reduceSub, Nat.zero_add, true_and, and_true, Bool.not_true, Bool.not_false, if_true, if_false, Bool.false_eq_true, reduceIte, decide_eq_true_eq, Bool.not_eq_true', decide_eq_false_iff_not, eqV_int, eqV_str, eqV_bl, decide_true, reduceCtorEq, not_true_eq_false, not_false_eq_true, Bool.not_eq_true, List.forall_mem_cons, List.not_mem_nil, false_implies, implies_true, Int.reduceNeg, Int.reduceToNat, Int.reducePow, Int.reduceMul, Int.reduceAdd, repr_nb, repr_bl, root_i, gap_i, least_i, most_i, reaches_i, reach_i, lroot_i, draw_i, pick_i, number_i, wDrw, wLc, wiSeq, wipeE]
    refine heap_great cs [] (by simp; omega) (fun c hc => by cases hc) hp fun cs2 hc2 hp2 => ?_
    refine ⟨cs2, s, rfl, rfl, by omega, hp2, s0, s1, fun p q' _ _ _ => q _ q' p setM_same⟩
end K04
namespace K04
open PySem L2 L3
theorem two_i {M : Mp} {a a0 : Addr} {k : Str} {x y : Int} {Q : KD} {R} (hm : M a = some (.drw a0)) (nx : nn x) (ny : nn y) : F__law_two_right [.tok a, .str k, .int x, .int y] M Q R ↔ Q (.bl true) M := by
  constructor
  · rintro ⟨_, _, _, _, _, h, _, _, _, q⟩
    cases h
    exact q
  · exact fun q => ⟨a, a0, k, x, y, rfl, hm, nx, ny, q⟩
theorem grown_i {M : Mp} {a a0 : Addr} {k : Str} {x y : Int} {Q : KD} {R} (hm : M a = some (.drw a0)) (nx : nn x) (ny : nn y) : F__law_grown_right [.tok a, .str k, .int x, .int y] M Q R ↔ Q (.bl true) M := by
  constructor
  · rintro ⟨_, _, _, _, _, h, _, _, _, q⟩
    cases h
    exact q
  · exact fun q => ⟨a, a0, k, x, y, rfl, hm, nx, ny, q⟩
theorem squares_i {M : Mp} {a a0 : Addr} {Q : KD} {R} (hm : M a = some (.drw a0)) : F__law_squares_right [.tok a] M Q R ↔ Q (.bl true) M := by
  constructor
  · rintro ⟨_, _, h, _, q⟩
    cases h
    exact q
  · exact fun q => ⟨a, a0, rfl, hm, q⟩
theorem len_i {M : Mp} {ds : List D} {Q : KD} : fLen [.lst ds] M Q ↔ Q (.int (ds.length : Int)) M := by
  constructor
  · rintro ⟨es, h, q⟩
    cases h
    exact q
  · exact fun q => ⟨ds, rfl, q⟩
theorem eqV_lst {M : Mp} {neg : Bool} {x y : List D} {Q : KD} : eqV neg (.lst x) (.lst y) M Q ↔ eqD2 neg (.lst x) (.lst y) M Q := Iff.rfl
theorem sq_most : sq "most" = false := by
  unfold sq
  decide +kernel
theorem sq_sum : sq "sum" = false := by
  unfold sq
  decide +kernel
theorem wp_law : ∀ ds M Q R, F_law ds M Q R → W_law { nx := fun _ M' => Q .non M', rt := Q, xr := R } (startE 7 ds) M := by
  rintro ds M Q R ⟨ns, rfl, hn, q⟩
  unfold W_law
  refine seq_gen fun K hK => ?_
  simp (disch := first | assumption | decide) only [wSeq, wNext, wAsg, wgName, wIfS, wB, wOp, wVar, wC, wCall, wCallK, wCons, wNil, wRet, wRetN, wDrop, wTup, wLst, wIf, wAnd, wOr, wNot, wAndV, wOrV, wNotV, wNeg, wChain, fI, fI0, addD, fLt, fLe, fGt, fGe, fIsB, wCB, fAbs, f2I, fInt, fIsq, wPar, wPar3, permD, startE, List.map_cons, List.map_nil, List.cons_append, List.nil_append, List.append_nil, List.length_cons, List.length_nil, List.replicate, List.getElem?_cons_zero, List.getElem?_cons_succ, List.set_cons_zero, List.set_cons_succ, List.getD_cons_zero, List.getD_cons_succ, Nat.reduceAdd, Nat.reduceSub, Nat.zero_add, true_and, and_true, Bool.not_true, Bool.not_false, if_true, if_false, Bool.false_eq_true, reduceIte, decide_eq_true_eq, Bool.not_eq_true', decide_eq_false_iff_not, eqV_int, eqV_str, eqV_bl, decide_true, reduceCtorEq, not_true_eq_false, not_false_eq_true, Bool.not_eq_true, List.forall_mem_cons, List.not_mem_nil, false_implies, implies_true, Int.reduceNeg, Int.reduceToNat, Int.reducePow, Int.reduceMul, Int.reduceAdd, repr_nb, repr_bl, root_i, gap_i, least_i, most_i, reaches_i, reach_i, lroot_i, draw_i, pick_i, number_i]
  refine ⟨ns, rfl, hn, fun M a a0 hm => ?_⟩
  subst hK
  refine seq_gen fun K hK => ?_
  refine for_gen fun B hB => ?_
  simp (disch := first | assumption | decide) only [wSeq, wNext, wAsg, wgName, wIfS, wB, wOp, wVar, wC, wCall, wCallK, wCons, wNil, wRet, wRetN, wDrop, wTup, wLst, wIf, wAnd, wOr, wNot, wAndV, wOrV, wNotV, wNeg, wChain, fI, fI0, addD, fLt, fLe, fGt, fGe, fIsB, wCB, fAbs, f2I, fInt, fIsq, wPar, wPar3, permD, startE, List.map_cons, List.map_nil, List.cons_append, List.nil_append, List.append_nil, List.length_cons, List.length_nil, List.replicate, List.getElem?_cons_zero, List.getElem?_cons_succ, List.set_cons_zero, List.set_cons_succ, List.getD_cons_zero, List.getD_cons_succ, Nat.reduceAdd, Nat.reduceSub, Nat.zero_add, true_and, and_true, Bool.not_true, Bool.not_false, if_true, if_false, Bool.false_eq_true, reduceIte, decide_eq_true_eq, Bool.not_eq_true', decide_eq_false_iff_not, eqV_int, eqV_str, eqV_bl, decide_true, reduceCtorEq, not_true_eq_false, not_false_eq_true, Bool.not_eq_true, List.forall_mem_cons, List.not_mem_nil, false_implies, implies_true, Int.reduceNeg, Int.reduceToNat, Int.reducePow, Int.reduceMul, Int.reduceAdd, repr_nb, repr_bl, root_i, gap_i, least_i, most_i, reaches_i, reach_i, lroot_i, draw_i, pick_i, number_i, wFor, wiRange1, len_i, List.length_map]
  obtain ⟨c, ec, c0, c1⟩ : ∃ c : Int, c = 2 + (if (ns.length : Int) > 2 then 1 else 0) ∧ 0 ≤ c ∧ c ≤ 3 := ⟨_, rfl, by split <;> omega, by split <;> omega⟩
  rw [← ec]
  refine ⟨by omega, by omega, ?_⟩
  refine loop_ix (fun i ρ' M' => M' = M ∧ ∃ v2 v4 v5 v6 : Option D, ρ' = [some (.lst (ns.map .int)), some (.tok a), v2, none, v4, v5, v6]) ?_ ?_ ⟨rfl, _, _, _, _, rfl⟩
  · rintro i d ρ' M' hi ⟨rfl, v2, v4, v5, v6, rfl⟩
    refine ⟨True.intro, fun K' hK' => ?_⟩
    obtain ⟨d', rfl⟩ : ∃ d', d = d' := ⟨_, rfl⟩
    simp only [wgName, List.set_cons_succ, List.set_cons_zero]
    subst hB
    refine seq_gen fun K2 hK2 => ?_
    refine for_gen fun B hB => ?_
    simp (disch := first | assumption | decide) only [wSeq, wNext, wAsg, wgName, wIfS, wB, wOp, wVar, wC, wCall, wCallK, wCons, wNil, wRet, wRetN, wDrop, wTup, wLst, wIf, wAnd, wOr, wNot, wAndV, wOrV, wNotV, wNeg, wChain, fI, fI0, addD, fLt, fLe, fGt, fGe, fIsB, wCB, fAbs, f2I, fInt, fIsq, wPar, wPar3, permD, startE, List.map_cons, List.map_nil, List.cons_append, List.nil_append, List.append_nil, List.length_cons, List.length_nil, List.replicate, List.getElem?_cons_zero, List.getElem?_cons_succ, List.set_cons_zero, List.set_cons_succ, List.getD_cons_zero, List.getD_cons_succ, Nat.reduceAdd, Nat.reduceSub, Nat.zero_add, true_and, and_true, Bool.not_true, Bool.not_false, if_true, if_false, Bool.false_eq_true, reduceIte, decide_eq_true_eq, Bool.not_eq_true', decide_eq_false_iff_not, eqV_int, eqV_str, eqV_bl, decide_true, reduceCtorEq, not_true_eq_false, not_false_eq_true, Bool.not_eq_true, List.forall_mem_cons, List.not_mem_nil, false_implies, implies_true, Int.reduceNeg, Int.reduceToNat, Int.reducePow, Int.reduceMul, Int.reduceAdd, repr_nb, repr_bl, root_i, gap_i, least_i, most_i, reaches_i, reach_i, lroot_i, draw_i, pick_i, number_i, wFor, wiSeq, c_KINDS]
    refine loop_ix (fun i ρ' M2 => M2 = M' ∧ ∃ v4 v5 v6 : Option D, ρ' = [some (.lst (ns.map .int)), some (.tok a), some d, none, v4, v5, v6]) ?_ ?_ ⟨rfl, _, _, _, rfl⟩
    · rintro i d2 ρ' M2 hi2 ⟨rfl, v4, v5, v6, rfl⟩
      refine ⟨True.intro, fun K3 hK3 => ?_⟩
      obtain ⟨k, rfl⟩ : ∃ k : Str, d2 = .str k := by
        have hm' := List.mem_of_getElem? hi2
        simp only [List.mem_cons, List.not_mem_nil, or_false] at hm'
        rcases hm' with rfl | rfl | rfl | rfl <;> exact ⟨_, rfl⟩
      simp only [wgName, List.set_cons_succ, List.set_cons_zero]
      subst hB
      refine seq_gen fun K4 hK4 => ?_
      simp (disch := first | assumption | decide) only [wSeq, wNext, wAsg, wgName, wIfS, wB, wOp, wVar, wC, wCall, wCallK, wCons, wNil, wRet, wRetN, wDrop, wTup, wLst, wIf, wAnd, wOr, wNot, wAndV, wOrV, wNotV, wNeg, wChain, fI, fI0, addD, fLt, fLe, fGt, fGe, fIsB, wCB, fAbs, f2I, fInt, fIsq, wPar, wPar3, permD, startE, List.map_cons, List.map_nil, List.cons_append, List.nil_append, List.append_nil, List.length_cons, List.length_nil, List.replicate, List.getElem?_cons_zero, List.getElem?_cons_succ, List.set_cons_zero, List.set_cons_succ, List.getD_cons_zero, List.getD_cons_succ, Nat.reduceAdd, Nat.reduceSub, Nat.zero_add, true_and, and_true, Bool.not_true, Bool.not_false, if_true, if_false, Bool.false_eq_true, reduceIte, decide_eq_true_eq, Bool.not_eq_true', decide_eq_false_iff_not, eqV_int, eqV_str, eqV_bl, decide_true, reduceCtorEq, not_true_eq_false, not_false_eq_true, Bool.not_eq_true, List.forall_mem_cons, List.not_mem_nil, false_implies, implies_true, Int.reduceNeg, Int.reduceToNat, Int.reducePow, Int.reduceMul, Int.reduceAdd, repr_nb, repr_bl, root_i, gap_i, least_i, most_i, reaches_i, reach_i, lroot_i, draw_i, pick_i, number_i]
      intro x nx y ny
      subst hK4
      refine seq_gen fun K4 hK4 => ?_
      simp (disch := first | assumption | decide) only [wSeq, wNext, wAsg, wgName, wIfS, wB, wOp, wVar, wC, wCall, wCallK, wCons, wNil, wRet, wRetN, wDrop, wTup, wLst, wIf, wAnd, wOr, wNot, wAndV, wOrV, wNotV, wNeg, wChain, fI, fI0, addD, fLt, fLe, fGt, fGe, fIsB, wCB, fAbs, f2I, fInt, fIsq, wPar, wPar3, permD, startE, List.map_cons, List.map_nil, List.cons_append, List.nil_append, List.append_nil, List.length_cons, List.length_nil, List.replicate, List.getElem?_cons_zero, List.getElem?_cons_succ, List.set_cons_zero, List.set_cons_succ, List.getD_cons_zero, List.getD_cons_succ, Nat.reduceAdd, Nat.reduceSub, Nat.zero_add, true_and, and_true, Bool.not_true, Bool.not_false, if_true, if_false, Bool.false_eq_true, reduceIte, decide_eq_true_eq, Bool.not_eq_true', decide_eq_false_iff_not, eqV_int, eqV_str, eqV_bl, decide_true, reduceCtorEq, not_true_eq_false, not_false_eq_true, Bool.not_eq_true, List.forall_mem_cons, List.not_mem_nil, false_implies, implies_true, Int.reduceNeg, Int.reduceToNat, Int.reducePow, Int.reduceMul, Int.reduceAdd, repr_nb, repr_bl, root_i, gap_i, least_i, most_i, reaches_i, reach_i, lroot_i, draw_i, pick_i, number_i]
      refine ⟨by decide, (pick_i hm (by simp) (by simp)).mpr fun v hv => ?_⟩
      obtain ⟨z, rfl, nz⟩ : ∃ z : Int, v = .int z ∧ nn z := by
        simp only [List.mem_cons, List.not_mem_nil, or_false] at hv
        rcases hv with rfl | rfl | rfl | rfl
        · exact ⟨_, rfl, ny⟩
        · exact ⟨_, rfl, ny⟩
        · exact ⟨_, rfl, ny⟩
        · exact ⟨_, rfl, nx⟩
      subst hK4
      simp (disch := first | assumption | decide) only [wSeq, wNext, wAsg, wgName, wIfS, wB, wOp, wVar, wC, wCall, wCallK, wCons, wNil, wRet, wRetN, wDrop, wTup, wLst, wIf, wAnd, wOr, wNot, wAndV, wOrV, wNotV, wNeg, wChain, fI, fI0, addD, fLt, fLe, fGt, fGe, fIsB, wCB, fAbs, f2I, fInt, fIsq, wPar, wPar3, permD, startE, List.map_cons, List.map_nil, List.cons_append, List.nil_append, List.append_nil, List.length_cons, List.length_nil, List.replicate, List.getElem?_cons_zero, List.getElem?_cons_succ, List.set_cons_zero, List.set_cons_succ, List.getD_cons_zero, List.getD_cons_succ, Nat.reduceAdd, Nat.reduceSub, Nat.zero_add, true_and, and_true, Bool.not_true, Bool.not_false, if_true, if_false, Bool.false_eq_true, reduceIte, decide_eq_true_eq, Bool.not_eq_true', decide_eq_false_iff_not, eqV_int, eqV_str, eqV_bl, decide_true, reduceCtorEq, not_true_eq_false, not_false_eq_true, Bool.not_eq_true, List.forall_mem_cons, List.not_mem_nil, false_implies, implies_true, Int.reduceNeg, Int.reduceToNat, Int.reducePow, Int.reduceMul, Int.reduceAdd, repr_nb, repr_bl, root_i, gap_i, least_i, most_i, reaches_i, reach_i, lroot_i, draw_i, pick_i, number_i, two_i, grown_i]
      exact hK3 _ _ ⟨rfl, _, _, _, rfl⟩
    · rintro ρ' M2 ⟨rfl, v4, v5, v6, rfl⟩
      refine ⟨True.intro, ?_⟩
      show K2 _ _
      subst hK2
      simp (disch := first | assumption | decide) only [wSeq, wNext, wAsg, wgName, wIfS, wB, wOp, wVar, wC, wCall, wCallK, wCons, wNil, wRet, wRetN, wDrop, wTup, wLst, wIf, wAnd, wOr, wNot, wAndV, wOrV, wNotV, wNeg, wChain, fI, fI0, addD, fLt, fLe, fGt, fGe, fIsB, wCB, fAbs, f2I, fInt, fIsq, wPar, wPar3, permD, startE, List.map_cons, List.map_nil, List.cons_append, List.nil_append, List.append_nil, List.length_cons, List.length_nil, List.replicate, List.getElem?_cons_zero, List.getElem?_cons_succ, List.set_cons_zero, List.set_cons_succ, List.getD_cons_zero, List.getD_cons_succ, Nat.reduceAdd, Nat.reduceSub, Nat.zero_add, true_and, and_true, Bool.not_true, Bool.not_false, if_true, if_false, Bool.false_eq_true, reduceIte, decide_eq_true_eq, Bool.not_eq_true', decide_eq_false_iff_not, eqV_int, eqV_str, eqV_bl, decide_true, reduceCtorEq, not_true_eq_false, not_false_eq_true, Bool.not_eq_true, List.forall_mem_cons, List.not_mem_nil, false_implies, implies_true, Int.reduceNeg, Int.reduceToNat, Int.reducePow, Int.reduceMul, Int.reduceAdd, repr_nb, repr_bl, root_i, gap_i, least_i, most_i, reaches_i, reach_i, lroot_i, draw_i, pick_i, number_i, squares_i]
      exact hK' _ _ ⟨rfl, _, _, _, _, rfl⟩
  · rintro ρ' M' ⟨rfl, v2, v4, v5, v6, rfl⟩
    refine ⟨True.intro, ?_⟩
    show K _ _
    subst hK
    have n1 : ∀ v : Int, 0 ≤ v → v ≤ 12800000000 → nb v := fun v h1 h2 => ⟨h1, by omega⟩
    have m9 := n1 9 (by decide) (by decide)
    have m25 := n1 25 (by decide) (by decide)
    have m2 := n1 2 (by decide) (by decide)
    have m3 := n1 3 (by decide) (by decide)
    have m49 := n1 49 (by decide) (by decide)
    have m10 := n1 10 (by decide) (by decide)
    have m8 := n1 8 (by decide) (by decide)
    have m50 := n1 50 (by decide) (by decide)
    have m18 := n1 18 (by decide) (by decide)
    have m51 := n1 51 (by decide) (by decide)
    have m5 := n1 5 (by decide) (by decide)
    have m6 := n1 6 (by decide) (by decide)
    have mf := n1 3200000000 (by decide) (by decide)
    have mf1 := n1 3199999999 (by decide) (by decide)
    have mf4 := n1 800000000 (by decide) (by decide)
    have g1 : gapI true 9 25 = 4 := by
      unfold gapI
      rw [if_pos rfl, rt_is (r := 30) (by decide) (by decide) (by decide)]
      decide
    have g2 : gapI true 2 3 = 1 := by
      unfold gapI
      rw [if_pos rfl, rt_is (r := 4) (by decide) (by decide) (by decide)]
      decide
    have g3 : leastI true 49 10 = 15 := by
      unfold leastI gapI
      rw [if_neg (by decide), if_pos rfl, rt_is (r := 44) (by decide) (by decide) (by decide)]
      decide
    have g4 : mostI true 2 8 = 18 := by
      unfold mostI
      rw [if_pos rfl, rt_is (r := 8) (by decide) (by decide) (by decide)]
      decide
    have g5 : gapI true 3200000000 3199999999 = 1 := by
      unfold gapI
      rw [if_pos rfl, rt_is (r := 6399999998) (by decide) (by decide) (by decide)]
      decide
    have g6 : mostI true 3200000000 3200000000 = 12800000000 := by
      unfold mostI
      rw [if_pos rfl, rt_is (r := 6400000000) (by decide) (by decide) (by decide)]
      decide
    have b1 : reachB true 50 18 8 = true := by decide
    have b2 : reachB true 51 18 8 = false := by decide
    have b3 : reachB false 5 3 2 = true := by decide
    have b4 : reachB false 6 3 2 = false := by decide
    have b5 : reachB true 3200000000 800000000 800000000 = true := by decide
    refine seq_gen fun K hK => ?_
    simp (disch := first | assumption | decide) only [wSeq, wNext, wAsg, wgName, wIfS, wB, wOp, wVar, wC, wCall, wCallK, wCons, wNil, wRet, wRetN, wDrop, wTup, wLst, wIf, wAnd, wOr, wNot, wAndV, wOrV, wNotV, wNeg, wChain, fI, fI0, addD, fLt, fLe, fGt, fGe, fIsB, wCB, fAbs, f2I, fInt, fIsq, wPar, wPar3, permD, startE, List.map_cons, List.map_nil, List.cons_append, List.nil_append, List.append_nil, List.length_cons, List.length_nil, List.replicate, List.getElem?_cons_zero, List.getElem?_cons_succ, List.set_cons_zero, List.set_cons_succ, List.getD_cons_zero, List.getD_cons_succ, Nat.reduceAdd, Nat.reduceSub, Nat.zero_add, true_and, and_true, Bool.not_true, Bool.not_false, if_true, if_false, Bool.false_eq_true, reduceIte, decide_eq_true_eq, Bool.not_eq_true', decide_eq_false_iff_not, eqV_int, eqV_str, eqV_bl, decide_true, reduceCtorEq, not_true_eq_false, not_false_eq_true, Bool.not_eq_true, List.forall_mem_cons, List.not_mem_nil, false_implies, implies_true, Int.reduceNeg, Int.reduceToNat, Int.reducePow, Int.reduceMul, Int.reduceAdd, repr_nb, repr_bl, root_i, gap_i, least_i, most_i, reaches_i, reach_i, lroot_i, draw_i, pick_i, number_i, sq_sq, g1, g2, g3, g4, eqV_lst, eqD2, res]
    refine ⟨by decide, by decide, ⟨3, by decide, by simp [fit], by simp [fit]⟩, ?_⟩
    rw [if_neg (by decide)]
    subst hK
    refine seq_gen fun K hK => ?_
    simp (disch := first | assumption | decide) only [wSeq, wNext, wAsg, wgName, wIfS, wB, wOp, wVar, wC, wCall, wCallK, wCons, wNil, wRet, wRetN, wDrop, wTup, wLst, wIf, wAnd, wOr, wNot, wAndV, wOrV, wNotV, wNeg, wChain, fI, fI0, addD, fLt, fLe, fGt, fGe, fIsB, wCB, fAbs, f2I, fInt, fIsq, wPar, wPar3, permD, startE, List.map_cons, List.map_nil, List.cons_append, List.nil_append, List.append_nil, List.length_cons, List.length_nil, List.replicate, List.getElem?_cons_zero, List.getElem?_cons_succ, List.set_cons_zero, List.set_cons_succ, List.getD_cons_zero, List.getD_cons_succ, Nat.reduceAdd, Nat.reduceSub, Nat.zero_add, true_and, and_true, Bool.not_true, Bool.not_false, if_true, if_false, Bool.false_eq_true, reduceIte, decide_eq_true_eq, Bool.not_eq_true', decide_eq_false_iff_not, eqV_int, eqV_str, eqV_bl, decide_true, reduceCtorEq, not_true_eq_false, not_false_eq_true, Bool.not_eq_true, List.forall_mem_cons, List.not_mem_nil, false_implies, implies_true, Int.reduceNeg, Int.reduceToNat, Int.reducePow, Int.reduceMul, Int.reduceAdd, repr_nb, repr_bl, root_i, gap_i, least_i, most_i, reaches_i, reach_i, lroot_i, draw_i, pick_i, number_i, sq_sq, sq_most, sq_sum, b1, b2, b3, b4, eqV_lst, eqD2, res]
    refine ⟨by decide, by decide, ⟨3, by decide, by simp [fit], by simp [fit]⟩, ?_⟩
    rw [if_neg (by decide)]
    subst hK
    refine seq_gen fun K hK => ?_
    simp (disch := first | assumption | decide) only [wSeq, wNext, wAsg, wgName, wIfS, wB, wOp, wVar, wC, wCall, wCallK, wCons, wNil, wRet, wRetN, wDrop, wTup, wLst, wIf, wAnd, wOr, wNot, wAndV, wOrV, wNotV, wNeg, wChain, fI, fI0, addD, fLt, fLe, fGt, fGe, fIsB, wCB, fAbs, f2I, fInt, fIsq, wPar, wPar3, permD, startE, List.map_cons, List.map_nil, List.cons_append, List.nil_append, List.append_nil, List.length_cons, List.length_nil, List.replicate, List.getElem?_cons_zero, List.getElem?_cons_succ, List.set_cons_zero, List.set_cons_succ, List.getD_cons_zero, List.getD_cons_succ, Nat.reduceAdd, Nat.reduceSub, Nat.zero_add, true_and, and_true, Bool.not_true, Bool.not_false, if_true, if_false, Bool.false_eq_true, reduceIte, decide_eq_true_eq, Bool.not_eq_true', decide_eq_false_iff_not, eqV_int, eqV_str, eqV_bl, decide_true, reduceCtorEq, not_true_eq_false, not_false_eq_true, Bool.not_eq_true, List.forall_mem_cons, List.not_mem_nil, false_implies, implies_true, Int.reduceNeg, Int.reduceToNat, Int.reducePow, Int.reduceMul, Int.reduceAdd, repr_nb, repr_bl, root_i, gap_i, least_i, most_i, reaches_i, reach_i, lroot_i, draw_i, pick_i, number_i]
    refine ⟨⟨by decide, by decide, by decide⟩, cm_of (by decide) (by decide), ?_⟩
    subst hK
    simp (disch := first | assumption | decide) only [wSeq, wNext, wAsg, wgName, wIfS, wB, wOp, wVar, wC, wCall, wCallK, wCons, wNil, wRet, wRetN, wDrop, wTup, wLst, wIf, wAnd, wOr, wNot, wAndV, wOrV, wNotV, wNeg, wChain, fI, fI0, addD, fLt, fLe, fGt, fGe, fIsB, wCB, fAbs, f2I, fInt, fIsq, wPar, wPar3, permD, startE, List.map_cons, List.map_nil, List.cons_append, List.nil_append, List.append_nil, List.length_cons, List.length_nil, List.replicate, List.getElem?_cons_zero, List.getElem?_cons_succ, List.set_cons_zero, List.set_cons_succ, List.getD_cons_zero, List.getD_cons_succ, Nat.reduceAdd, Nat.reduceSub, Nat.zero_add, true_and, and_true, Bool.not_true, Bool.not_false, if_true, if_false, Bool.false_eq_true, reduceIte, decide_eq_true_eq, Bool.not_eq_true', decide_eq_false_iff_not, eqV_int, eqV_str, eqV_bl, decide_true, reduceCtorEq, not_true_eq_false, not_false_eq_true, Bool.not_eq_true, List.forall_mem_cons, List.not_mem_nil, false_implies, implies_true, Int.reduceNeg, Int.reduceToNat, Int.reducePow, Int.reduceMul, Int.reduceAdd, repr_nb, repr_bl, root_i, gap_i, least_i, most_i, reaches_i, reach_i, lroot_i, draw_i, pick_i, number_i, Int.reduceSub, Int.reduceDiv, sq_sq, g5, g6, b5]
    exact ⟨cm_of (by decide) (by decide), ⟨by decide, by decide⟩, ⟨by decide, by decide⟩, q _⟩
end K04
namespace K04
open PySem L2 L3
theorem len_root_of_both : ∀ ds M Q E, F_root_of_both ds M Q E → ds.length = 2 := by
  rintro ds M Q E ⟨_, _, rfl, _⟩
  rfl
theorem len_gap_of : ∀ ds M Q E, F_gap_of ds M Q E → ds.length = 3 := by
  rintro ds M Q E ⟨_, _, _, rfl, _⟩
  rfl
theorem len_least_beyond : ∀ ds M Q E, F_least_beyond ds M Q E → ds.length = 3 := by
  rintro ds M Q E ⟨_, _, _, rfl, _⟩
  rfl
theorem len_most_beyond : ∀ ds M Q E, F_most_beyond ds M Q E → ds.length = 3 := by
  rintro ds M Q E ⟨_, _, _, rfl, _⟩
  rfl
theorem len_reaches : ∀ ds M Q E, F_reaches ds M Q E → ds.length = 4 := by
  rintro ds M Q E ⟨_, _, _, _, rfl, _⟩
  rfl
theorem len__law_heap : ∀ ds M Q E, F__law_heap ds M Q E → ds.length = 1 := by
  rintro ds M Q E ⟨_, rfl, _⟩
  rfl
theorem len__law_pick : ∀ ds M Q E, pickF ds M Q E → ds.length = 2 := by
  rintro ds M Q E ⟨_, _, _, _, rfl, _⟩
  rfl
theorem len__law_root : ∀ ds M Q E, F__law_root ds M Q E → ds.length = 1 := by
  rintro ds M Q E ⟨_, rfl, _⟩
  rfl
theorem len__law_reach : ∀ ds M Q E, F__law_reach ds M Q E → ds.length = 4 := by
  rintro ds M Q E ⟨_, _, _, _, rfl, _⟩
  rfl
theorem len__law_number : ∀ ds M Q E, F__law_number ds M Q E → ds.length = 1 := by
  rintro ds M Q E ⟨_, _, rfl, _⟩
  rfl
theorem len__law_two_right : ∀ ds M Q E, F__law_two_right ds M Q E → ds.length = 4 := by
  rintro ds M Q E ⟨_, _, _, _, _, rfl, _⟩
  rfl
theorem len__law_grown_right : ∀ ds M Q E, F__law_grown_right ds M Q E → ds.length = 4 := by
  rintro ds M Q E ⟨_, _, _, _, _, rfl, _⟩
  rfl
theorem len__law_squares_right : ∀ ds M Q E, F__law_squares_right ds M Q E → ds.length = 1 := by
  rintro ds M Q E ⟨_, _, rfl, _⟩
  rfl
theorem len_law : ∀ ds M Q E, F_law ds M Q E → ds.length = 1 := by
  rintro ds M Q E ⟨_, rfl, _⟩
  rfl
/-! ### all together -/
theorem all_mk {l : PySem.W.OpenLaw} (hl : l.prog = PySem.Challenge.pw_nonearer_k04_whole_what_lies_beyond) {w : World} {K : PySem.W.Frag} {h : Heap} {mg : Str → Option Value} {fa : Addr} (X : K.In h) (G : h.Ns mainGlobals mg) (hfa : mg "law" = some (.ref fa))
    {f0 : Addr} {od0 an0 : Option Addr} {sl0 : Array (Option Value)} {oc0 kV0 dc0 pm0 cd0 ct0 : Value}
    {f1 : Addr} {od1 an1 : Option Addr} {sl1 : Array (Option Value)} {oc1 kV1 dc1 pm1 cd1 ct1 : Value}
    {f2 : Addr} {od2 an2 : Option Addr} {sl2 : Array (Option Value)} {oc2 kV2 dc2 pm2 cd2 ct2 : Value}
    {f3 : Addr} {od3 an3 : Option Addr} {sl3 : Array (Option Value)} {oc3 kV3 dc3 pm3 cd3 ct3 : Value}
    {f4 : Addr} {od4 an4 : Option Addr} {sl4 : Array (Option Value)} {oc4 kV4 dc4 pm4 cd4 ct4 : Value}
    {f5 : Addr} {od5 an5 : Option Addr} {sl5 : Array (Option Value)} {oc5 kV5 dc5 pm5 cd5 ct5 : Value}
    {f6 : Addr} {od6 an6 : Option Addr} {sl6 : Array (Option Value)} {oc6 kV6 dc6 pm6 cd6 ct6 : Value}
    {f7 : Addr} {od7 an7 : Option Addr} {sl7 : Array (Option Value)} {oc7 kV7 dc7 pm7 cd7 ct7 : Value}
    {f8 : Addr} {od8 an8 : Option Addr} {sl8 : Array (Option Value)} {oc8 kV8 dc8 pm8 cd8 ct8 : Value}
    {f9 : Addr} {od9 an9 : Option Addr} {sl9 : Array (Option Value)} {oc9 kV9 dc9 pm9 cd9 ct9 : Value}
    {f10 : Addr} {od10 an10 : Option Addr} {sl10 : Array (Option Value)} {oc10 kV10 dc10 pm10 cd10 ct10 : Value}
    {f11 : Addr} {od11 an11 : Option Addr} {sl11 : Array (Option Value)} {oc11 kV11 dc11 pm11 cd11 ct11 : Value}
    {f12 : Addr} {od12 an12 : Option Addr} {sl12 : Array (Option Value)} {oc12 kV12 dc12 pm12 cd12 ct12 : Value}
    {f13 : Addr} {od13 an13 : Option Addr} {sl13 : Array (Option Value)} {oc13 kV13 dc13 pm13 cd13 ct13 : Value}
    {f14 : Addr} {od14 an14 : Option Addr} {sl14 : Array (Option Value)} {oc14 kV14 dc14 pm14 cd14 ct14 : Value}
    {aKINDS : Addr} {odKINDS : Option Addr} {nKINDS : Nat} {slKINDS : Array (Option Value)} {tKINDS0 tKINDS1 tKINDS2 tKINDS3 : Tok}
    (a0 : PySem.W.nsIn K mainGlobals "root_of_both" = some (some (.ref f0))) (l0 : K.lookup f0 = some ⟨oc0, od0, .func (PySem.W.fnOf "root_of_both" "root_of_both" (defArgs s_root_of_both) (defBody s_root_of_both) (defScope s_root_of_both) .none kV0 dc0 pm0 an0 cd0 ct0), sl0⟩) (c0 : PySem.W.codeIn K cd0 "root_of_both" = true) (k0 : PySem.W.keepIn K (.ref f0) = true)
    (a1 : PySem.W.nsIn K mainGlobals "gap_of" = some (some (.ref f1))) (l1 : K.lookup f1 = some ⟨oc1, od1, .func (PySem.W.fnOf "gap_of" "gap_of" (defArgs s_gap_of) (defBody s_gap_of) (defScope s_gap_of) .none kV1 dc1 pm1 an1 cd1 ct1), sl1⟩) (c1 : PySem.W.codeIn K cd1 "gap_of" = true) (k1 : PySem.W.keepIn K (.ref f1) = true)
    (a2 : PySem.W.nsIn K mainGlobals "least_beyond" = some (some (.ref f2))) (l2 : K.lookup f2 = some ⟨oc2, od2, .func (PySem.W.fnOf "least_beyond" "least_beyond" (defArgs s_least_beyond) (defBody s_least_beyond) (defScope s_least_beyond) .none kV2 dc2 pm2 an2 cd2 ct2), sl2⟩) (c2 : PySem.W.codeIn K cd2 "least_beyond" = true) (k2 : PySem.W.keepIn K (.ref f2) = true)
    (a3 : PySem.W.nsIn K mainGlobals "most_beyond" = some (some (.ref f3))) (l3 : K.lookup f3 = some ⟨oc3, od3, .func (PySem.W.fnOf "most_beyond" "most_beyond" (defArgs s_most_beyond) (defBody s_most_beyond) (defScope s_most_beyond) .none kV3 dc3 pm3 an3 cd3 ct3), sl3⟩) (c3 : PySem.W.codeIn K cd3 "most_beyond" = true) (k3 : PySem.W.keepIn K (.ref f3) = true)
    (a4 : PySem.W.nsIn K mainGlobals "reaches" = some (some (.ref f4))) (l4 : K.lookup f4 = some ⟨oc4, od4, .func (PySem.W.fnOf "reaches" "reaches" (defArgs s_reaches) (defBody s_reaches) (defScope s_reaches) .none kV4 dc4 pm4 an4 cd4 ct4), sl4⟩) (c4 : PySem.W.codeIn K cd4 "reaches" = true) (k4 : PySem.W.keepIn K (.ref f4) = true)
    (a5 : PySem.W.nsIn K mainGlobals "_law_heap" = some (some (.ref f5))) (l5 : K.lookup f5 = some ⟨oc5, od5, .func (PySem.W.fnOf "_law_heap" "_law_heap" (defArgs s__law_heap) (defBody s__law_heap) (defScope s__law_heap) .none kV5 dc5 pm5 an5 cd5 ct5), sl5⟩) (c5 : PySem.W.codeIn K cd5 "_law_heap" = true) (k5 : PySem.W.keepIn K (.ref f5) = true)
    (a6 : PySem.W.nsIn K mainGlobals "_law_draw" = some (some (.ref f6))) (l6 : K.lookup f6 = some ⟨oc6, od6, .func (PySem.W.fnOf "_law_draw" "_law_draw" (defArgs s__law_draw) (defBody s__law_draw) (defScope s__law_draw) .none kV6 dc6 pm6 an6 cd6 ct6), sl6⟩) (c6 : PySem.W.codeIn K cd6 "_law_draw" = true) (k6 : PySem.W.keepIn K (.ref f6) = true)
    (a7 : PySem.W.nsIn K mainGlobals "_law_pick" = some (some (.ref f7))) (l7 : K.lookup f7 = some ⟨oc7, od7, .func (PySem.W.fnOf "_law_pick" "_law_pick" (defArgs s__law_pick) (defBody s__law_pick) (defScope s__law_pick) .none kV7 dc7 pm7 an7 cd7 ct7), sl7⟩) (c7 : PySem.W.codeIn K cd7 "_law_pick" = true) (k7 : PySem.W.keepIn K (.ref f7) = true)
    (a8 : PySem.W.nsIn K mainGlobals "_law_root" = some (some (.ref f8))) (l8 : K.lookup f8 = some ⟨oc8, od8, .func (PySem.W.fnOf "_law_root" "_law_root" (defArgs s__law_root) (defBody s__law_root) (defScope s__law_root) .none kV8 dc8 pm8 an8 cd8 ct8), sl8⟩) (c8 : PySem.W.codeIn K cd8 "_law_root" = true) (k8 : PySem.W.keepIn K (.ref f8) = true)
    (a9 : PySem.W.nsIn K mainGlobals "_law_reach" = some (some (.ref f9))) (l9 : K.lookup f9 = some ⟨oc9, od9, .func (PySem.W.fnOf "_law_reach" "_law_reach" (defArgs s__law_reach) (defBody s__law_reach) (defScope s__law_reach) .none kV9 dc9 pm9 an9 cd9 ct9), sl9⟩) (c9 : PySem.W.codeIn K cd9 "_law_reach" = true) (k9 : PySem.W.keepIn K (.ref f9) = true)
    (a10 : PySem.W.nsIn K mainGlobals "_law_number" = some (some (.ref f10))) (l10 : K.lookup f10 = some ⟨oc10, od10, .func (PySem.W.fnOf "_law_number" "_law_number" (defArgs s__law_number) (defBody s__law_number) (defScope s__law_number) .none kV10 dc10 pm10 an10 cd10 ct10), sl10⟩) (c10 : PySem.W.codeIn K cd10 "_law_number" = true) (k10 : PySem.W.keepIn K (.ref f10) = true)
    (a11 : PySem.W.nsIn K mainGlobals "_law_two_right" = some (some (.ref f11))) (l11 : K.lookup f11 = some ⟨oc11, od11, .func (PySem.W.fnOf "_law_two_right" "_law_two_right" (defArgs s__law_two_right) (defBody s__law_two_right) (defScope s__law_two_right) .none kV11 dc11 pm11 an11 cd11 ct11), sl11⟩) (c11 : PySem.W.codeIn K cd11 "_law_two_right" = true) (k11 : PySem.W.keepIn K (.ref f11) = true)
    (a12 : PySem.W.nsIn K mainGlobals "_law_grown_right" = some (some (.ref f12))) (l12 : K.lookup f12 = some ⟨oc12, od12, .func (PySem.W.fnOf "_law_grown_right" "_law_grown_right" (defArgs s__law_grown_right) (defBody s__law_grown_right) (defScope s__law_grown_right) .none kV12 dc12 pm12 an12 cd12 ct12), sl12⟩) (c12 : PySem.W.codeIn K cd12 "_law_grown_right" = true) (k12 : PySem.W.keepIn K (.ref f12) = true)
    (a13 : PySem.W.nsIn K mainGlobals "_law_squares_right" = some (some (.ref f13))) (l13 : K.lookup f13 = some ⟨oc13, od13, .func (PySem.W.fnOf "_law_squares_right" "_law_squares_right" (defArgs s__law_squares_right) (defBody s__law_squares_right) (defScope s__law_squares_right) .none kV13 dc13 pm13 an13 cd13 ct13), sl13⟩) (c13 : PySem.W.codeIn K cd13 "_law_squares_right" = true) (k13 : PySem.W.keepIn K (.ref f13) = true)
    (a14 : PySem.W.nsIn K mainGlobals "law" = some (some (.ref f14))) (l14 : K.lookup f14 = some ⟨oc14, od14, .func (PySem.W.fnOf "law" "law" (defArgs s_law) (defBody s_law) (defScope s_law) .none kV14 dc14 pm14 an14 cd14 ct14), sl14⟩) (c14 : PySem.W.codeIn K cd14 "law" = true) (k14 : PySem.W.keepIn K (.ref f14) = true)
    (z_abs : PySem.W.nsIn K mainGlobals "abs" = some none)
    (z_int : PySem.W.nsIn K mainGlobals "int" = some none)
    (m_isqrt : PySem.W.nsIn K mainGlobals "isqrt" = some (some (.builtin "math.isqrt")))
    (z_len : PySem.W.nsIn K mainGlobals "len" = some none)
    (z_max : PySem.W.nsIn K mainGlobals "max" = some none)
    (z_min : PySem.W.nsIn K mainGlobals "min" = some none)
    (z_range : PySem.W.nsIn K mainGlobals "range" = some none)
    (z_repr : PySem.W.nsIn K mainGlobals "repr" = some none)
    (g_KINDS : PySem.W.nsIn K mainGlobals "KINDS" = some (some (.ref aKINDS))) (lk_KINDS : K.lookup aKINDS = some ⟨.type "tuple", odKINDS, .seq #[.str "square" tKINDS0, .str "sum" tKINDS1, .str "most" tKINDS2, .str "unlike" tKINDS3] nKINDS, slKINDS⟩)
    :
    ∃ fd : FuncData, (∀ (s : Shared) (v : Value), BindsTo s fd ⟨[v], []⟩ [("script", v)]) ∧ ∀ base : Heap, K.In base → base.Ns mainGlobals mg → FnG l.prog w K mg base 5 fa fd ["script"] (lift K F_law) := by
  have e := hfa.symm.trans (PySem.W.mg_of X G a14)
  cases e
  have T : Txt K mg aKINDS := ⟨PySem.W.mg_none_of X G z_abs, PySem.W.mg_none_of X G z_int, PySem.W.mg_of X G m_isqrt, PySem.W.mg_none_of X G z_len, PySem.W.mg_none_of X G z_max, PySem.W.mg_none_of X G z_min, PySem.W.mg_none_of X G z_range, PySem.W.mg_none_of X G z_repr, PySem.W.mg_of X G g_KINDS, fun H => .tup (vs := [.str "square", .str "sum", .str "most", .str "unlike"]) (.inr ⟨_, _, _, lk_KINDS, rfl, rfl, (by show 4 ≤ sizeLine; decide), (.cons ⟨_, rfl⟩ (.cons ⟨_, rfl⟩ (.cons ⟨_, rfl⟩ (.cons ⟨_, rfl⟩ (.nil)))))⟩) (.cons (.str _) (.cons (.str _) (.cons (.str _) (.cons (.str _) (.nil)))))⟩
  refine ⟨PySem.W.fnOf "law" "law" (defArgs s_law) (defBody s_law) (defScope s_law) .none kV14 dc14 pm14 an14 cd14 ct14, fun s v => .of_eq rfl, fun base KB NB => ?_⟩
  have h_root_of_both : Has l.prog w K mg base 1 "root_of_both" s_root_of_both ["one", "other"] F_root_of_both := Has.mk' (fun_mk (st := s_root_of_both) l0 c0 k0) (PySem.W.mg_of X G a0) (ok_root_of_both (P := l.prog) (w := w) (base := base) (fun_mk (st := s_root_of_both) l0 c0 k0) T len_root_of_both wp_root_of_both) fun _ _ _ _ _ _ us hl => match us, hl with | [_, _], _ => rfl
  have h_reaches : Has l.prog w K mg base 1 "reaches" s_reaches ["kind", "from_centre", "radius", "reach"] F_reaches := Has.mk' (fun_mk (st := s_reaches) l4 c4 k4) (PySem.W.mg_of X G a4) (ok_reaches (P := l.prog) (w := w) (base := base) (fun_mk (st := s_reaches) l4 c4 k4) T len_reaches wp_reaches) fun _ _ _ _ _ _ us hl => match us, hl with | [_, _, _, _], _ => rfl
  have h__law_heap : Has l.prog w K mg base 1 "_law_heap" s__law_heap ["script"] F__law_heap := Has.mk' (fun_mk (st := s__law_heap) l5 c5 k5) (PySem.W.mg_of X G a5) (ok__law_heap (P := l.prog) (w := w) (base := base) (fun_mk (st := s__law_heap) l5 c5 k5) T len__law_heap wp__law_heap) fun _ _ _ _ _ _ us hl => match us, hl with | [_], _ => rfl
  have h__law_draw : Has l.prog w K mg base 1 "_law_draw" s__law_draw ["heap", "many"] F__law_draw := Has.mk' (fun_mk (st := s__law_draw) l6 c6 k6) (PySem.W.mg_of X G a6) (ok__law_draw (P := l.prog) (w := w) (base := base) (fun_mk (st := s__law_draw) l6 c6 k6) T) fun _ _ _ _ _ _ us hl => match us, hl with | [_, _], _ => rfl
  have h__law_root : Has l.prog w K mg base 1 "_law_root" s__law_root ["number"] F__law_root := Has.mk' (fun_mk (st := s__law_root) l8 c8 k8) (PySem.W.mg_of X G a8) (ok__law_root (P := l.prog) (w := w) (base := base) (fun_mk (st := s__law_root) l8 c8 k8) T len__law_root wp__law_root) fun _ _ _ _ _ _ us hl => match us, hl with | [_], _ => rfl
  have h__law_reach : Has l.prog w K mg base 1 "_law_reach" s__law_reach ["kind", "far", "radius", "reach"] F__law_reach := Has.mk' (fun_mk (st := s__law_reach) l9 c9 k9) (PySem.W.mg_of X G a9) (ok__law_reach (P := l.prog) (w := w) (base := base) (fun_mk (st := s__law_reach) l9 c9 k9) T len__law_reach wp__law_reach) fun _ _ _ _ _ _ us hl => match us, hl with | [_, _, _, _], _ => rfl
  have h_gap_of : Has l.prog w K mg base 2 "gap_of" s_gap_of ["kind", "one", "other"] F_gap_of := Has.mk' (fun_mk (st := s_gap_of) l1 c1 k1) (PySem.W.mg_of X G a1) (ok_gap_of (P := l.prog) (w := w) (base := base) (fun_mk (st := s_gap_of) l1 c1 k1) T h_root_of_both len_gap_of wp_gap_of) fun _ _ _ _ _ _ us hl => match us, hl with | [_, _, _], _ => rfl
  have h_most_beyond : Has l.prog w K mg base 2 "most_beyond" s_most_beyond ["kind", "from_centre", "radius"] F_most_beyond := Has.mk' (fun_mk (st := s_most_beyond) l3 c3 k3) (PySem.W.mg_of X G a3) (ok_most_beyond (P := l.prog) (w := w) (base := base) (fun_mk (st := s_most_beyond) l3 c3 k3) T h_root_of_both len_most_beyond wp_most_beyond) fun _ _ _ _ _ _ us hl => match us, hl with | [_, _, _], _ => rfl
  have h__law_pick : Has l.prog w K mg base 2 "_law_pick" s__law_pick ["heap", "some"] F__law_pick := Has.mk' (fun_mk (st := s__law_pick) l7 c7 k7) (PySem.W.mg_of X G a7) (ok__law_pick (P := l.prog) (w := w) (base := base) (fun_mk (st := s__law_pick) l7 c7 k7) T h__law_draw len__law_pick wp__law_pick) fun _ _ _ _ _ _ us hl => match us, hl with | [_, _], _ => rfl
  have h_least_beyond : Has l.prog w K mg base 3 "least_beyond" s_least_beyond ["kind", "from_centre", "radius"] F_least_beyond := Has.mk' (fun_mk (st := s_least_beyond) l2 c2 k2) (PySem.W.mg_of X G a2) (ok_least_beyond (P := l.prog) (w := w) (base := base) (fun_mk (st := s_least_beyond) l2 c2 k2) T h_gap_of len_least_beyond wp_least_beyond) fun _ _ _ _ _ _ us hl => match us, hl with | [_, _, _], _ => rfl
  have h__law_number : Has l.prog w K mg base 3 "_law_number" s__law_number ["heap"] F__law_number := Has.mk' (fun_mk (st := s__law_number) l10 c10 k10) (PySem.W.mg_of X G a10) (ok__law_number (P := l.prog) (w := w) (base := base) (fun_mk (st := s__law_number) l10 c10 k10) T h__law_draw h__law_pick len__law_number wp__law_number) fun _ _ _ _ _ _ us hl => match us, hl with | [_], _ => rfl
  have h__law_squares_right : Has l.prog w K mg base 3 "_law_squares_right" s__law_squares_right ["heap"] F__law_squares_right := Has.mk' (fun_mk (st := s__law_squares_right) l13 c13 k13) (PySem.W.mg_of X G a13) (ok__law_squares_right (P := l.prog) (w := w) (base := base) (fun_mk (st := s__law_squares_right) l13 c13 k13) T h_gap_of h_most_beyond h_reaches h__law_draw len__law_squares_right wp__law_squares_right) fun _ _ _ _ _ _ us hl => match us, hl with | [_], _ => rfl
  have h__law_two_right : Has l.prog w K mg base 4 "_law_two_right" s__law_two_right ["heap", "kind", "one", "other"] F__law_two_right := Has.mk' (fun_mk (st := s__law_two_right) l11 c11 k11) (PySem.W.mg_of X G a11) (ok__law_two_right (P := l.prog) (w := w) (base := base) (fun_mk (st := s__law_two_right) l11 c11 k11) T h_gap_of h_least_beyond h_most_beyond h_reaches h__law_root h__law_reach h__law_number len__law_two_right wp__law_two_right) fun _ _ _ _ _ _ us hl => match us, hl with | [_, _, _, _], _ => rfl
  have h__law_grown_right : Has l.prog w K mg base 4 "_law_grown_right" s__law_grown_right ["heap", "kind", "one", "other"] F__law_grown_right := Has.mk' (fun_mk (st := s__law_grown_right) l12 c12 k12) (PySem.W.mg_of X G a12) (ok__law_grown_right (P := l.prog) (w := w) (base := base) (fun_mk (st := s__law_grown_right) l12 c12 k12) T h_least_beyond h_most_beyond h__law_draw len__law_grown_right wp__law_grown_right) fun _ _ _ _ _ _ us hl => match us, hl with | [_, _, _, _], _ => rfl
  exact ok_law (P := l.prog) (w := w) (base := base) (fun_mk (st := s_law) l14 c14 k14) T h_gap_of h_least_beyond h_most_beyond h_reaches h__law_heap h__law_pick h__law_number h__law_two_right h__law_grown_right h__law_squares_right len_law wp_law
theorem at_end {K : PySem.W.Frag} {H : Hp} {a : Addr} {ns : List Int} (hl : ns.length ≤ 63) (hS : SqL K H a (ns.map V.int)) : lift K F_law [.ref a] H (fun v _ => v = .bl true) fun _ _ _ => False := by
  have fe : fz (fun _ => none) H (fun _ => none) = H := by
    funext b
    exact fz_none rfl rfl
  refine ⟨fun _ => none, [.lst (ns.map .int)], fun _ => none, fun d _ => d = .bl true, fun _ _ _ => False, ⟨(fun _ _ e => nomatch e), (fun _ _ e => nomatch e)⟩, ?_, ⟨ns, rfl, hl, fun _ => rfl⟩, fun v d H' M' _ r e => ?_, fun _ _ _ _ _ _ _ _ _ z => z⟩
  · rw [fe]
    exact .cons (.lst hS (.ofInts ns)) .nil
  · subst e
    cases r
    rfl
end K04
open PySem PySem.W PyProof.Rows in
set_option maxRecDepth 100000 in
set_option maxHeartbeats 0 in
theorem PySem.Challenge.cw_nonearer_k04_whole_what_lies_beyond_holds : PySem.Challenge.rw_nonearer_k04_whole_what_lies_beyond.Holds := by
  w_on; o_law; k_head; (case hw => w_witness2)
  k_fill
  refine L3.walk_g (l := PySem.Challenge.rw_nonearer_k04_whole_what_lies_beyond) (n := 63) (k := 5) (x := "script") (sp := fun w => L3.lift _ K04.F_law) rfl (by decide) rfl ⟨rfl, by decide, by decide⟩ (fun w h Y => PySem.W.kIn_of Y) ?F (fun w H a ns hl hS => K04.at_end hl hS)
  case F =>
    intro w mg fa h KX G hmg
    refine' K04.all_mk rfl KX G hmg ?a0 ?l0 ?c0 ?k0 ?a1 ?l1 ?c1 ?k1 ?a2 ?l2 ?c2 ?k2 ?a3 ?l3 ?c3 ?k3 ?a4 ?l4 ?c4 ?k4 ?a5 ?l5 ?c5 ?k5 ?a6 ?l6 ?c6 ?k6 ?a7 ?l7 ?c7 ?k7 ?a8 ?l8 ?c8 ?k8 ?a9 ?l9 ?c9 ?k9 ?a10 ?l10 ?c10 ?k10 ?a11 ?l11 ?c11 ?k11 ?a12 ?l12 ?c12 ?k12 ?a13 ?l13 ?c13 ?k13 ?a14 ?l14 ?c14 ?k14 ?z_abs ?z_int ?m_isqrt ?z_len ?z_max ?z_min ?z_range ?z_repr ?g_KINDS ?lk_KINDS
    (case a0 => k_is)
    (case l0 => k_is)
    (case c0 => k_is)
    (case k0 => k_is)
    (case a1 => k_is)
    (case l1 => k_is)
    (case c1 => k_is)
    (case k1 => k_is)
    (case a2 => k_is)
    (case l2 => k_is)
    (case c2 => k_is)
    (case k2 => k_is)
    (case a3 => k_is)
    (case l3 => k_is)
    (case c3 => k_is)
    (case k3 => k_is)
    (case a4 => k_is)
    (case l4 => k_is)
    (case c4 => k_is)
    (case k4 => k_is)
    (case a5 => k_is)
    (case l5 => k_is)
    (case c5 => k_is)
    (case k5 => k_is)
    (case a6 => k_is)
    (case l6 => k_is)
    (case c6 => k_is)
    (case k6 => k_is)
    (case a7 => k_is)
    (case l7 => k_is)
    (case c7 => k_is)
    (case k7 => k_is)
    (case a8 => k_is)
    (case l8 => k_is)
    (case c8 => k_is)
    (case k8 => k_is)
    (case a9 => k_is)
    (case l9 => k_is)
    (case c9 => k_is)
    (case k9 => k_is)
    (case a10 => k_is)
    (case l10 => k_is)
    (case c10 => k_is)
    (case k10 => k_is)
    (case a11 => k_is)
    (case l11 => k_is)
    (case c11 => k_is)
    (case k11 => k_is)
    (case a12 => k_is)
    (case l12 => k_is)
    (case c12 => k_is)
    (case k12 => k_is)
    (case a13 => k_is)
    (case l13 => k_is)
    (case c13 => k_is)
    (case k13 => k_is)
    (case a14 => k_is)
    (case l14 => k_is)
    (case c14 => k_is)
    (case k14 => k_is)
    (case z_abs => k_is)
    (case z_int => k_is)
    (case m_isqrt => k_is)
    (case z_len => k_is)
    (case z_max => k_is)
    (case z_min => k_is)
    (case z_range => k_is)
    (case z_repr => k_is)
    (case g_KINDS => k_is)
    (case lk_KINDS => k_is)
#print axioms PySem.Challenge.cw_nonearer_k04_whole_what_lies_beyond_holds
