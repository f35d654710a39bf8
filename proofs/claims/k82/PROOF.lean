import PyProof.Rows.All
import Wide.All
import OpenK.AllK
import Wide.FinOn
import HandS.ForMost
import HandS.Flow
import HandS.Wide
import HandS.Gcd
import HandS.IsInst
import HandS.Walk
import HandS.Zip
import HandS.Defaults
import HandS.Style
import HandS.Deep
import HandS.TryOnly
import KE.DataMinMax
import KE.SortData
import HandS.SortKw
import HandS.TupSets
import HandS.WideBits
import HandS.Conv
import HandS.TupMul
import HandS.TupAny
import KE.GoesMore
import HandS.SortInts
import HandS.Dict
import HandS.SortRule
import KE.KDictZip
import HandS.ExcValue
import HandS.SetFor
import HandS.Strs
import PySem.Challenge.RW_floorcorners_k82_bare_shifts
set_option Elab.async false
set_option maxRecDepth 100000
set_option maxHeartbeats 4000000
set_option linter.all false
/-! A shallow reading of Python texts as functions on data, with the layer's rules beneath. -/
namespace Z
open PySem L2

/-! ### data, values, stores -/
inductive W where
  | pu (d : PyData)
  | mu (i : Nat)
  | sq (ns : List Int)
  | ml (is : List Nat)
  | dk (i : Nat)
abbrev Sto := List (Bool × List PyData)
abbrev En := List (Option W)

mutual
inductive At (F : Hp) : V → PyData → Prop where
  | non : At F .non .none
  | bl (b : Bool) : At F (.bl b) (.bool b)
  | int (i : Int) : At F (.int i) (.int i)
  | str (x : Str) : At F (.str x) (.str x)
  | lst {a : Addr} {xs : List V} {ds : List PyData} : F a = some (.lst xs) → AtAll F xs ds → At F (.ref a) (.list ds)
  | tup {a : Addr} {xs : List V} {ds : List PyData} : F a = some (.tup xs) → AtAll F xs ds → At F (.ref a) (.tuple ds)
inductive AtAll (F : Hp) : List V → List PyData → Prop where
  | nil : AtAll F [] []
  | cons {v : V} {vs : List V} {d : PyData} {ds : List PyData} : At F v d → AtAll F vs ds → AtAll F (v :: vs) (d :: ds)
end
mutual
theorem At.mono {F F' : Hp} (e : Same F F') : ∀ {v : V} {d : PyData}, At F v d → At F' v d
  | _, _, .non => .non
  | _, _, .bl b => .bl b
  | _, _, .int i => .int i
  | _, _, .str x => .str x
  | _, _, .lst h a => .lst (e _ _ h) (AtAll.mono e a)
  | _, _, .tup h a => .tup (e _ _ h) (AtAll.mono e a)
theorem AtAll.mono {F F' : Hp} (e : Same F F') : ∀ {v : List V} {d : List PyData}, AtAll F v d → AtAll F' v d
  | _, _, .nil => .nil
  | _, _, .cons h a => .cons (At.mono e h) (AtAll.mono e a)
end
theorem AtAll.length {F : Hp} : ∀ {vs : List V} {ds : List PyData}, AtAll F vs ds → vs.length = ds.length
  | _, _, .nil => rfl
  | _, _, .cons _ a => by rw [List.length_cons, List.length_cons, AtAll.length a]
theorem AtAll.get {F : Hp} : ∀ {vs : List V} {ds : List PyData} {i : Nat} {d : PyData}, AtAll F vs ds → ds[i]? = some d → ∃ v, vs[i]? = some v ∧ At F v d
  | _, _, i, d, .nil, h => by simp at h
  | _, _, 0, d, .cons h a, e => by
    simp at e
    subst e
    exact ⟨_, rfl, h⟩
  | _, _, i + 1, d, .cons h a, e => by
    obtain ⟨v, h1, h2⟩ := AtAll.get (i := i) (d := d) a (by simpa using e)
    exact ⟨v, by simpa using h1, h2⟩
theorem AtAll.getV {F : Hp} : ∀ {vs : List V} {ds : List PyData} {i : Nat} {v : V}, AtAll F vs ds → vs[i]? = some v → ∃ d, ds[i]? = some d ∧ At F v d
  | _, _, i, d, .nil, h => by simp at h
  | _, _, 0, d, .cons h a, e => by
    simp at e
    subst e
    exact ⟨_, rfl, h⟩
  | _, _, i + 1, d, .cons h a, e => by
    obtain ⟨v, h1, h2⟩ := AtAll.getV (i := i) (v := d) a (by simpa using e)
    exact ⟨v, by simpa using h1, h2⟩
theorem AtAll.append {F : Hp} : ∀ {vs ws : List V} {ds es : List PyData}, AtAll F vs ds → AtAll F ws es → AtAll F (vs ++ ws) (ds ++ es)
  | _, _, _, _, .nil, b => b
  | _, _, _, _, .cons h a, b => .cons h (AtAll.append a b)
theorem AtAll.take {F : Hp} : ∀ (n : Nat) {vs : List V} {ds : List PyData}, AtAll F vs ds → AtAll F (vs.take n) (ds.take n)
  | 0, _, _, _ => .nil
  | _ + 1, _, _, .nil => .nil
  | n + 1, _, _, .cons h a => .cons h (AtAll.take n a)
theorem AtAll.drop {F : Hp} : ∀ (n : Nat) {vs : List V} {ds : List PyData}, AtAll F vs ds → AtAll F (vs.drop n) (ds.drop n)
  | 0, _, _, h => h
  | _ + 1, _, _, .nil => .nil
  | n + 1, _, _, .cons h a => AtAll.drop n a
theorem AtAll.dropLast {F : Hp} : ∀ {vs : List V} {ds : List PyData}, AtAll F vs ds → AtAll F vs.dropLast ds.dropLast
  | _, _, .nil => .nil
  | _, _, .cons h .nil => .nil
  | _, _, .cons h (.cons h2 a) => .cons h (AtAll.dropLast (.cons h2 a))
theorem AtAll.reverse {F : Hp} {vs : List V} {ds : List PyData} (h : AtAll F vs ds) : AtAll F vs.reverse ds.reverse := by
  induction vs generalizing ds with
  | nil => cases h; exact .nil
  | cons v vs ih =>
    cases h with
    | cons h1 h2 =>
      rw [List.reverse_cons, List.reverse_cons]
      exact (ih h2).append (.cons h1 .nil)
theorem AtAll.set {F : Hp} {v : V} {d : PyData} (hv : At F v d) : ∀ {vs : List V} {ds : List PyData} (i : Nat), AtAll F vs ds → AtAll F (vs.set i v) (ds.set i d)
  | _, _, _, .nil => .nil
  | _, _, 0, .cons _ a => .cons hv a
  | _, _, i + 1, .cons h a => .cons h (AtAll.set hv i a)
theorem AtAll.ints {F : Hp} : ∀ {vs : List V} {ns : List Int}, AtAll F vs (ns.map PyData.int) → vs = ns.map V.int
  | _, [], .nil => rfl
  | _, n :: ns, .cons h a => by
    cases h
    rw [AtAll.ints a]
    rfl
theorem AtAll.of_ints {F : Hp} : ∀ (ns : List Int), AtAll F (ns.map V.int) (ns.map PyData.int)
  | [] => .nil
  | n :: ns => .cons (.int n) (AtAll.of_ints ns)
theorem AtAll.bools {F : Hp} : ∀ {vs : List V} {ns : List Bool}, AtAll F vs (ns.map PyData.bool) → vs = ns.map V.bl
  | _, [], .nil => rfl
  | _, n :: ns, .cons h a => by
    cases h
    rw [AtAll.bools a]
    rfl

/-- a dict of numbers as keys, as a list of pairs -/
inductive KvAll (F : Hp) : List (Key × V) → List PyData → Prop where
  | nil : KvAll F [] []
  | cons {k : Int} {v : V} {d : PyData} {kvs : List (Key × V)} {ds : List PyData} : At F v d → KvAll F kvs ds → KvAll F ((.inl k, v) :: kvs) (.tuple [.int k, d] :: ds)
theorem KvAll.mono {F F' : Hp} (e : Same F F') {kvs : List (Key × V)} {ds : List PyData} (h : KvAll F kvs ds) : KvAll F' kvs ds := by
  induction h with
  | nil => exact .nil
  | cons a _ ih => exact .cons (a.mono e) ih
/-! ### the state -/
abbrev Pn := List (Addr × List V)
structure Rl (F : Hp) (m : Nat → Addr × Bool) (S : Sto) (P : Pn) (H : Hp) : Prop where
  ex : Same F H
  mt : ∀ i ds, S[i]? = some (true, ds) → (m i).2 = false → ∃ vs, AtAll F vs ds ∧ F (m i).1 = none ∧ H (m i).1 = some (.lst vs)
  dk : ∀ i ds, S[i]? = some (true, ds) → (m i).2 = true → ∃ kvs : List (Key × V), KvAll F kvs ds ∧ F (m i).1 = none ∧ H (m i).1 = some (.dK kvs)
  fr : ∀ i ds, S[i]? = some (false, ds) → ∃ vs, AtAll F vs ds ∧ F (m i).1 = some (.lst vs)
  nf : ∀ i ds, S[i]? = some (false, ds) → (m i).2 = false
  inj : ∀ i j ds es, S[i]? = some (true, ds) → S[j]? = some (true, es) → (m i).1 = (m j).1 → i = j
  pn : ∀ p ∈ P, F p.1 = none ∧ H p.1 = some (.lst p.2) ∧ ∀ i ds, S[i]? = some (true, ds) → (m i).1 ≠ p.1
def WR (K : PySem.W.Frag) (F : Hp) (m : Nat → Addr × Bool) (n : Nat) (v : V) : W → Prop
  | .pu d => At F v d
  | .mu i => v = .ref (m i).1 ∧ i < n ∧ (m i).2 = false
  | .dk i => v = .ref (m i).1 ∧ i < n ∧ (m i).2 = true
  | .sq ns => ∃ a, v = .ref a ∧ SqL K F a (ns.map V.int)
  | .ml is => ∃ a, v = .ref a ∧ F a = some (.lst (is.map fun i => V.ref (m i).1)) ∧ ∀ i ∈ is, i < n ∧ (m i).2 = false
structure Up (F : Hp) (m : Nat → Addr × Bool) (n : Nat) (F' : Hp) (m' : Nat → Addr × Bool) : Prop where
  ex : Same F F'
  ag : ∀ i, i < n → m' i = m i
theorem Up.refl (F : Hp) (m : Nat → Addr × Bool) (n : Nat) : Up F m n F m := ⟨Same.refl F, fun _ _ => rfl⟩
theorem Up.trans {F F1 F2 : Hp} {m m1 m2 : Nat → Addr × Bool} {n n1 : Nat} (a : Up F m n F1 m1) (b : Up F1 m1 n1 F2 m2) (h : n ≤ n1) : Up F m n F2 m2 :=
  ⟨a.ex.trans b.ex, fun i hi => (b.ag i (Nat.lt_of_lt_of_le hi h)).trans (a.ag i hi)⟩
theorem WR.up {K : PySem.W.Frag} {F F' : Hp} {m m' : Nat → Addr × Bool} {n n' : Nat} (u : Up F m n F' m') (h : n ≤ n') : ∀ {v : V} {w : W}, WR K F m n v w → WR K F' m' n' v w
  | _, .pu _, r => At.mono u.ex r
  | _, .mu i, ⟨r, hi, hk⟩ => ⟨by rw [u.ag i hi]; exact r, Nat.lt_of_lt_of_le hi h, by rw [u.ag i hi]; exact hk⟩
  | _, .dk i, ⟨r, hi, hk⟩ => ⟨by rw [u.ag i hi]; exact r, Nat.lt_of_lt_of_le hi h, by rw [u.ag i hi]; exact hk⟩
  | _, .sq _, ⟨a, e, r⟩ => ⟨a, e, u.ex.seq r⟩
  | _, .ml is, ⟨a, e, r, l⟩ => ⟨a, e, by
    rw [List.map_congr_left (g := fun i => V.ref (m i).1) fun i hi => by rw [u.ag i (l i hi).1]]
    exact u.ex _ _ r, fun i hi => ⟨Nat.lt_of_lt_of_le (l i hi).1 h, by rw [u.ag i (l i hi).1]; exact (l i hi).2⟩⟩
structure ER (K : PySem.W.Frag) (F : Hp) (m : Nat → Addr × Bool) (n : Nat) (en : En) (σ : L2.St) : Prop where
  len : en.length = σ.length
  at' : ∀ (i : Nat) (w : W), en[i]? = some (some w) → ∃ v, σ[i]? = some (some v) ∧ WR K F m n v w
theorem ER.up {K : PySem.W.Frag} {F F' : Hp} {m m' : Nat → Addr × Bool} {n n' : Nat} {en : En} {σ : L2.St} (u : Up F m n F' m') (h : n ≤ n') (r : ER K F m n en σ) : ER K F' m' n' en σ :=
  ⟨r.len, fun i w e => let ⟨v, h1, h2⟩ := r.at' i w e; ⟨v, h1, h2.up u h⟩⟩
theorem ER.set {K : PySem.W.Frag} {F : Hp} {m : Nat → Addr × Bool} {n : Nat} {en : En} {σ : L2.St} {v : V} {w : W} (r : ER K F m n en σ) (hv : WR K F m n v w) (i : Nat) : ER K F m n (en.set i (some w)) (σ.set i (some v)) := by
  refine ⟨by rw [List.length_set, List.length_set]; exact r.len, fun j w' e => ?_⟩
  by_cases hij : i = j
  · subst hij
    by_cases hl : i < en.length
    · rw [List.getElem?_set_self hl] at e
      cases e
      exact ⟨v, List.getElem?_set_self (by rw [← r.len]; exact hl), hv⟩
    · rw [List.getElem?_eq_none (by rw [List.length_set]; omega)] at e
      cases e
  · rw [List.getElem?_set_ne hij] at e
    obtain ⟨v', h1, h2⟩ := r.at' j w' e
    exact ⟨v', by rw [List.getElem?_set_ne hij]; exact h1, h2⟩
theorem Rl.live {F : Hp} {m : Nat → Addr × Bool} {S : Sto} {P : Pn} {H : Hp} (r : Rl F m S P H) {i : Nat} {ds : List PyData} (e : S[i]? = some (true, ds)) : F (m i).1 = none ∧ ∃ o, H (m i).1 = some o := by
  cases k : (m i).2 with
  | false =>
    obtain ⟨vs, h1, h2, h3⟩ := r.mt i ds e k
    exact ⟨h2, _, h3⟩
  | true =>
    obtain ⟨vs, h1, h2, h3⟩ := r.dk i ds e k
    exact ⟨h2, _, h3⟩
/-- what is kept of the cells when the frozen part grows and the heap changes elsewhere -/
theorem Rl.keepM {F F' : Hp} {m : Nat → Addr × Bool} {S : Sto} {P : Pn} {H H' : Hp} (r : Rl F m S P H) (up : Same F F') {i : Nat} {ds : List PyData} (e : S[i]? = some (true, ds)) (k : (m i).2 = false) (hF : F' (m i).1 = F (m i).1) (hH : H' (m i).1 = H (m i).1) : ∃ vs, AtAll F' vs ds ∧ F' (m i).1 = none ∧ H' (m i).1 = some (.lst vs) := by
  obtain ⟨vs, h1, h2, h3⟩ := r.mt i ds e k
  exact ⟨vs, h1.mono up, by rw [hF]; exact h2, by rw [hH]; exact h3⟩
theorem Rl.keepD {F F' : Hp} {m : Nat → Addr × Bool} {S : Sto} {P : Pn} {H H' : Hp} (r : Rl F m S P H) (up : Same F F') {i : Nat} {ds : List PyData} (e : S[i]? = some (true, ds)) (k : (m i).2 = true) (hF : F' (m i).1 = F (m i).1) (hH : H' (m i).1 = H (m i).1) : ∃ kvs : List (Key × V), KvAll F' kvs ds ∧ F' (m i).1 = none ∧ H' (m i).1 = some (.dK kvs) := by
  obtain ⟨vs, h1, h2, h3⟩ := r.dk i ds e k
  exact ⟨vs, h1.mono up, by rw [hF]; exact h2, by rw [hH]; exact h3⟩
theorem Rl.new {F : Hp} {m : Nat → Addr × Bool} {S : Sto} {P : Pn} {H : Hp} (r : Rl F m S P H) {p : Addr} (hp : H p = none) {o : HO} : Rl (upd F p o) m S P (upd H p o) := by
  have nF : ∀ {a : Addr} {x : HO}, H a = some x → a ≠ p := fun h => ne_of_none h hp
  have hF : F p = none := r.ex.free hp
  have up : Same F (upd F p o) := fun a x h => by rw [upd_ne (ne_of_none h hF)]; exact h
  refine ⟨fun a x h => ?_, fun i ds e k => ?_, fun i ds e k => ?_, fun i ds e => ?_, r.nf, r.inj, fun q hq => ?_⟩
  · by_cases ha : a = p
    · subst ha
      rw [upd_same] at h ⊢
      exact h
    · rw [upd_ne ha] at h ⊢
      exact r.ex _ _ h
  · obtain ⟨_, o', h3⟩ := r.live e
    exact r.keepM up e k (upd_ne (nF h3)) (upd_ne (nF h3))
  · obtain ⟨_, o', h3⟩ := r.live e
    exact r.keepD up e k (upd_ne (nF h3)) (upd_ne (nF h3))
  · obtain ⟨vs, h1, h2⟩ := r.fr i ds e
    exact ⟨vs, h1.mono up, up _ _ h2⟩
  · obtain ⟨h1, h2, h3⟩ := r.pn q hq
    exact ⟨by rw [upd_ne (nF h2)]; exact h1, by rw [upd_ne (nF h2)]; exact h2, h3⟩
theorem same_upd {F : Hp} {p : Addr} {o : HO} (h : F p = none) : Same F (upd F p o) := fun a x e => by rw [upd_ne (ne_of_none e h)]; exact e
theorem old_app {S : Sto} {y x : Bool × List PyData} {i : Nat} (e : (S ++ [y])[i]? = some x) : (i < S.length ∧ S[i]? = some x) ∨ (i = S.length ∧ x = y) := by
  by_cases hi : i < S.length
  · rw [List.getElem?_append_left hi] at e
    exact .inl ⟨hi, e⟩
  · rw [List.getElem?_append_right (by omega)] at e
    by_cases h0 : i - S.length = 0
    · rw [h0] at e
      simp at e
      exact .inr ⟨by omega, e.symm⟩
    · obtain ⟨k, hk⟩ : ∃ k, i - S.length = k + 1 := ⟨i - S.length - 1, by omega⟩
      rw [hk] at e
      simp at e
theorem old_set {S : Sto} {y x : Bool × List PyData} {i j : Nat} (hl : i < S.length) (q : (S.set i y)[j]? = some x) : (i ≠ j ∧ S[j]? = some x) ∨ (i = j ∧ x = y) := by
  by_cases hij : i = j
  · subst hij
    rw [List.getElem?_set_self hl] at q
    exact .inr ⟨rfl, (Option.some.inj q).symm⟩
  · rw [List.getElem?_set_ne hij] at q
    exact .inl ⟨hij, q⟩
/-- a new cell, of either kind -/
theorem Rl.newC {F : Hp} {m m' : Nat → Addr × Bool} {S : Sto} {P : Pn} {H : Hp} (r : Rl F m S P H) {p : Addr} (hp : H p = none) {ds : List PyData} {o : HO} {b : Bool}
    (hc : if b = true then ∃ kvs : List (Key × V), KvAll F kvs ds ∧ o = .dK kvs else ∃ vs, AtAll F vs ds ∧ o = .lst vs)
    (mo : ∀ {i : Nat}, i < S.length → m' i = m i) (mn : m' S.length = (p, b)) : Rl F m' (S ++ [(true, ds)]) P (upd H p o) := by
  have nF : ∀ {a : Addr} {x : HO}, H a = some x → a ≠ p := fun h => ne_of_none h hp
  have hF : F p = none := r.ex.free hp
  have lt : ∀ {i : Nat} {x}, S[i]? = some x → i < S.length := fun {i x} e => (List.getElem?_eq_some_iff.mp e).1
  refine ⟨fun a x h => ?_, fun i es e k => ?_, fun i es e k => ?_, fun i es e => ?_, fun i es e => ?_, fun i j es fs e1 e2 q => ?_, fun q hq => ?_⟩
  · rw [upd_ne (nF (r.ex _ _ h))]
    exact r.ex _ _ h
  · rcases old_app e with ⟨hi, e1⟩ | ⟨rfl, e1⟩
    · rw [mo hi] at k ⊢
      obtain ⟨_, o', h3⟩ := r.live e1
      exact r.keepM (Same.refl F) e1 k rfl (upd_ne (nF h3))
    · injection e1 with _ e2
      subst e2
      rw [mn] at k ⊢
      have k : b = false := k
      subst k
      obtain ⟨vs, ha, rfl⟩ := hc
      exact ⟨vs, ha, hF, upd_same⟩
  · rcases old_app e with ⟨hi, e1⟩ | ⟨rfl, e1⟩
    · rw [mo hi] at k ⊢
      obtain ⟨_, o', h3⟩ := r.live e1
      exact r.keepD (Same.refl F) e1 k rfl (upd_ne (nF h3))
    · injection e1 with _ e2
      subst e2
      rw [mn] at k ⊢
      have k : b = true := k
      subst k
      obtain ⟨vs, ha, rfl⟩ := hc
      exact ⟨vs, ha, hF, upd_same⟩
  · rcases old_app e with ⟨hi, e1⟩ | ⟨rfl, e1⟩
    · rw [mo hi]
      exact r.fr i es e1
    · injection e1 with e2 _
      cases e2
  · rcases old_app e with ⟨hi, e1⟩ | ⟨rfl, e1⟩
    · rw [mo hi]
      exact r.nf i es e1
    · injection e1 with e2 _
      cases e2
  · rcases old_app e1 with ⟨hi, e1⟩ | ⟨rfl, e1⟩ <;> rcases old_app e2 with ⟨hj, e2⟩ | ⟨rfl, e2⟩
    · rw [mo hi, mo hj] at q
      exact r.inj i j _ _ e1 e2 q
    · rw [mo hi, mn] at q
      obtain ⟨_, _, h3⟩ := r.live e1
      exact absurd q (nF h3)
    · rw [mo hj, mn] at q
      obtain ⟨_, _, h3⟩ := r.live e2
      exact absurd q.symm (nF h3)
    · rfl
  · obtain ⟨h1, h2, h3⟩ := r.pn q hq
    refine ⟨h1, by rw [upd_ne (nF h2)]; exact h2, fun i es e => ?_⟩
    rcases old_app e with ⟨hi, e⟩ | ⟨rfl, e⟩
    · rw [mo hi]
      exact h3 i _ e
    · rw [mn]
      exact (nF h2).symm
/-- a new mutable list -/
theorem Rl.newM {F : Hp} {m m' : Nat → Addr × Bool} {S : Sto} {P : Pn} {H : Hp} (r : Rl F m S P H) {p : Addr} (hp : H p = none) {vs : List V} {ds : List PyData} (ha : AtAll F vs ds)
    (mo : ∀ {i : Nat}, i < S.length → m' i = m i) (mn : m' S.length = (p, false)) : Rl F m' (S ++ [(true, ds)]) P (upd H p (.lst vs)) := r.newC hp (b := false) ⟨vs, ha, rfl⟩ mo mn
/-- a cell is written -/
theorem Rl.writeC {F : Hp} {m : Nat → Addr × Bool} {S : Sto} {P : Pn} {H : Hp} (r : Rl F m S P H) {i : Nat} {ds es : List PyData} (e : S[i]? = some (true, ds)) {o : HO}
    (hc : if (m i).2 = true then ∃ kvs : List (Key × V), KvAll F kvs es ∧ o = .dK kvs else ∃ vs, AtAll F vs es ∧ o = .lst vs) :
    Rl F m (S.set i (true, es)) P (upd H (m i).1 o) := by
  obtain ⟨h2, o', h3⟩ := r.live e
  have hl : i < S.length := (List.getElem?_eq_some_iff.mp e).1
  refine ⟨fun a x h => ?_, fun j fs q k => ?_, fun j fs q k => ?_, fun j fs q => ?_, fun j fs q => ?_, fun j k fs gs q1 q2 z => ?_, fun q hq => ?_⟩
  · have : a ≠ (m i).1 := fun z => by rw [z, h2] at h; cases h
    rw [upd_ne this]
    exact r.ex _ _ h
  · rcases old_set hl q with ⟨hij, q'⟩ | ⟨rfl, q'⟩
    · exact r.keepM (Same.refl F) q' k rfl (upd_ne (fun z => hij (r.inj i j _ _ e q' z.symm)))
    · cases q'
      rw [k] at hc
      obtain ⟨vs, ha, rfl⟩ := hc
      exact ⟨vs, ha, h2, upd_same⟩
  · rcases old_set hl q with ⟨hij, q'⟩ | ⟨rfl, q'⟩
    · exact r.keepD (Same.refl F) q' k rfl (upd_ne (fun z => hij (r.inj i j _ _ e q' z.symm)))
    · cases q'
      rw [k] at hc
      obtain ⟨vs, ha, rfl⟩ := hc
      exact ⟨vs, ha, h2, upd_same⟩
  · rcases old_set hl q with ⟨hij, q'⟩ | ⟨rfl, q'⟩
    · exact r.fr j fs q'
    · cases q'
  · rcases old_set hl q with ⟨hij, q'⟩ | ⟨rfl, q'⟩
    · exact r.nf j fs q'
    · cases q'
  · rcases old_set hl q1 with ⟨h1, q1⟩ | ⟨h1, q1⟩ <;> rcases old_set hl q2 with ⟨h2, q2⟩ | ⟨h2, q2⟩
    · exact r.inj j k _ _ q1 q2 z
    · subst h2
      exact r.inj _ _ _ _ q1 e z
    · subst h1
      exact r.inj _ _ _ _ e q2 z
    · exact h1.symm.trans h2
  · obtain ⟨g1, g2, g3⟩ := r.pn q hq
    refine ⟨g1, by rw [upd_ne (g3 i _ e).symm]; exact g2, fun j fs q => ?_⟩
    rcases old_set hl q with ⟨hij, q'⟩ | ⟨rfl, q'⟩
    · exact g3 j _ q'
    · exact g3 i _ e
/-- a mutable list is written -/
theorem Rl.write {F : Hp} {m : Nat → Addr × Bool} {S : Sto} {P : Pn} {H : Hp} (r : Rl F m S P H) {i : Nat} {ds es : List PyData} (e : S[i]? = some (true, ds)) (k : (m i).2 = false) {ws : List V} (ha : AtAll F ws es) :
    Rl F m (S.set i (true, es)) P (upd H (m i).1 (.lst ws)) := r.writeC e (by rw [k]; exact ⟨ws, ha, rfl⟩)
/-- a mutable list is shared from now on -/
theorem Rl.freeze {F : Hp} {m : Nat → Addr × Bool} {S : Sto} {P : Pn} {H : Hp} (r : Rl F m S P H) {i : Nat} {ds : List PyData} (e : S[i]? = some (true, ds)) (k : (m i).2 = false) :
    ∃ F', Same F F' ∧ Rl F' m (S.set i (false, ds)) P H ∧ At F' (.ref (m i).1) (.list ds) := by
  obtain ⟨vs, h1, h2, h3⟩ := r.mt i ds e k
  have hl : i < S.length := (List.getElem?_eq_some_iff.mp e).1
  have up : Same F (upd F (m i).1 (.lst vs)) := same_upd h2
  refine ⟨upd F (m i).1 (.lst vs), up, ⟨fun a x h => ?_, fun j fs q k => ?_, fun j fs q k => ?_, fun j fs q => ?_, fun j fs q => ?_, fun j k fs gs q1 q2 z => ?_, fun q hq => ?_⟩, .lst upd_same (h1.mono up)⟩
  · by_cases ha : a = (m i).1
    · subst ha
      rw [upd_same] at h
      cases h
      exact h3
    · rw [upd_ne ha] at h
      exact r.ex _ _ h
  · rcases old_set hl q with ⟨hij, q'⟩ | ⟨rfl, q'⟩
    · exact r.keepM up q' k (upd_ne (fun z => hij (r.inj i j _ _ e q' z.symm))) rfl
    · cases q'
  · rcases old_set hl q with ⟨hij, q'⟩ | ⟨rfl, q'⟩
    · exact r.keepD up q' k (upd_ne (fun z => hij (r.inj i j _ _ e q' z.symm))) rfl
    · cases q'
  · rcases old_set hl q with ⟨hij, q'⟩ | ⟨rfl, q'⟩
    · obtain ⟨us, g1, g2⟩ := r.fr j fs q'
      exact ⟨us, g1.mono up, up _ _ g2⟩
    · cases q'
      exact ⟨vs, h1.mono up, upd_same⟩
  · rcases old_set hl q with ⟨hij, q'⟩ | ⟨rfl, q'⟩
    · exact r.nf j fs q'
    · exact k
  · rcases old_set hl q1 with ⟨h1, q1⟩ | ⟨h1, q1⟩ <;> rcases old_set hl q2 with ⟨h2, q2⟩ | ⟨h2, q2⟩
    · exact r.inj j k _ _ q1 q2 z
    · cases q2
    · cases q1
    · cases q1
  · obtain ⟨g1, g2, g3⟩ := r.pn q hq
    refine ⟨by rw [upd_ne (g3 i _ e).symm]; exact g1, g2, fun j fs q => ?_⟩
    rcases old_set hl q with ⟨hij, q'⟩ | ⟨rfl, q'⟩
    · exact g3 j _ q'
    · exact g3 i _ e
end Z

namespace Z
open PySem L2

/-! ### looks at a value -/
def look : W → Sto → Option PyData
  | .pu d, _ => some d
  | .mu i, S => (S[i]?).map fun p => .list p.2
  | .sq _, _ => none
  | .ml _, _ => none
  | .dk _, _ => none
inductive Lk (F H : Hp) : V → PyData → Prop where
  | at' {v : V} {d : PyData} : At F v d → Lk F H v d
  | mt {a : Addr} {vs : List V} {ds : List PyData} : H a = some (.lst vs) → AtAll F vs ds → Lk F H (.ref a) (.list ds)
theorem look_ok {K : PySem.W.Frag} {F : Hp} {m : Nat → Addr × Bool} {S : Sto} {P : Pn} {H : Hp} {n : Nat} {v : V} {w : W} {d : PyData} (r : Rl F m S P H) (h : WR K F m n v w) (e : look w S = some d) : Lk F H v d := by
  cases w with
  | pu d' =>
    cases e
    exact .at' h
  | mu i =>
    obtain ⟨rfl, _, hk⟩ := h
    have e : (S[i]?).map (fun p => PyData.list p.2) = some d := e
    cases q : S[i]? with
    | none => rw [q] at e; cases e
    | some p =>
      rw [q] at e
      obtain ⟨b, ds⟩ := p
      cases e
      cases b with
      | true =>
        obtain ⟨vs, h1, h2, h3⟩ := r.mt i ds q hk
        exact .mt h3 h1
      | false =>
        obtain ⟨vs, h1, h2⟩ := r.fr i ds q
        exact .at' (.lst h2 h1)
  | sq ns => cases e
  | ml is => cases e
  | dk j => cases e
theorem Lk.int {F H : Hp} {v : V} {i : Int} (h : Lk F H v (.int i)) : v = .int i := by
  cases h with
  | at' h => cases h; rfl
theorem Lk.bl {F H : Hp} {v : V} {i : Bool} (h : Lk F H v (.bool i)) : v = .bl i := by
  cases h with
  | at' h => cases h; rfl
theorem Lk.non {F H : Hp} {v : V} (h : Lk F H v .none) : v = .non := by
  cases h with
  | at' h => cases h; rfl
theorem Lk.str {F H : Hp} {v : V} {i : Str} (h : Lk F H v (.str i)) : v = .str i := by
  cases h with
  | at' h => cases h; rfl
theorem Lk.lst {F H : Hp} (e : Same F H) {v : V} {ds : List PyData} (h : Lk F H v (.list ds)) : ∃ a vs, v = .ref a ∧ H a = some (.lst vs) ∧ AtAll F vs ds := by
  cases h with
  | at' h =>
    cases h with
    | lst h1 h2 => exact ⟨_, _, rfl, e _ _ h1, h2⟩
  | mt h1 h2 => exact ⟨_, _, rfl, h1, h2⟩
theorem Lk.tup {F H : Hp} (e : Same F H) {v : V} {ds : List PyData} (h : Lk F H v (.tuple ds)) : ∃ a vs, v = .ref a ∧ H a = some (.tup vs) ∧ F a = some (.tup vs) ∧ AtAll F vs ds := by
  cases h with
  | at' h =>
    cases h with
    | tup h1 h2 => exact ⟨_, _, rfl, e _ _ h1, h1, h2⟩
mutual
theorem At.dp {K : PySem.W.Frag} {F H : Hp} (e : Same F H) : ∀ {v : V} {d : PyData}, At F v d → Dp K H v d
  | _, _, .non => .non
  | _, _, .bl b => .bl b
  | _, _, .int i => .int i
  | _, _, .str x => .str x
  | _, _, .lst h a => .lst (SqL.of (e _ _ h)) (AtAll.dp e a)
  | _, _, .tup h a => .tup (SqT.of (e _ _ h)) (AtAll.dp e a)
theorem AtAll.dp {K : PySem.W.Frag} {F H : Hp} (e : Same F H) : ∀ {v : List V} {d : List PyData}, AtAll F v d → DpAll K H v d
  | _, _, .nil => .nil
  | _, _, .cons h a => .cons (At.dp e h) (AtAll.dp e a)
end
theorem Lk.dp {K : PySem.W.Frag} {F H : Hp} (e : Same F H) {v : V} {d : PyData} : Lk F H v d → Dp K H v d
  | .at' h => h.dp e
  | .mt h a => .lst (SqL.of h) (a.dp e)
/-- what a list-like thing holds: a list (also the script), or a tuple -/
def lookL : W → Sto → Option (List PyData)
  | .pu (.list ds), _ => some ds
  | .pu (.tuple ds), _ => some ds
  | .mu i, S => (S[i]?).map (·.2)
  | .sq ns, _ => some (ns.map .int)
  | _, _ => none
theorem lookL_ok {K : PySem.W.Frag} {F : Hp} {m : Nat → Addr × Bool} {S : Sto} {P : Pn} {H : Hp} {n : Nat} {v : V} {w : W} {ds : List PyData} (r : Rl F m S P H) (h : WR K F m n v w) (e : lookL w S = some ds) :
    ∃ a vs, v = .ref a ∧ (SqL K H a vs ∨ SqT K H a vs) ∧ AtAll F vs ds := by
  cases w with
  | pu d' =>
    cases d' with
    | list xs =>
      cases e
      cases h with
      | lst h1 h2 => exact ⟨_, _, rfl, .inl (SqL.of (r.ex _ _ h1)), h2⟩
    | tuple xs =>
      cases e
      cases h with
      | tup h1 h2 => exact ⟨_, _, rfl, .inr (SqT.of (r.ex _ _ h1)), h2⟩
    | _ => cases e
  | mu i =>
    obtain ⟨rfl, _, hk⟩ := h
    have e : (S[i]?).map (fun p => p.2) = some ds := e
    cases q : S[i]? with
    | none => rw [q] at e; cases e
    | some p =>
      rw [q] at e
      obtain ⟨b, xs⟩ := p
      cases e
      cases b with
      | true =>
        obtain ⟨vs, h1, h2, h3⟩ := r.mt i _ q hk
        exact ⟨_, _, rfl, .inl (SqL.of h3), h1⟩
      | false =>
        obtain ⟨vs, h1, h2⟩ := r.fr i _ q
        exact ⟨_, _, rfl, .inl (SqL.of (r.ex _ _ h2)), h1⟩
  | sq ns =>
    cases e
    obtain ⟨a, rfl, h⟩ := h
    exact ⟨a, _, rfl, .inl (r.ex.seq h), AtAll.of_ints ns⟩
  | ml is => cases e
  | dk j => cases e
/-- a value made plain data for good -/
def fz : W → Sto → Option (PyData × Sto)
  | .pu d, S => some (d, S)
  | .mu i, S => match S[i]? with
    | some (true, ds) => some (.list ds, S.set i (false, ds))
    | some (false, ds) => some (.list ds, S)
    | none => none
  | .ml _, _ => none
  | .dk _, _ => none
  | .sq _, _ => none
theorem fz_mu {i : Nat} {S : Sto} : fz (.mu i) S = (match S[i]? with
    | some (true, ds) => some (.list ds, S.set i (false, ds))
    | some (false, ds) => some (.list ds, S)
    | none => none) := rfl
theorem fz_len {w : W} {S S' : Sto} {d : PyData} (e : fz w S = some (d, S')) : S.length = S'.length := by
  cases w with
  | pu d' => cases e; rfl
  | mu i =>
    rw [fz_mu] at e
    split at e <;> first | (cases e; simp) | cases e
  | sq ns => cases e
  | ml is => cases e
  | dk j => cases e
theorem fz_ok {K : PySem.W.Frag} {F : Hp} {m : Nat → Addr × Bool} {S S' : Sto} {P : Pn} {H : Hp} {n : Nat} {v : V} {w : W} {d : PyData} (r : Rl F m S P H) (h : WR K F m n v w) (e : fz w S = some (d, S')) :
    ∃ F', Same F F' ∧ Rl F' m S' P H ∧ At F' v d := by
  cases w with
  | pu d' =>
    cases e
    exact ⟨F, Same.refl F, r, h⟩
  | mu i =>
    obtain ⟨rfl, _, hk⟩ := h
    rw [fz_mu] at e
    split at e
    · rename_i ds q
      cases e
      exact r.freeze q hk
    · rename_i ds q
      cases e
      obtain ⟨vs, h1, h2⟩ := r.fr i _ q
      exact ⟨F, Same.refl F, r, .lst h2 h1⟩
    · cases e
  | sq ns => cases e
  | ml is => cases e
  | dk j => cases e

/-! ### readings -/
structure SE where
  run : En → Sto → Option (W × Sto)
  mono : ∀ {en S w S'}, run en S = some (w, S') → S.length ≤ S'.length
structure SA where
  run : En → Sto → Option (List W × Sto)
  mono : ∀ {en S w S'}, run en S = some (w, S') → S.length ≤ S'.length
def WRs (K : PySem.W.Frag) (F : Hp) (m : Nat → Addr × Bool) (n : Nat) : List V → List W → Prop := Paired (WR K F m n)
theorem WRs.up {K : PySem.W.Frag} {F F' : Hp} {m m' : Nat → Addr × Bool} {n n' : Nat} (u : Up F m n F' m') (h : n ≤ n') {vs : List V} {ws : List W} (r : WRs K F m n vs ws) : WRs K F' m' n' vs ws :=
  Paired.mapP r fun _ _ q => q.up u h
def tI (K : PySem.W.Frag) (f : SE) : TE := fun σ H Q => ∃ F m S P en w S', Rl F m S P H ∧ ER K F m S.length en σ ∧ f.run en S = some (w, S') ∧
  ∀ F' m' H' v, Up F m S.length F' m' → Rl F' m' S' P H' → WR K F' m' S'.length v w → Q v H'
def tIA (K : PySem.W.Frag) (f : SA) : TA := fun σ H Q => ∃ F m S P en w S', Rl F m S P H ∧ ER K F m S.length en σ ∧ f.run en S = some (w, S') ∧
  ∀ F' m' H' v, Up F m S.length F' m' → Rl F' m' S' P H' → WRs K F' m' S'.length v w → Q v H'
theorem bind_some_of {α β : Type} {o : Option α} {f : α → Option β} {b : β} (h : o.bind f = some b) : ∃ a, o = some a ∧ f a = some b := by
  cases o with
  | none => cases h
  | some a => exact ⟨a, rfl, h⟩
section
variable {X : Cx} {e a b : Expr} {pos : Pos}
theorem pe_imp {t t' : TE} (h : PE X e t) (i : ∀ σ H Q, t' σ H Q → t σ H Q) : PE X e t' := ⟨fun pins s σ H Q I q => h.run pins s σ H Q I (i σ H Q q)⟩
theorem pt_imp {t t' : TT} (h : PT X e t) (i : ∀ σ H Q, t' σ H Q → t σ H Q) : PT X e t' := ⟨fun pins s σ H Q I q => h.run pins s σ H Q I (i σ H Q q)⟩
theorem pa_imp {es : List Expr} {t t' : TA} (h : PA X es t) (i : ∀ σ H Q, t' σ H Q → t σ H Q) : PA X es t' := ⟨fun pos pins s σ H Q I q => h.run pos pins s σ H Q I (i σ H Q q)⟩

/-! #### names, constants -/
def sBad : SE := ⟨fun _ _ => none, fun h => nomatch h⟩
theorem z_bad : PE X e (tI X.K sBad) := ⟨fun _ _ _ _ _ _ ⟨_, _, _, _, _, _, _, _, _, h, _⟩ => nomatch h⟩
def sVar (i : Nat) : SE := ⟨fun en S => (en[i]?.bind id).map fun w => (w, S), fun {en S w S'} h => by
  cases q : en[i]?.bind id with
  | none => rw [q] at h; cases h
  | some w => rw [q] at h; cases h; exact Nat.le_refl _⟩
theorem z_var {i : Nat} {x : Str} (h : PE X (.Name x pos) (tVar i)) : PE X (.Name x pos) (tI X.K (sVar i)) := by
  refine pe_imp h fun σ H Q ⟨F, m, S, P, en, w, S', rl, er, run, q⟩ => ?_
  have run' : (en[i]?.bind id).map (fun w => (w, S)) = some (w, S') := run
  cases z : en[i]?.bind id with
  | none => rw [z] at run'; cases run'
  | some w' =>
    rw [z] at run'
    cases run'
    have e1 : en[i]? = some (some w) := by
      cases y : en[i]? with
      | none => rw [y] at z; cases z
      | some o => rw [y] at z; exact congrArg some z
    obtain ⟨v, h1, h2⟩ := er.at' i w e1
    exact ⟨v, h1, q F m H v (Up.refl _ _ _) rl h2⟩
def sC (d : PyData) : SE := ⟨fun _ S => some (.pu d, S), fun h => by cases h; exact Nat.le_refl _⟩
theorem z_c {v : V} {d : PyData} (h : PE X e (tC v)) (r : ∀ F, At F v d) : PE X e (tI X.K (sC d)) := by
  refine pe_imp h fun σ H Q ⟨F, m, S, P, en, w, S', rl, er, run, q⟩ => ?_
  cases run
  exact q F m H v (Up.refl _ _ _) rl (r F)
theorem z_int {i : Int} {j} : PE X (.Constant (.int i) j pos) (tI X.K (sC (.int i))) := z_c pe_int fun _ => .int i
theorem z_bl {i : Bool} {j} : PE X (.Constant (.bool i) j pos) (tI X.K (sC (.bool i))) := z_c pe_bl fun _ => .bl i
theorem z_non {j} : PE X (.Constant .none j pos) (tI X.K (sC .none)) := z_c pe_non fun _ => .non
theorem z_str {i : Str} {j} : PE X (.Constant (.str i) j pos) (tI X.K (sC (.str i))) := z_c pe_str fun _ => .str i

/-! #### operations on two values, on one -/
def op2 (o : W → W → Sto → Option W) (f g : SE) : SE := ⟨fun en S => (f.run en S).bind fun p => (g.run en p.2).bind fun q => (o p.1 q.1 q.2).map fun z => (z, q.2), fun {en S w S'} h => by
  obtain ⟨p, h1, h⟩ := bind_some_of h
  obtain ⟨q, h2, h⟩ := bind_some_of h
  obtain ⟨z, h3, h⟩ := Option.map_eq_some_iff.mp h
  cases h
  exact Nat.le_trans (f.mono h1) (g.mono h2)⟩
def OpS (K : PySem.W.Frag) (r : R2) (o : W → W → Sto → Option W) : Prop := ∀ F m S P H x y v u z (Q : VK), Rl F m S P H → WR K F m S.length v x → WR K F m S.length u y → o x y S = some z →
  (∀ F' H' t, Same F F' → Rl F' m S P H' → WR K F' m S.length t z → Q t H') → r v u H Q
theorem op2_ok {r : R2} {o : W → W → Sto → Option W} {f g : SE} (ho : OpS X.K r o) : ∀ σ H Q, tI X.K (op2 o f g) σ H Q → tOp r (tI X.K f) (tI X.K g) σ H Q := by
  intro σ H Q ⟨F, m, S, P, en, w, S', rl, er, run, q⟩
  obtain ⟨⟨x, S1⟩, h1, h⟩ := bind_some_of run
  obtain ⟨⟨y, S2⟩, h2, h⟩ := bind_some_of h
  obtain ⟨z, h3, h⟩ := Option.map_eq_some_iff.mp h
  cases h
  refine ⟨F, m, S, P, en, x, S1, rl, er, h1, fun F1 m1 H1 v u1 rl1 wr1 => ⟨F1, m1, S1, P, en, y, S2, rl1, er.up u1 (f.mono h1), h2, fun F2 m2 H2 u u2 rl2 wr2 => ?_⟩⟩
  refine ho F2 m2 S2 P H2 x y v u w Q rl2 (wr1.up u2 (g.mono h2)) wr2 h3 fun F3 H3 t e3 rl3 wr3 => ?_
  exact q F3 m2 H3 t ((u1.trans u2 (f.mono h1)).trans ⟨e3, fun _ _ => rfl⟩ (Nat.le_trans (f.mono h1) (g.mono h2))) rl3 wr3
theorem z_op {op : Operator} {r : R2} {o : W → W → Sto → Option W} {f g : SE} (hr : OpR X (binaryOp op) r) (ho : OpS X.K r o) (ha : PE X a (tI X.K f)) (hb : PE X b (tI X.K g)) : PE X (.BinOp a op b pos) (tI X.K (op2 o f g)) :=
  pe_imp (pe_op hr ha hb) (op2_ok ho)
theorem z_cmp {op : CmpOp} {r : R2} {o : W → W → Sto → Option W} {f g : SE} (hr : OpR X (compareOp op) r) (ho : OpS X.K r o) (ha : PE X a (tI X.K f)) (hb : PE X b (tI X.K g)) (hm : behindInMarks op b = false) : PE X (.Compare a [op] [b] pos) (tI X.K (op2 o f g)) :=
  pe_imp (pe_cmpR hr ha hb hm) (op2_ok ho)
theorem z_ix {r : R2} {o : W → W → Sto → Option W} {f g : SE} (hr : IxR X r) (ho : OpS X.K r o) (ha : PE X a (tI X.K f)) (hb : PE X b (tI X.K g)) (hs : PlainIx b) : PE X (.Subscript a b pos) (tI X.K (op2 o f g)) :=
  pe_imp (pe_ix hr ha hb hs) (op2_ok ho)
def op1 (o : W → Sto → Option W) (f : SE) : SE := ⟨fun en S => (f.run en S).bind fun p => (o p.1 p.2).map fun z => (z, p.2), fun {en S w S'} h => by
  obtain ⟨p, h1, h⟩ := bind_some_of h
  obtain ⟨z, h3, h⟩ := Option.map_eq_some_iff.mp h
  cases h
  exact f.mono h1⟩
def UnS (K : PySem.W.Frag) (r : V → Hp → VK → Prop) (o : W → Sto → Option W) : Prop := ∀ F m S P H x v z (Q : VK), Rl F m S P H → WR K F m S.length v x → o x S = some z →
  (∀ F' H' t, Same F F' → Rl F' m S P H' → WR K F' m S.length t z → Q t H') → r v H Q
theorem op1_ok {K : PySem.W.Frag} {r : V → Hp → VK → Prop} {o : W → Sto → Option W} {f : SE} (ho : UnS K r o) : ∀ σ H Q, tI K (op1 o f) σ H Q → tUn r (tI K f) σ H Q := by
  intro σ H Q ⟨F, m, S, P, en, w, S', rl, er, run, q⟩
  obtain ⟨⟨x, S1⟩, h1, h⟩ := bind_some_of run
  obtain ⟨z, h3, h⟩ := Option.map_eq_some_iff.mp h
  cases h
  refine ⟨F, m, S, P, en, x, S1, rl, er, h1, fun F1 m1 H1 v u1 rl1 wr1 => ?_⟩
  exact ho F1 m1 S1 P H1 x v w Q rl1 wr1 h3 fun F3 H3 t e3 rl3 wr3 => q F3 m1 H3 t (u1.trans ⟨e3, fun _ _ => rfl⟩ (f.mono h1)) rl3 wr3
theorem z_un {op : UnaryOp} {r : V → Hp → VK → Prop} {o : W → Sto → Option W} {f : SE} (hr : UnR X (unaryOp op) r) (ho : UnS X.K r o) (ha : PE X a (tI X.K f)) : PE X (.UnaryOp op a pos) (tI X.K (op1 o f)) :=
  pe_imp (pe_un hr ha) (op1_ok ho)
end

/-! #### rules joined -/
theorem OpR.or {X : Cx} {f : Value → Value → Sem Value} {r r' : R2} (h : OpR X f r) (h' : OpR X f r') : OpR X f (fun x y H Q => r x y H Q ∨ r' x y H Q) := by
  intro pins s σ H x y v u Q I rx ry q
  rcases q with q | q
  · exact h pins s σ H x y v u Q I rx ry q
  · exact h' pins s σ H x y v u Q I rx ry q
theorem CallR.or {X : Cx} {f : Value} {r r' : List V → Hp → VK → Prop} (h : CallR X f r) (h' : CallR X f r') : CallR X f (fun x H Q => r x H Q ∨ r' x H Q) := by
  intro pins s σ H x v Q I rx q
  rcases q with q | q
  · exact h pins s σ H x v Q I rx q
  · exact h' pins s σ H x v Q I rx q

/-! #### the operations -/
def i2 (g : Int → Int → PyData) : W → W → Sto → Option W := fun x y S => match look x S, look y S with
  | some (.int i), some (.int j) => some (.pu (g i j))
  | _, _ => none
def i2c (c : Int → Int → Bool) (g : Int → Int → PyData) : W → W → Sto → Option W := fun x y S => match look x S, look y S with
  | some (.int i), some (.int j) => if c i j = true then some (.pu (g i j)) else none
  | _, _ => none
def oAdd : W → W → Sto → Option W := fun x y S => match look x S, look y S with
  | some (.int i), some (.int j) => some (.pu (.int (i + j)))
  | some (.list xs), some (.list ys) => if xs.length + ys.length ≤ sizeLine then some (.pu (.list (xs ++ ys))) else none
  | some (.tuple xs), some (.tuple ys) => if xs ≠ [] ∧ ys ≠ [] ∧ xs.length + ys.length ≤ sizeLine then some (.pu (.tuple (xs ++ ys))) else none
  | some (.str x), some (.str y) => if x.length + y.length ≤ sizeLine then some (.pu (.str (x ++ y))) else none
  | _, _ => none
section
variable {K : PySem.W.Frag}
theorem os_i2 {g : Int → Int → V} {g' : Int → Int → PyData} (hg : ∀ F i j, At F (g i j) (g' i j)) : OpS K (rI0 g) (i2 g') := by
  intro F m S P H x y v u z Q rl w1 w2 e q
  unfold i2 at e
  split at e
  · rename_i i j h1 h2
    cases e
    exact ⟨i, j, (look_ok rl w1 h1).int, (look_ok rl w2 h2).int, q F H _ (Same.refl F) rl (hg F i j)⟩
  · cases e
theorem os_i2c {C : Int → Int → Prop} {c : Int → Int → Bool} {g : Int → Int → V} {g' : Int → Int → PyData} (hc : ∀ i j, c i j = true → C i j) (hg : ∀ F i j, At F (g i j) (g' i j)) : OpS K (rI C g) (i2c c g') := by
  intro F m S P H x y v u z Q rl w1 w2 e q
  unfold i2c at e
  split at e
  · rename_i i j h1 h2
    split at e
    · rename_i hij
      cases e
      exact ⟨i, j, (look_ok rl w1 h1).int, (look_ok rl w2 h2).int, hc i j hij, q F H _ (Same.refl F) rl (hg F i j)⟩
    · cases e
  · cases e
def rAddZ (K : PySem.W.Frag) : R2 := fun x y H Q => rI0 (fun i j => .int (i + j)) x y H Q ∨ (rCat x y H Q ∨ (rCatT K x y H Q ∨ (∃ a b, x = .str a ∧ y = .str b ∧ a.length + b.length ≤ sizeLine ∧ Q (.str (a ++ b)) H)))
theorem os_add : OpS K (rAddZ K) oAdd := by
  intro F m S P H x y v u z Q rl w1 w2 e q
  unfold oAdd at e
  split at e
  · rename_i i j h1 h2
    cases e
    exact .inl ⟨i, j, (look_ok rl w1 h1).int, (look_ok rl w2 h2).int, q F H _ (Same.refl F) rl (.int _)⟩
  · rename_i xs ys h1 h2
    split at e
    · rename_i hl
      cases e
      obtain ⟨p, vs, rfl, g1, g2⟩ := (look_ok rl w1 h1).lst rl.ex
      obtain ⟨p', vs', rfl, g1', g2'⟩ := (look_ok rl w2 h2).lst rl.ex
      refine .inr (.inl ⟨p, p', vs, vs', rfl, rfl, g1, g1', by rw [g2.length, g2'.length]; exact hl, fun a ha => ?_⟩)
      exact q (upd F a (.lst (vs ++ vs'))) _ _ (same_upd (rl.ex.free ha)) (rl.new ha) (.lst upd_same ((g2.append g2').mono (same_upd (rl.ex.free ha))))
    · cases e
  · rename_i xs ys h1 h2
    split at e
    · rename_i hl
      cases e
      obtain ⟨p, vs, rfl, g1, _, g2⟩ := (look_ok rl w1 h1).tup rl.ex
      obtain ⟨p', vs', rfl, g1', _, g2'⟩ := (look_ok rl w2 h2).tup rl.ex
      have n1 : vs ≠ [] := fun z => hl.1 (by rw [z] at g2; cases g2; rfl)
      have n2 : vs' ≠ [] := fun z => hl.2.1 (by rw [z] at g2'; cases g2'; rfl)
      refine .inr (.inr (.inl ⟨p, p', vs, vs', rfl, rfl, SqT.of g1, SqT.of g1', n1, by rw [g2.length, g2'.length]; exact hl.2.2, fun z => absurd z n2, fun _ a ha => ?_⟩))
      exact q (upd F a (.tup (vs ++ vs'))) _ _ (same_upd (rl.ex.free ha)) (rl.new ha) (.tup upd_same ((g2.append g2').mono (same_upd (rl.ex.free ha))))
    · cases e
  · rename_i x' y' h1 h2
    split at e
    · rename_i hl
      cases e
      exact .inr (.inr (.inr ⟨x', y', (look_ok rl w1 h1).str, (look_ok rl w2 h2).str, hl, q F H _ (Same.refl F) rl (.str _)⟩))
    · cases e
  · cases e
end
section
variable {X : Cx} {a b : Expr} {pos : Pos} {f g : SE}
theorem opr_add : OpR X (binaryOp .Add) (rAddZ X.K) := OpR.or op_add (OpR.or op_cat (OpR.or op_catT op_add_str))
def sAdd : SE → SE → SE := op2 oAdd
theorem z_add (ha : PE X a (tI X.K f)) (hb : PE X b (tI X.K g)) : PE X (.BinOp a .Add b pos) (tI X.K (sAdd f g)) := z_op opr_add os_add ha hb
def sSub : SE → SE → SE := op2 (i2 fun i j => .int (i - j))
theorem z_sub (ha : PE X a (tI X.K f)) (hb : PE X b (tI X.K g)) : PE X (.BinOp a .Sub b pos) (tI X.K (sSub f g)) := z_op op_sub (os_i2 fun _ _ _ => .int _) ha hb
/-- what the size of a product asks -/
def mulOk (i j : Int) : Bool := Nat.ble i.natAbs (2 ^ 63) || (Nat.ble j.natAbs (2 ^ 63) || Nat.ble (i.natAbs.log2 + j.natAbs.log2) 999999)
theorem mulOk_c {i j : Int} (h : mulOk i j = true) : (-(2 ^ 64) < i ∧ i < 2 ^ 64) ∨ (-(2 ^ 64) < j ∧ j < 2 ^ 64) ∨ i.natAbs.log2 + j.natAbs.log2 < 1000000 := by
  unfold mulOk at h
  rw [Bool.or_eq_true, Bool.or_eq_true] at h
  rcases h with h | h | h
  · have := Nat.le_of_ble_eq_true h
    omega
  · have := Nat.le_of_ble_eq_true h
    omega
  · have := Nat.le_of_ble_eq_true h
    omega
def rMulZ : R2 := fun x y H Q => rI CMul (fun i j => .int (i * j)) x y H Q ∨ rI CMulW (fun i j => .int (i * j)) x y H Q
theorem os_mul {K : PySem.W.Frag} : OpS K rMulZ (i2c mulOk fun i j => .int (i * j)) := by
  intro F m S P H x y v u z Q rl w1 w2 e q
  unfold i2c at e
  split at e
  · rename_i i j h1 h2
    split at e
    · rename_i hij
      cases e
      have hij := mulOk_c hij
      have l1 := (look_ok rl w1 h1).int
      have l2 := (look_ok rl w2 h2).int
      rcases hij with h | h | h
      · exact .inl ⟨i, j, l1, l2, .inl h, q F H _ (Same.refl F) rl (.int _)⟩
      · exact .inl ⟨i, j, l1, l2, .inr h, q F H _ (Same.refl F) rl (.int _)⟩
      · exact .inr ⟨i, j, l1, l2, h, q F H _ (Same.refl F) rl (.int _)⟩
    · cases e
  · cases e
def sMul : SE → SE → SE := op2 (i2c mulOk fun i j => .int (i * j))
theorem z_mul (ha : PE X a (tI X.K f)) (hb : PE X b (tI X.K g)) : PE X (.BinOp a .Mult b pos) (tI X.K (sMul f g)) := z_op (OpR.or op_mul op_mulW) os_mul ha hb
def divOk (_ j : Int) : Bool := decide (0 < j) && decide (j.natAbs.log2 < 9000)
def sDiv : SE → SE → SE := op2 (i2c divOk fun i j => .int (i / j))
theorem z_div (ha : PE X a (tI X.K f)) (hb : PE X b (tI X.K g)) : PE X (.BinOp a .FloorDiv b pos) (tI X.K (sDiv f g)) :=
  z_op op_fdivW (os_i2c (fun i j h => by unfold divOk at h; rw [Bool.and_eq_true, decide_eq_true_eq, decide_eq_true_eq] at h; exact h) fun _ _ _ => .int _) ha hb
def sMod : SE → SE → SE := op2 (i2c (fun _ j => decide (0 < j)) fun i j => .int (i % j))
theorem z_mod (ha : PE X a (tI X.K f)) (hb : PE X b (tI X.K g)) : PE X (.BinOp a .Mod b pos) (tI X.K (sMod f g)) :=
  z_op op_mod (os_i2c (fun i j h => of_decide_eq_true h) fun _ _ _ => .int _) ha hb
def powOk (i j : Int) : Bool := decide (0 ≤ j) && (Nat.ble j.natAbs 1000000 && Nat.ble i.natAbs (2 ^ 63))
theorem powOk_c {i j : Int} (h : powOk i j = true) : 0 ≤ j ∧ (j ≤ 1000000 ∧ i.natAbs < 2 ^ 64) := by
  unfold powOk at h
  rw [Bool.and_eq_true, Bool.and_eq_true, decide_eq_true_eq] at h
  have h1 := Nat.le_of_ble_eq_true h.2.1
  have h2 := Nat.le_of_ble_eq_true h.2.2
  omega
def sPow : SE → SE → SE := op2 (i2c powOk fun i j => .int (i ^ j.toNat))
theorem z_pow (ha : PE X a (tI X.K f)) (hb : PE X b (tI X.K g)) : PE X (.BinOp a .Pow b pos) (tI X.K (sPow f g)) :=
  z_op op_pow (os_i2c (fun i j h => powOk_c h) fun _ _ _ => .int _) ha hb
def oNeg : W → Sto → Option W := fun x S => match look x S with
  | some (.int i) => some (.pu (.int (-i)))
  | _ => none
def sNeg : SE → SE := op1 oNeg
theorem z_neg (ha : PE X a (tI X.K f)) : PE X (.UnaryOp .USub a pos) (tI X.K (sNeg f)) := by
  refine z_un un_neg ?_ ha
  intro F m S P H x v z Q rl w1 e q
  unfold oNeg at e
  split at e
  · rename_i i h1
    cases e
    exact ⟨i, (look_ok rl w1 h1).int, q F H _ (Same.refl F) rl (.int _)⟩
  · cases e
/-! comparisons -/
def sLt : SE → SE → SE := op2 (i2 fun i j => .bool (decide (i < j)))
def sLe : SE → SE → SE := op2 (i2 fun i j => .bool (decide (i ≤ j)))
def sGt : SE → SE → SE := op2 (i2 fun i j => .bool (decide (j < i)))
def sGe : SE → SE → SE := op2 (i2 fun i j => .bool (decide (j ≤ i)))
theorem opr_lt : OpR X (compareOp .Lt) (rI0 fun i j => .bl (decide (i < j))) := opB0 fun _ _ _ _ _ _ _ q => PyProof.Rows.lt_int q
theorem opr_le : OpR X (compareOp .LtE) (rI0 fun i j => .bl (decide (i ≤ j))) := opB0 fun _ _ _ _ _ _ _ q => PyProof.Rows.le_int q
theorem opr_gt : OpR X (compareOp .Gt) (rI0 fun i j => .bl (decide (j < i))) := opB0 fun _ _ _ _ _ _ _ q => PyProof.Rows.gt_int q
theorem opr_ge : OpR X (compareOp .GtE) (rI0 fun i j => .bl (decide (j ≤ i))) := opB0 fun _ _ _ _ _ _ _ q => PyProof.Rows.ge_int q
theorem z_lt (ha : PE X a (tI X.K f)) (hb : PE X b (tI X.K g)) : PE X (.Compare a [.Lt] [b] pos) (tI X.K (sLt f g)) := z_cmp opr_lt (os_i2 fun _ _ _ => .bl _) ha hb (nomark _)
theorem z_le (ha : PE X a (tI X.K f)) (hb : PE X b (tI X.K g)) : PE X (.Compare a [.LtE] [b] pos) (tI X.K (sLe f g)) := z_cmp opr_le (os_i2 fun _ _ _ => .bl _) ha hb (nomark _)
theorem z_gt (ha : PE X a (tI X.K f)) (hb : PE X b (tI X.K g)) : PE X (.Compare a [.Gt] [b] pos) (tI X.K (sGt f g)) := z_cmp opr_gt (os_i2 fun _ _ _ => .bl _) ha hb (nomark _)
theorem z_ge (ha : PE X a (tI X.K f)) (hb : PE X b (tI X.K g)) : PE X (.Compare a [.GtE] [b] pos) (tI X.K (sGe f g)) := z_cmp opr_ge (os_i2 fun _ _ _ => .bl _) ha hb (nomark _)
def oEq (neg : Bool) : W → W → Sto → Option W := fun x y S => match look x S, look y S with
  | some d, some e => if (SeqAt.shaped d && SeqAt.shaped e) = true then some (.pu (.bool (neg != PyData.eqv d e))) else none
  | _, _ => none
theorem os_eq {K : PySem.W.Frag} : OpS K (rEqD K) (oEq false) := by
  intro F m S P H x y v u z Q rl w1 w2 e q
  unfold oEq at e
  split at e
  · rename_i d d' h1 h2
    split at e
    · rename_i hs
      cases e
      rw [Bool.and_eq_true] at hs
      refine ⟨d, d', (look_ok rl w1 h1).dp rl.ex, (look_ok rl w2 h2).dp rl.ex, hs.1, hs.2, q F H _ (Same.refl F) rl ?_⟩
      rw [Bool.false_bne]
      exact .bl _
    · cases e
  · cases e
theorem os_ne {K : PySem.W.Frag} : OpS K (rNeD K) (oEq true) := by
  intro F m S P H x y v u z Q rl w1 w2 e q
  unfold oEq at e
  split at e
  · rename_i d d' h1 h2
    split at e
    · rename_i hs
      cases e
      rw [Bool.and_eq_true] at hs
      refine ⟨d, d', (look_ok rl w1 h1).dp rl.ex, (look_ok rl w2 h2).dp rl.ex, hs.1, hs.2, q F H _ (Same.refl F) rl ?_⟩
      rw [Bool.true_bne]
      exact .bl _
    · cases e
  · cases e
def sEq : SE → SE → SE := op2 (oEq false)
def sNe : SE → SE → SE := op2 (oEq true)
theorem z_eq (hu : X.A.units + 64 < cLine) (ha : PE X a (tI X.K f)) (hb : PE X b (tI X.K g)) : PE X (.Compare a [.Eq] [b] pos) (tI X.K (sEq f g)) := z_cmp (op_eqD hu) os_eq ha hb (nomark _)
theorem z_ne (hu : X.A.units + 64 < cLine) (ha : PE X a (tI X.K f)) (hb : PE X b (tI X.K g)) : PE X (.Compare a [.NotEq] [b] pos) (tI X.K (sNe f g)) := z_cmp (op_neD hu) os_ne ha hb (nomark _)
/-- is None -/
def isNon : W → Bool
  | .pu .none => true
  | _ => false
theorem isNon_ok {K : PySem.W.Frag} {F : Hp} {m : Nat → Addr × Bool} {n : Nat} {v : V} {w : W} (h : WR K F m n v w) : decide (v = .non) = isNon w := by
  cases w with
  | pu d => cases d <;> cases h <;> rfl
  | mu i => obtain ⟨rfl, _⟩ := h; rfl
  | sq ns => obtain ⟨a, rfl, _⟩ := h; rfl
  | ml is => obtain ⟨a, rfl, _⟩ := h; rfl
  | dk j => obtain ⟨rfl, _⟩ := h; rfl
def sIsN : SE → SE := op1 fun x _ => some (.pu (.bool (isNon x)))
def sNotN : SE → SE := op1 fun x _ => some (.pu (.bool (!isNon x)))
theorem z_isN {j p} (ha : PE X a (tI X.K f)) : PE X (.Compare a [.Is] [.Constant .none j p] pos) (tI X.K (sIsN f)) := by
  refine pe_imp (pe_cmp (pc_isN ha) rfl) fun σ H Q h => op1_ok (r := fun x H Q => Q (.bl (decide (x = .non))) H) (fun F m S P H x v z Q rl w e q => ?_) σ H Q h
  cases e
  have q' := q F H (.bl (isNon x)) (Same.refl F) rl (.bl _)
  show Q (.bl (decide (v = .non))) H
  rw [isNon_ok w]
  exact q'
theorem z_notN {j p} (ha : PE X a (tI X.K f)) : PE X (.Compare a [.IsNot] [.Constant .none j p] pos) (tI X.K (sNotN f)) := by
  refine pe_imp (pe_cmp (pc_notN ha) rfl) fun σ H Q h => op1_ok (r := fun x H Q => Q (.bl (!decide (x = .non))) H) (fun F m S P H x v z Q rl w e q => ?_) σ H Q h
  cases e
  have q' := q F H (.bl (!isNon x)) (Same.refl F) rl (.bl _)
  show Q (.bl (!decide (v = .non))) H
  rw [isNon_ok w]
  exact q'
/-! xs[i] -/
def oIx : W → W → Sto → Option W := fun x y S => match lookL x S, look y S with
  | some ds, some (.int i) => (atI ds i).map .pu
  | _, _ => none
theorem atI_len {α β : Type} {xs : List α} {ys : List β} (h : xs.length = ys.length) (i : Int) : ixN xs.length i = ixN ys.length i := by rw [h]
theorem os_ix {K : PySem.W.Frag} : OpS K (rIx K) oIx := by
  intro F m S P H x y v u z Q rl w1 w2 e q
  unfold oIx at e
  split at e
  · rename_i ds i h1 h2
    obtain ⟨d, hd, rfl⟩ := Option.map_eq_some_iff.mp e
    obtain ⟨p, vs, rfl, g1, g2⟩ := lookL_ok rl w1 h1
    obtain rfl := (look_ok rl w2 h2).int
    have hv : ∃ t, atI vs i = some t ∧ At F t d := by
      unfold atI at hd ⊢
      rw [← g2.length] at hd
      cases q : ixN vs.length i with
      | none => rw [q] at hd; cases hd
      | some j =>
        rw [q] at hd
        exact g2.get hd
    obtain ⟨t, ht, hat⟩ := hv
    rcases g1 with g1 | g1
    · exact .inl ⟨p, vs, i, t, rfl, rfl, g1, ht, q F H t (Same.refl F) rl hat⟩
    · exact .inr (.inl ⟨p, vs, i, t, rfl, rfl, g1, ht, q F H t (Same.refl F) rl hat⟩)
  · cases e
def sIx : SE → SE → SE := op2 oIx
theorem z_sub_ix (ha : PE X a (tI X.K f)) (hb : PE X b (tI X.K g)) (hs : PlainIx b) : PE X (.Subscript a b pos) (tI X.K (sIx f g)) := z_ix ix_seq os_ix ha hb hs
end
end Z

namespace Z
open PySem L2

/-! ### truth, tests -/
def truth : W → Sto → Option Bool
  | .pu .none, _ => some false
  | .pu (.bool b), _ => some b
  | .pu (.int i), _ => some (i != 0)
  | .pu (.list ds), _ => some (!ds.isEmpty)
  | .pu (.tuple ds), _ => some (!ds.isEmpty)
  | .mu i, S => (S[i]?).map fun p => !p.2.isEmpty
  | .sq ns, _ => some (!ns.isEmpty)
  | _, _ => none
theorem isEmpty_len {α β : Type} : ∀ {xs : List α} {ys : List β}, xs.length = ys.length → xs.isEmpty = ys.isEmpty
  | [], [], _ => rfl
  | _ :: _, _ :: _, _ => rfl
theorem truth_ok {K : PySem.W.Frag} {F : Hp} {m : Nat → Addr × Bool} {S : Sto} {P : Pn} {H : Hp} {n : Nat} {v : V} {w : W} {b : Bool} (r : Rl F m S P H) (h : WR K F m n v w) (e : truth w S = some b) : TruV K v H b := by
  have lst : ∀ {ds : List PyData}, lookL w S = some ds → b = !ds.isEmpty → TruV K v H b := fun {ds} h1 h2 => by
    obtain ⟨a, vs, rfl, g, ga⟩ := lookL_ok r h h1
    rw [← isEmpty_len ga.length] at h2
    rcases g with g | g
    · exact .inl ⟨vs, g, h2⟩
    · exact .inr (.inl ⟨vs, g, h2⟩)
  cases w with
  | pu d =>
    cases d with
    | none => cases e; cases h; exact rfl
    | bool b' => cases e; cases h; exact rfl
    | int i => cases e; cases h; exact rfl
    | list ds => cases e; exact lst rfl rfl
    | tuple ds => cases e; exact lst rfl rfl
    | _ => cases e
  | mu i =>
    have e : (S[i]?).map (fun p => !p.2.isEmpty) = some b := e
    obtain ⟨p, h1, h2⟩ := Option.map_eq_some_iff.mp e
    exact lst (ds := p.2) (by show (S[i]?).map (fun p => p.2) = _; rw [h1]; rfl) h2.symm
  | sq ns =>
    cases e
    exact lst (ds := ns.map .int) rfl (by rw [isEmpty_len (List.length_map _)])
  | ml is => cases e
  | dk j => cases e
def tIT (K : PySem.W.Frag) (f : SE) : TT := fun σ H Q => ∃ F m S P en w S' b, Rl F m S P H ∧ ER K F m S.length en σ ∧ f.run en S = some (w, S') ∧ truth w S' = some b ∧
  ∀ F' m' H', Up F m S.length F' m' → Rl F' m' S' P H' → Q b H'
section
variable {X : Cx} {e a b : Expr} {pos : Pos} {f g c : SE}
theorem zt (h : PE X e (tI X.K f)) (he : ∀ whole, isTrue e X.env whole = (do let v ← whole; standAt e.pos; holding [v] (truthy v)) := by intro _; rfl) : PT X e (tIT X.K f) := by
  refine pt_imp (pt_truth h he) fun σ H Q ⟨F, m, S, P, en, w, S', b, rl, er, run, tr, q⟩ => ?_
  exact ⟨F, m, S, P, en, w, S', rl, er, run, fun F1 m1 H1 v u1 rl1 wr1 => ⟨b, truth_ok rl1 wr1 tr, q F1 m1 H1 u1 rl1⟩⟩
def sNot : SE → SE := op1 fun x S => (truth x S).map fun b => .pu (.bool (!b))
theorem zt_not (h : PT X a (tIT X.K f)) : PT X (.UnaryOp .Not a pos) (tIT X.K (sNot f)) := by
  refine pt_imp (pt_not h) fun σ H Q ⟨F, m, S, P, en, w, S', b, rl, er, run, tr, q⟩ => ?_
  obtain ⟨⟨x, S1⟩, h1, h⟩ := bind_some_of run
  obtain ⟨z, h3, h⟩ := Option.map_eq_some_iff.mp h
  cases h
  obtain ⟨k, h4, h5⟩ := Option.map_eq_some_iff.mp h3
  subst h5
  cases tr
  exact ⟨F, m, S, P, en, x, S1, k, rl, er, h1, h4, fun F1 m1 H1 u1 rl1 => q F1 m1 H1 u1 rl1⟩
theorem z_not (h : PE X a (tI X.K f)) : PE X (.UnaryOp .Not a pos) (tI X.K (sNot f)) := by
  refine pe_imp (pe_notT h) fun σ H Q h => op1_ok (r := fun x H Q => ∃ k, TruV X.K x H k ∧ Q (.bl (!k)) H) (fun F m S P H x v z Q rl w e q => ?_) σ H Q h
  obtain ⟨k, h4, h5⟩ := Option.map_eq_some_iff.mp e
  subst h5
  exact ⟨k, truth_ok rl w h4, q F H _ (Same.refl F) rl (.bl _)⟩
def sAnd (f g : SE) : SE := ⟨fun en S => (f.run en S).bind fun p => (truth p.1 p.2).bind fun b => if b = true then g.run en p.2 else some p, fun {en S w S'} h => by
  obtain ⟨p, h1, h⟩ := bind_some_of h
  obtain ⟨b, h2, h⟩ := bind_some_of h
  cases b with
  | true => exact Nat.le_trans (f.mono h1) (g.mono h)
  | false => cases h; exact f.mono h1⟩
def sOr (f g : SE) : SE := ⟨fun en S => (f.run en S).bind fun p => (truth p.1 p.2).bind fun b => if b = true then some p else g.run en p.2, fun {en S w S'} h => by
  obtain ⟨p, h1, h⟩ := bind_some_of h
  obtain ⟨b, h2, h⟩ := bind_some_of h
  cases b with
  | false => exact Nat.le_trans (f.mono h1) (g.mono h)
  | true => cases h; exact f.mono h1⟩
theorem pw_imp {t t' : TT} (h : PW X e t) (i : ∀ σ H Q, t' σ H Q → t σ H Q) : PW X e t' := ⟨fun wh pins s σ H Q I q => h.run wh pins s σ H Q I (i σ H Q q)⟩
theorem zw_and {rest : List Expr} (ha : PT X a (tIT X.K f)) (hb : PW X (.BoolOp .And (b :: rest) pos) (tIT X.K g)) : PW X (.BoolOp .And (a :: b :: rest) pos) (tIT X.K (sAnd f g)) := by
  refine pw_imp (pw_and ha hb) fun σ H Q ⟨F, m, S, P, en, w, S', k, rl, er, run, tr, q⟩ => ?_
  obtain ⟨⟨x, S1⟩, h1, h⟩ := bind_some_of run
  obtain ⟨b, h2, h⟩ := bind_some_of h
  refine ⟨F, m, S, P, en, x, S1, b, rl, er, h1, h2, fun F1 m1 H1 u1 rl1 => ?_⟩
  cases b with
  | true => exact iteT ⟨F1, m1, S1, P, en, w, S', k, rl1, er.up u1 (f.mono h1), h, tr, fun F2 m2 H2 u2 rl2 => q F2 m2 H2 (u1.trans u2 (f.mono h1)) rl2⟩
  | false =>
    cases h
    have h2' : truth w S' = some false := h2
    rw [h2'] at tr
    cases tr
    exact iteF (q F1 m1 H1 u1 rl1)
theorem zw_or {rest : List Expr} (ha : PT X a (tIT X.K f)) (hb : PW X (.BoolOp .Or (b :: rest) pos) (tIT X.K g)) : PW X (.BoolOp .Or (a :: b :: rest) pos) (tIT X.K (sOr f g)) := by
  refine pw_imp (pw_or ha hb) fun σ H Q ⟨F, m, S, P, en, w, S', k, rl, er, run, tr, q⟩ => ?_
  obtain ⟨⟨x, S1⟩, h1, h⟩ := bind_some_of run
  obtain ⟨b, h2, h⟩ := bind_some_of h
  refine ⟨F, m, S, P, en, x, S1, b, rl, er, h1, h2, fun F1 m1 H1 u1 rl1 => ?_⟩
  cases b with
  | false => exact iteF ⟨F1, m1, S1, P, en, w, S', k, rl1, er.up u1 (f.mono h1), h, tr, fun F2 m2 H2 u2 rl2 => q F2 m2 H2 (u1.trans u2 (f.mono h1)) rl2⟩
  | true =>
    cases h
    have h2' : truth w S' = some true := h2
    rw [h2'] at tr
    cases tr
    exact iteT (q F1 m1 H1 u1 rl1)
theorem zw_and1 (ha : PT X a (tIT X.K f)) : PW X (.BoolOp .And [a] pos) (tIT X.K f) := pw_and1 ha
theorem zw_or1 (ha : PT X a (tIT X.K f)) : PW X (.BoolOp .Or [a] pos) (tIT X.K f) := pw_or1 ha
theorem z_and {rest : List Expr} (ha : PE X a (tI X.K f)) (hb : PE X (.BoolOp .And (b :: rest) pos) (tI X.K g)) : PE X (.BoolOp .And (a :: b :: rest) pos) (tI X.K (sAnd f g)) := by
  refine pe_imp (pe_andT ha hb) fun σ H Q ⟨F, m, S, P, en, w, S', rl, er, run, q⟩ => ?_
  obtain ⟨⟨x, S1⟩, h1, h⟩ := bind_some_of run
  obtain ⟨b, h2, h⟩ := bind_some_of h
  refine ⟨F, m, S, P, en, x, S1, rl, er, h1, fun F1 m1 H1 v u1 rl1 wr1 => ⟨b, truth_ok rl1 wr1 h2, ?_⟩⟩
  cases b with
  | true => exact iteT ⟨F1, m1, S1, P, en, w, S', rl1, er.up u1 (f.mono h1), h, fun F2 m2 H2 v2 u2 rl2 wr2 => q F2 m2 H2 v2 (u1.trans u2 (f.mono h1)) rl2 wr2⟩
  | false =>
    cases h
    exact iteF (q F1 m1 H1 v u1 rl1 wr1)
theorem z_or {rest : List Expr} (ha : PE X a (tI X.K f)) (hb : PE X (.BoolOp .Or (b :: rest) pos) (tI X.K g)) : PE X (.BoolOp .Or (a :: b :: rest) pos) (tI X.K (sOr f g)) := by
  refine pe_imp (pe_orT ha hb) fun σ H Q ⟨F, m, S, P, en, w, S', rl, er, run, q⟩ => ?_
  obtain ⟨⟨x, S1⟩, h1, h⟩ := bind_some_of run
  obtain ⟨b, h2, h⟩ := bind_some_of h
  refine ⟨F, m, S, P, en, x, S1, rl, er, h1, fun F1 m1 H1 v u1 rl1 wr1 => ⟨b, truth_ok rl1 wr1 h2, ?_⟩⟩
  cases b with
  | false => exact iteF ⟨F1, m1, S1, P, en, w, S', rl1, er.up u1 (f.mono h1), h, fun F2 m2 H2 v2 u2 rl2 wr2 => q F2 m2 H2 v2 (u1.trans u2 (f.mono h1)) rl2 wr2⟩
  | true =>
    cases h
    exact iteT (q F1 m1 H1 v u1 rl1 wr1)
theorem z_one {op} (h : PE X a (tI X.K f)) : PE X (.BoolOp op [a] pos) (tI X.K f) := pe_one h
def sIte (c f g : SE) : SE := ⟨fun en S => (c.run en S).bind fun p => (truth p.1 p.2).bind fun b => if b = true then f.run en p.2 else g.run en p.2, fun {en S w S'} h => by
  obtain ⟨p, h1, h⟩ := bind_some_of h
  obtain ⟨b, h2, h⟩ := bind_some_of h
  cases b with
  | true => exact Nat.le_trans (c.mono h1) (f.mono h)
  | false => exact Nat.le_trans (c.mono h1) (g.mono h)⟩
theorem z_if {t : Expr} (hc : PT X t (tIT X.K c)) (ha : PE X a (tI X.K f)) (hb : PE X b (tI X.K g)) : PE X (.IfExp t a b pos) (tI X.K (sIte c f g)) := by
  refine pe_imp (pe_ifExp hc ha hb) fun σ H Q ⟨F, m, S, P, en, w, S', rl, er, run, q⟩ => ?_
  obtain ⟨⟨x, S1⟩, h1, h⟩ := bind_some_of run
  obtain ⟨b, h2, h⟩ := bind_some_of h
  refine ⟨F, m, S, P, en, x, S1, b, rl, er, h1, h2, fun F1 m1 H1 u1 rl1 => ?_⟩
  cases b with
  | true => exact iteT ⟨F1, m1, S1, P, en, w, S', rl1, er.up u1 (c.mono h1), h, fun F2 m2 H2 v2 u2 rl2 wr2 => q F2 m2 H2 v2 (u1.trans u2 (c.mono h1)) rl2 wr2⟩
  | false => exact iteF ⟨F1, m1, S1, P, en, w, S', rl1, er.up u1 (c.mono h1), h, fun F2 m2 H2 v2 u2 rl2 wr2 => q F2 m2 H2 v2 (u1.trans u2 (c.mono h1)) rl2 wr2⟩
end

/-! ### comparisons as tests -/
def Bl (f : SE) : Prop := ∀ en S w S', f.run en S = some (w, S') → ∃ b, w = .pu (.bool b)
theorem zt_of {X : Cx} {e : Expr} {f : SE} {t : TE} (h : PT X e (fun σ H Q => t σ H fun x H' => ∃ k, x = .bl k ∧ Q k H')) (i : ∀ σ H Q, tI X.K f σ H Q → t σ H Q) (hb : Bl f) : PT X e (tIT X.K f) := by
  refine pt_imp h fun σ H Q ⟨F, m, S, P, en, w, S', k, rl, er, run, tr, q⟩ => ?_
  refine i σ H _ ⟨F, m, S, P, en, w, S', rl, er, run, fun F1 m1 H1 v u1 rl1 wr1 => ?_⟩
  obtain ⟨b, rfl⟩ := hb _ _ _ _ run
  cases tr
  cases wr1
  exact ⟨k, rfl, q F1 m1 H1 u1 rl1⟩
theorem bl_op2 {o : W → W → Sto → Option W} {f g : SE} (h : ∀ x y S z, o x y S = some z → ∃ b, z = .pu (.bool b)) : Bl (op2 o f g) := by
  intro en S w S' run
  obtain ⟨⟨x, S1⟩, h1, e⟩ := bind_some_of run
  obtain ⟨⟨y, S2⟩, h2, e⟩ := bind_some_of e
  obtain ⟨z, h3, e⟩ := Option.map_eq_some_iff.mp e
  cases e
  exact h _ _ _ _ h3
theorem i2_bl {g : Int → Int → Bool} : ∀ x y S z, i2 (fun i j => .bool (g i j)) x y S = some z → ∃ b, z = .pu (.bool b) := by
  intro x y S z h
  unfold i2 at h
  split at h
  · cases h
    exact ⟨_, rfl⟩
  · cases h
theorem eq_bl {n : Bool} : ∀ x y S z, oEq n x y S = some z → ∃ b, z = .pu (.bool b) := by
  intro x y S z h
  unfold oEq at h
  split at h
  · split at h
    · cases h
      exact ⟨_, rfl⟩
    · cases h
  · cases h
section
variable {X : Cx} {a b : Expr} {pos : Pos} {f g : SE}
theorem zt_cmp {op : CmpOp} {r : R2} {o : W → W → Sto → Option W} (hr : OpR X (compareOp op) r) (ho : OpS X.K r o) (hb' : ∀ x y S z, o x y S = some z → ∃ b, z = .pu (.bool b)) (ha : PE X a (tI X.K f)) (hb : PE X b (tI X.K g)) (hm : behindInMarks op b = false) : PT X (.Compare a [op] [b] pos) (tIT X.K (op2 o f g)) :=
  zt_of (t := tOp r (tI X.K f) (tI X.K g)) (pt_cmpR hr ha hb hm) (op2_ok ho) (bl_op2 hb')
theorem zt_lt (ha : PE X a (tI X.K f)) (hb : PE X b (tI X.K g)) : PT X (.Compare a [.Lt] [b] pos) (tIT X.K (sLt f g)) := zt_cmp opr_lt (os_i2 fun _ _ _ => .bl _) i2_bl ha hb (nomark _)
theorem zt_le (ha : PE X a (tI X.K f)) (hb : PE X b (tI X.K g)) : PT X (.Compare a [.LtE] [b] pos) (tIT X.K (sLe f g)) := zt_cmp opr_le (os_i2 fun _ _ _ => .bl _) i2_bl ha hb (nomark _)
theorem zt_gt (ha : PE X a (tI X.K f)) (hb : PE X b (tI X.K g)) : PT X (.Compare a [.Gt] [b] pos) (tIT X.K (sGt f g)) := zt_cmp opr_gt (os_i2 fun _ _ _ => .bl _) i2_bl ha hb (nomark _)
theorem zt_ge (ha : PE X a (tI X.K f)) (hb : PE X b (tI X.K g)) : PT X (.Compare a [.GtE] [b] pos) (tIT X.K (sGe f g)) := zt_cmp opr_ge (os_i2 fun _ _ _ => .bl _) i2_bl ha hb (nomark _)
theorem zt_eq (hu : X.A.units + 64 < cLine) (ha : PE X a (tI X.K f)) (hb : PE X b (tI X.K g)) : PT X (.Compare a [.Eq] [b] pos) (tIT X.K (sEq f g)) := zt_cmp (op_eqD hu) os_eq eq_bl ha hb (nomark _)
theorem zt_ne (hu : X.A.units + 64 < cLine) (ha : PE X a (tI X.K f)) (hb : PE X b (tI X.K g)) : PT X (.Compare a [.NotEq] [b] pos) (tIT X.K (sNe f g)) := zt_cmp (op_neD hu) os_ne eq_bl ha hb (nomark _)
theorem bl_op1 {o : W → Bool} : Bl (op1 (fun x _ => some (.pu (.bool (o x)))) f) := by
  intro en S w S' run
  obtain ⟨⟨x, S1⟩, h1, e⟩ := bind_some_of run
  obtain ⟨z, h3, e⟩ := Option.map_eq_some_iff.mp e
  cases h3
  cases e
  exact ⟨_, rfl⟩
theorem zt_isN {j p} (ha : PE X a (tI X.K f)) : PT X (.Compare a [.Is] [.Constant .none j p] pos) (tIT X.K (sIsN f)) := by
  refine zt_of (t := tIsN (tI X.K f)) (pt_cmp (pc_isN ha) rfl) (fun σ H Q h => op1_ok (r := fun x H Q => Q (.bl (decide (x = .non))) H) (fun F m S P H x v z Q rl w e q => ?_) σ H Q h) bl_op1
  cases e
  have q' := q F H (.bl (isNon x)) (Same.refl F) rl (.bl _)
  show Q (.bl (decide (v = .non))) H
  rw [isNon_ok w]
  exact q'
theorem zt_notN {j p} (ha : PE X a (tI X.K f)) : PT X (.Compare a [.IsNot] [.Constant .none j p] pos) (tIT X.K (sNotN f)) := by
  refine zt_of (t := tNotN (tI X.K f)) (pt_cmp (pc_notN ha) rfl) (fun σ H Q h => op1_ok (r := fun x H Q => Q (.bl (!decide (x = .non))) H) (fun F m S P H x v z Q rl w e q => ?_) σ H Q h) (bl_op1 (o := fun x => !isNon x))
  cases e
  have q' := q F H (.bl (!isNon x)) (Same.refl F) rl (.bl _)
  show Q (.bl (!decide (v = .non))) H
  rw [isNon_ok w]
  exact q'
end

/-! ### arguments, displays -/
def aNil : SA := ⟨fun _ S => some ([], S), fun h => by cases h; exact Nat.le_refl _⟩
def aCons (f : SE) (r : SA) : SA := ⟨fun en S => (f.run en S).bind fun p => (r.run en p.2).map fun q => (p.1 :: q.1, q.2), fun {en S w S'} h => by
  obtain ⟨p, h1, h⟩ := bind_some_of h
  obtain ⟨z, h3, h⟩ := Option.map_eq_some_iff.mp h
  cases h
  exact Nat.le_trans (f.mono h1) (r.mono h3)⟩
section
variable {X : Cx} {e a b : Expr} {es : List Expr} {pos : Pos} {f g c : SE} {r : SA}
theorem za_nil : PA X [] (tIA X.K aNil) := pa_imp pa_nil fun σ H Q ⟨F, m, S, P, en, w, S', rl, er, run, q⟩ => by
  cases run
  exact q F m H [] (Up.refl _ _ _) rl .nil
theorem za_cons (ha : PE X e (tI X.K f)) (hr : PA X es (tIA X.K r)) (hs : starEach (e :: es) X.env = (false, eval e X.env) :: starEach es X.env := by rfl) : PA X (e :: es) (tIA X.K (aCons f r)) := by
  refine pa_imp (pa_cons ha hr hs) fun σ H Q ⟨F, m, S, P, en, w, S', rl, er, run, q⟩ => ?_
  obtain ⟨⟨x, S1⟩, h1, h⟩ := bind_some_of run
  obtain ⟨⟨xs, S2⟩, h3, h⟩ := Option.map_eq_some_iff.mp h
  cases h
  refine ⟨F, m, S, P, en, x, S1, rl, er, h1, fun F1 m1 H1 v u1 rl1 wr1 => ⟨F1, m1, S1, P, en, xs, S2, rl1, er.up u1 (f.mono h1), h3, fun F2 m2 H2 vs u2 rl2 wr2 => ?_⟩⟩
  exact q F2 m2 H2 (v :: vs) (u1.trans u2 (f.mono h1)) rl2 (.cons (wr1.up u2 (r.mono h3)) wr2)
end
def fzs : List W → Sto → Option (List PyData × Sto)
  | [], S => some ([], S)
  | w :: ws, S => (fz w S).bind fun p => (fzs ws p.2).map fun q => (p.1 :: q.1, q.2)
theorem fzs_len : ∀ {ws : List W} {S S' : Sto} {ds : List PyData}, fzs ws S = some (ds, S') → S.length = S'.length
  | [], _, _, _, h => by cases h; rfl
  | w :: ws, S, S', ds, h => by
    obtain ⟨p, h1, h⟩ := bind_some_of h
    obtain ⟨z, h3, h⟩ := Option.map_eq_some_iff.mp h
    cases h
    exact (fz_len h1).trans (fzs_len h3)
theorem fzs_ok {K : PySem.W.Frag} {m : Nat → Addr × Bool} {P : Pn} {H : Hp} {n : Nat} : ∀ {ws : List W} {vs : List V} {F : Hp} {S S' : Sto} {ds : List PyData}, Rl F m S P H → WRs K F m n vs ws → fzs ws S = some (ds, S') →
    ∃ F', Same F F' ∧ Rl F' m S' P H ∧ AtAll F' vs ds
  | [], _, F, S, S', ds, r, h, e => by
    cases e
    cases h
    exact ⟨F, Same.refl F, r, .nil⟩
  | w :: ws, _, F, S, S', ds, r, h, e => by
    cases h with
    | cons h1 h2 =>
      obtain ⟨⟨d, S1⟩, g1, e⟩ := bind_some_of e
      obtain ⟨⟨ds', S2⟩, g3, e⟩ := Option.map_eq_some_iff.mp e
      cases e
      obtain ⟨F1, s1, r1, a1⟩ := fz_ok r h1 g1
      obtain ⟨F2, s2, r2, a2⟩ := fzs_ok r1 (WRs.up ⟨s1, fun _ _ => rfl⟩ (Nat.le_refl _) h2) g3
      exact ⟨F2, s1.trans s2, r2, .cons (a1.mono s2) a2⟩
def few (ws : List PyData) : Bool := decide (ws.length ≤ 100000)
theorem few_ok {ws : List PyData} (h : few ws = true) : ws.length ≤ sizeLine := Nat.le_trans (of_decide_eq_true h) (by decide)
def sTup (r : SA) : SE := ⟨fun en S => (r.run en S).bind fun p => (fzs p.1 p.2).bind fun q => if few q.1 = true then some (.pu (.tuple q.1), q.2) else none, fun {en S w S'} h => by
  obtain ⟨p, h1, h⟩ := bind_some_of h
  obtain ⟨q, h2, h⟩ := bind_some_of h
  split at h
  · cases h
    rw [← fzs_len h2]
    exact r.mono h1
  · cases h⟩
/-- a made list: plain, or to be changed -/
def mkL (mt : Bool) (ds : List PyData) (S : Sto) : W × Sto := if mt = true then (.mu S.length, S ++ [(true, ds)]) else (.pu (.list ds), S)
theorem mkL_len {mt : Bool} {ds : List PyData} {S : Sto} : S.length ≤ (mkL mt ds S).2.length := by
  cases mt with
  | true => show S.length ≤ (S ++ [(true, ds)]).length; simp
  | false => exact Nat.le_refl _
theorem mkL_ok {K : PySem.W.Frag} {F : Hp} {m : Nat → Addr × Bool} {S : Sto} {P : Pn} {H : Hp} {mt : Bool} {ds : List PyData} {vs : List V} {Q : V → Hp → Prop} (rl : Rl F m S P H) (ha : AtAll F vs ds)
    (q : ∀ F' m' H' v, Up F m S.length F' m' → Rl F' m' (mkL mt ds S).2 P H' → WR K F' m' (mkL mt ds S).2.length v (mkL mt ds S).1 → Q v H') : ∀ p, H p = none → Q (.ref p) (upd H p (.lst vs)) := by
  intro p hp
  cases mt with
  | true =>
    have mo : ∀ {i : Nat}, i < S.length → (fun i => if i = S.length then (p, false) else m i) i = m i := fun {i} hi => if_neg (by omega)
    have mn : (fun i => if i = S.length then (p, false) else m i) S.length = (p, false) := if_pos rfl
    exact q F (fun i => if i = S.length then (p, false) else m i) _ _ ⟨Same.refl F, fun i hi => mo hi⟩ (rl.newM hp ha mo mn) ⟨by rw [mn], by show S.length < (S ++ [(true, ds)]).length; simp, by rw [mn]⟩
  | false => exact q (upd F p (.lst vs)) m _ _ ⟨same_upd (rl.ex.free hp), fun _ _ => rfl⟩ (rl.new hp) (.lst upd_same (ha.mono (same_upd (rl.ex.free hp))))
def sLst (mt : Bool) (r : SA) : SE := ⟨fun en S => (r.run en S).bind fun p => (fzs p.1 p.2).bind fun q => if few q.1 = true then some (mkL mt q.1 q.2) else none, fun {en S w S'} h => by
  obtain ⟨p, h1, h⟩ := bind_some_of h
  obtain ⟨q, h2, h⟩ := bind_some_of h
  split at h
  · have e := Option.some.inj h
    have h3 := mkL_len (mt := mt) (ds := q.1) (S := q.2)
    rw [e] at h3
    rw [← fzs_len h2] at h3
    exact Nat.le_trans (r.mono h1) h3
  · cases h⟩
section
variable {X : Cx} {es : List Expr} {pos : Pos} {r : SA}
theorem z_tup {x1} (h : PA X es (tIA X.K r)) : PE X (.Tuple es x1 pos) (tI X.K (sTup r)) := by
  refine pe_imp (pe_tup h) fun σ H Q ⟨F, m, S, P, en, w, S', rl, er, run, q⟩ => ?_
  obtain ⟨⟨ws, S1⟩, h1, h⟩ := bind_some_of run
  obtain ⟨⟨ds, S2⟩, h2, h⟩ := bind_some_of h
  split at h
  · rename_i hf
    cases h
    refine ⟨F, m, S, P, en, ws, S1, rl, er, h1, fun F1 m1 H1 vs u1 rl1 wr1 => ?_⟩
    obtain ⟨F2, s2, rl2, at2⟩ := fzs_ok rl1 wr1 h2
    refine ⟨by rw [at2.length]; exact few_ok hf, fun p hp => ?_⟩
    have s3 := same_upd (o := HO.tup vs) (rl2.ex.free hp)
    exact q (upd F2 p (.tup vs)) m1 _ _ (u1.trans ⟨s2.trans s3, fun _ _ => rfl⟩ (r.mono h1)) (rl2.new hp) (.tup upd_same (at2.mono s3))
  · cases h
theorem z_lst (mt : Bool) (h : PA X es (tIA X.K r)) : PE X (.List es pos) (tI X.K (sLst mt r)) := by
  refine pe_imp (pe_lst h) fun σ H Q ⟨F, m, S, P, en, w, S', rl, er, run, q⟩ => ?_
  obtain ⟨⟨ws, S1⟩, h1, h⟩ := bind_some_of run
  obtain ⟨⟨ds, S2⟩, h2, h⟩ := bind_some_of h
  split at h
  · rename_i hf
    have e := Option.some.inj h
    refine ⟨F, m, S, P, en, ws, S1, rl, er, h1, fun F1 m1 H1 vs u1 rl1 wr1 => ?_⟩
    obtain ⟨F2, s2, rl2, at2⟩ := fzs_ok rl1 wr1 h2
    refine ⟨by rw [at2.length]; exact few_ok hf, mkL_ok (K := X.K) (mt := mt) rl2 at2 fun F3 m3 H3 v u3 rl3 wr3 => ?_⟩
    rw [e] at rl3 wr3
    refine q F3 m3 H3 v (u1.trans ((Up.trans ⟨s2, fun _ _ => rfl⟩ u3 (by rw [fzs_len h2]; exact Nat.le_refl _))) (r.mono h1)) rl3 wr3
  · cases h
end

/-! ### calls -/
structure FS where
  ar : Nat
  run : List W → Sto → Option (W × Sto)
  mono : ∀ {ws S w S'}, run ws S = some (w, S') → S.length ≤ S'.length
  arity : ∀ {ws S r}, run ws S = some r → ws.length = ar
def spI (K : PySem.W.Frag) (f : FS) : Sp := fun vs H Q _ => ∃ F m S P ws w S', Rl F m S P H ∧ WRs K F m S.length vs ws ∧ f.run ws S = some (w, S') ∧
  ∀ F' m' H' v, Up F m S.length F' m' → Rl F' m' S' P H' → WR K F' m' S'.length v w → Q v H'
theorem paired_len {α β : Type} {R : α → β → Prop} : ∀ {xs : List α} {ys : List β}, Paired R xs ys → xs.length = ys.length := fun h => Paired.length h
theorem spI_len {K : PySem.W.Frag} {f : FS} {vs : List V} {H : Hp} {Q : VK} {E : XK} (h : spI K f vs H Q E) : vs.length = f.ar := by
  obtain ⟨F, m, S, P, ws, w, S', rl, wr, run, q⟩ := h
  rw [paired_len wr]
  exact f.arity run
def fBad (n : Nat) : FS := ⟨n, fun _ _ => none, (fun h => nomatch h), (fun h => nomatch h)⟩
theorem ok_bad {P : Program} {w : World} {K : PySem.W.Frag} {mg : Str → Option Value} {base : Heap} {CX : CXT} {k : Nat} {f : Addr} {fd : FuncData} {ps : List Str} {n : Nat} : FnOk P w K mg base CX k f fd ps (spI K (fBad n)) :=
  ⟨(fun _ _ _ _ ⟨_, _, _, _, _, _, _, _, _, h, _⟩ => nomatch h), (fun _ _ _ _ _ _ _ _ _ _ _ _ _ ⟨_, _, _, _, _, _, _, _, _, h, _⟩ => nomatch h)⟩
def sCall (f : FS) (r : SA) : SE := ⟨fun en S => (r.run en S).bind fun p => f.run p.1 p.2, fun {en S w S'} h => by
  obtain ⟨p, h1, h⟩ := bind_some_of h
  exact Nat.le_trans (r.mono h1) (f.mono h)⟩
def sCallD (f : FS) (r : SA) (ds : List PyData) : SE := ⟨fun en S => (r.run en S).bind fun p => f.run (p.1 ++ ds.map .pu) p.2, fun {en S w S'} h => by
  obtain ⟨p, h1, h⟩ := bind_some_of h
  exact Nat.le_trans (r.mono h1) (f.mono h)⟩
section
variable {X : Cx} {k : Nat} {fa : Addr} {fd : FuncData} {ps : List Str} {x : Str} {p pos : Pos} {e : Expr} {es : List Expr} {f : FS} {r : SA}
theorem z_call (F : FnOk X.prog X.w X.K X.mg X.base CX0 k fa fd ps (spI X.K f)) (hr : Room k X.A) (hg : Gl X x) (hm : X.mg x = some (.ref fa)) (hk : PySem.W.keepIn X.K (.ref fa) = true) (hb : Binds X.K fd ps [])
    (ha : PA X (e :: es) (tIA X.K r)) (hdb : (x == ("__debug__" : Str)) = false := by decide) (he : starEach (e :: es) X.env = (false, eval e X.env) :: starEach es X.env := by rfl) (hpl : (backTo pos (starEach es X.env)).any (·.1) = false := by rfl) :
    PE X (.Call (.Name x p) (e :: es) [] pos) (tI X.K (sCall f r)) := by
  refine pe_imp (pe_call F hr hg hm hk hb .nil pass0 ha hdb he hpl) fun σ H Q ⟨F, m, S, P, en, w, S', rl, er, run, q⟩ => ?_
  obtain ⟨⟨ws, S1⟩, h1, h⟩ := bind_some_of run
  refine ⟨F, m, S, P, en, ws, S1, rl, er, h1, fun F1 m1 H1 vs u1 rl1 wr1 => ?_⟩
  show spI X.K f (vs ++ []) H1 Q E0
  rw [List.append_nil]
  exact ⟨F1, m1, S1, P, ws, w, S', rl1, wr1, h, fun F2 m2 H2 v u2 rl2 wr2 => q F2 m2 H2 v (u1.trans u2 (r.mono h1)) rl2 wr2⟩
theorem z_call0 (F : FnOk X.prog X.w X.K X.mg X.base CX0 k fa fd ps (spI X.K f)) (hr : Room k X.A) (hg : Gl X x) (hm : X.mg x = some (.ref fa)) (hk : PySem.W.keepIn X.K (.ref fa) = true) (hb : Binds X.K fd ps [])
    (hdb : (x == ("__debug__" : Str)) = false := by decide) : PE X (.Call (.Name x p) [] [] pos) (tI X.K (sCall f aNil)) := by
  refine pe_imp (pe_call0 F hr hg hm hk hb .nil pass0 hdb) fun σ H Q ⟨F, m, S, P, en, w, S', rl, er, run, q⟩ => ?_
  have h : f.run [] S = some (w, S') := run
  exact ⟨F, m, S, P, [], w, S', rl, .nil, h, fun F2 m2 H2 v u2 rl2 wr2 => q F2 m2 H2 v u2 rl2 wr2⟩
theorem z_callD {ds : List PyData} {dvs : List V} {dv : List Value} (F : FnOk X.prog X.w X.K X.mg X.base CX0 k fa fd ps (spI X.K f)) (hr : Room k X.A) (hg : Gl X x) (hm : X.mg x = some (.ref fa)) (hk : PySem.W.keepIn X.K (.ref fa) = true) (hb : Binds X.K fd ps dv) (hd : Vals dvs dv) (hD : ∀ F, AtAll F dvs ds)
    (ha : PA X (e :: es) (tIA X.K r)) (hdb : (x == ("__debug__" : Str)) = false := by decide) (he : starEach (e :: es) X.env = (false, eval e X.env) :: starEach es X.env := by rfl) (hpl : (backTo pos (starEach es X.env)).any (·.1) = false := by rfl) :
    PE X (.Call (.Name x p) (e :: es) [] pos) (tI X.K (sCallD f r ds)) := by
  refine pe_imp (pe_call F hr hg hm hk hb hd pass0 ha hdb he hpl) fun σ H Q ⟨F, m, S, P, en, w, S', rl, er, run, q⟩ => ?_
  obtain ⟨⟨ws, S1⟩, h1, h⟩ := bind_some_of run
  refine ⟨F, m, S, P, en, ws, S1, rl, er, h1, fun F1 m1 H1 vs u1 rl1 wr1 => ?_⟩
  have wd : ∀ {xs : List V} {es : List PyData}, AtAll F1 xs es → WRs X.K F1 m1 S1.length xs (es.map .pu) := fun {xs es} h => by
    induction xs generalizing es with
    | nil => cases h; exact .nil
    | cons y ys ih =>
      cases h with
      | cons h1 h2 => exact .cons h1 (ih h2)
  have app : ∀ {xs ys : List V} {us zs : List W}, WRs X.K F1 m1 S1.length xs us → WRs X.K F1 m1 S1.length ys zs → WRs X.K F1 m1 S1.length (xs ++ ys) (us ++ zs) := fun {xs ys us zs} h1 h2 => by
    induction h1 with
    | nil => exact h2
    | cons a _ ih => exact .cons a ih
  exact ⟨F1, m1, S1, P, _, w, S', rl1, app wr1 (wd (hD F1)), h, fun F2 m2 H2 v u2 rl2 wr2 => q F2 m2 H2 v (u1.trans u2 (r.mono h1)) rl2 wr2⟩
/-! #### built-ins -/
def sB (o : List W → Sto → Option W) (r : SA) : SE := ⟨fun en S => (r.run en S).bind fun p => (o p.1 p.2).map fun z => (z, p.2), fun {en S w S'} h => by
  obtain ⟨p, h1, h⟩ := bind_some_of h
  obtain ⟨z, h3, h⟩ := Option.map_eq_some_iff.mp h
  cases h
  exact r.mono h1⟩
def CaS (K : PySem.W.Frag) (rr : List V → Hp → VK → Prop) (o : List W → Sto → Option W) : Prop := ∀ F m S P H ws vs z (Q : VK), Rl F m S P H → WRs K F m S.length vs ws → o ws S = some z →
  (∀ F' H' t, Same F F' → Rl F' m S P H' → WR K F' m S.length t z → Q t H') → rr vs H Q
theorem sB_ok {K : PySem.W.Frag} {rr : List V → Hp → VK → Prop} {o : List W → Sto → Option W} (ho : CaS K rr o) : ∀ σ H Q, tI K (sB o r) σ H Q → tCB rr (tIA K r) σ H Q := by
  intro σ H Q ⟨F, m, S, P, en, w, S', rl, er, run, q⟩
  obtain ⟨⟨ws, S1⟩, h1, h⟩ := bind_some_of run
  obtain ⟨z, h3, h⟩ := Option.map_eq_some_iff.mp h
  cases h
  refine ⟨F, m, S, P, en, ws, S1, rl, er, h1, fun F1 m1 H1 vs u1 rl1 wr1 => ?_⟩
  exact ho F1 m1 S1 P H1 ws vs w Q rl1 wr1 h3 fun F2 H2 t e2 rl2 wr2 => q F2 m1 H2 t (u1.trans ⟨e2, fun _ _ => rfl⟩ (r.mono h1)) rl2 wr2
variable {rr : List V → Hp → VK → Prop} {o : List W → Sto → Option W} {id T : String}
theorem z_callB (hc : CallR X (.builtin id) rr) (ho : CaS X.K rr o) (hg : Gl X x) (hm : X.mg x = none) (hv : bootBuiltins x = some (.builtin id)) (ha : PA X (e :: es) (tIA X.K r)) (hn : x ≠ "__name__" := by decide) (hdb : (x == ("__debug__" : Str)) = false := by decide)
    (he : starEach (e :: es) X.env = (false, eval e X.env) :: starEach es X.env := by rfl) (hpl : (backTo pos (starEach es X.env)).any (·.1) = false := by rfl) : PE X (.Call (.Name x p) (e :: es) [] pos) (tI X.K (sB o r)) :=
  pe_imp (pe_callB hc hg hm hv ha hn hdb he hpl) (sB_ok ho)
theorem z_callT (hc : CallR X (.type T) rr) (ho : CaS X.K rr o) (hg : Gl X x) (hm : X.mg x = none) (hv : bootBuiltins x = some (.type T)) (ha : PA X (e :: es) (tIA X.K r)) (hn : x ≠ "__name__" := by decide) (hdb : (x == ("__debug__" : Str)) = false := by decide)
    (he : starEach (e :: es) X.env = (false, eval e X.env) :: starEach es X.env := by rfl) (hpl : (backTo pos (starEach es X.env)).any (·.1) = false := by rfl) : PE X (.Call (.Name x p) (e :: es) [] pos) (tI X.K (sB o r)) :=
  pe_imp (pe_callTy hc hg hm hv ha hn hdb he hpl) (sB_ok ho)
end
end Z

namespace Z
open PySem L2 PyProof.Rows

/-! ### statements -/
inductive Fl where
  | nx
  | rt (w : W)
  | bk
  | ct
structure SS where
  run : En → Sto → Option (Fl × En × Sto)
  mono : ∀ {en S r}, run en S = some r → S.length ≤ r.2.2.length
def Cont (K : PySem.W.Frag) (D : Ends) (F : Hp) (m : Nat → Addr × Bool) (n : Nat) (en : En) (H : Hp) : Fl → Prop
  | .nx => ∀ σ, ER K F m n en σ → D.nx σ H
  | .rt w => ∀ v, WR K F m n v w → D.rt v H
  | .bk => ∀ σ, ER K F m n en σ → D.bk σ H
  | .ct => ∀ σ, ER K F m n en σ → D.ct σ H
def tS (K : PySem.W.Frag) (g : SS) : TS := fun D σ H => ∃ F m S P en r, Rl F m S P H ∧ ER K F m S.length en σ ∧ g.run en S = some r ∧
  ∀ F' m' H', Up F m S.length F' m' → Rl F' m' r.2.2 P H' → Cont K D F' m' r.2.2.length r.2.1 H' r.1
section
variable {X : Cx} {e a b : Expr} {st : Stmt} {sts : List Stmt} {pos : Pos} {f c : SE} {g h : SS}
theorem ps_imp {t t' : TS} (h : PS X st t) (i : ∀ D σ H, t' D σ H → t D σ H) : PS X st t' := ⟨fun pins s σ H D I q => h.run pins s σ H D I (i D σ H q)⟩
theorem pss_imp {t t' : TS} (h : PSs X sts t) (i : ∀ D σ H, t' D σ H → t D σ H) : PSs X sts t' := ⟨fun pins s σ H D I q => h.run pins s σ H D I (i D σ H q)⟩
def gBad : SS := ⟨fun _ _ => none, fun h => nomatch h⟩
theorem y_bad : PS X st (tS X.K gBad) := ⟨fun _ _ _ _ _ _ ⟨_, _, _, _, _, _, _, _, h, _⟩ => nomatch h⟩
def gNop : SS := ⟨fun en S => some (.nx, en, S), fun h => by cases h; exact Nat.le_refl _⟩
theorem y_nil : PSs X [] (tS X.K gNop) := pss_imp pss_nil fun D σ H ⟨F, m, S, P, en, r, rl, er, run, q⟩ => by
  cases run
  exact q F m H (Up.refl _ _ _) rl σ er
theorem y_pass : PS X (.Pass pos) (tS X.K gNop) := ps_imp ps_pass fun D σ H ⟨F, m, S, P, en, r, rl, er, run, q⟩ => by
  cases run
  exact q F m H (Up.refl _ _ _) rl σ er
theorem y_doc {x j pos'} : PS X (.Expr (.Constant (.str x) j pos) pos') (tS X.K gNop) := ps_imp ps_doc fun D σ H ⟨F, m, S, P, en, r, rl, er, run, q⟩ => by
  cases run
  exact q F m H (Up.refl _ _ _) rl σ er
def gBrk : SS := ⟨fun en S => some (.bk, en, S), fun h => by cases h; exact Nat.le_refl _⟩
theorem y_brk : PS X (.Break pos) (tS X.K gBrk) := ps_imp ps_break fun D σ H ⟨F, m, S, P, en, r, rl, er, run, q⟩ => by
  cases run
  exact q F m H (Up.refl _ _ _) rl σ er
def gCnt : SS := ⟨fun en S => some (.ct, en, S), fun h => by cases h; exact Nat.le_refl _⟩
theorem y_cnt : PS X (.Continue pos) (tS X.K gCnt) := ps_imp ps_continue fun D σ H ⟨F, m, S, P, en, r, rl, er, run, q⟩ => by
  cases run
  exact q F m H (Up.refl _ _ _) rl σ er
/-- one behind the other -/
def after (h : SS) : Fl × En × Sto → Option (Fl × En × Sto)
  | (.nx, en, S) => h.run en S
  | r => some r
def gSeq (g h : SS) : SS := ⟨fun en S => (g.run en S).bind (after h), fun {en S r} e => by
  obtain ⟨⟨fl, en1, S1⟩, h1, e⟩ := bind_some_of e
  have l1 := g.mono h1
  cases fl with
  | nx => exact Nat.le_trans l1 (h.mono e)
  | _ => cases e; exact l1⟩
theorem y_cons (h1 : PS X st (tS X.K g)) (h2 : PSs X sts (tS X.K h)) : PSs X (st :: sts) (tS X.K (gSeq g h)) := by
  refine pss_imp (pss_cons h1 h2) fun D σ H ⟨F, m, S, P, en, r, rl, er, run, q⟩ => ?_
  obtain ⟨⟨fl, en1, S1⟩, e1, e⟩ := bind_some_of run
  refine ⟨F, m, S, P, en, (fl, en1, S1), rl, er, e1, fun F1 m1 H1 u1 rl1 => ?_⟩
  cases fl with
  | nx => exact fun σ1 er1 => ⟨F1, m1, S1, P, en1, r, rl1, er1, e, fun F2 m2 H2 u2 rl2 => q F2 m2 H2 (u1.trans u2 (g.mono e1)) rl2⟩
  | rt w => cases e; exact q F1 m1 H1 u1 rl1
  | bk => cases e; exact q F1 m1 H1 u1 rl1
  | ct => cases e; exact q F1 m1 H1 u1 rl1
theorem y_one (h1 : PS X st (tS X.K g)) : PSs X [st] (tS X.K g) := pss_one h1
def gIf (c : SE) (g h : SS) : SS := ⟨fun en S => (c.run en S).bind fun p => (truth p.1 p.2).bind fun b => if b = true then g.run en p.2 else h.run en p.2, fun {en S r} e => by
  obtain ⟨p, h1, e⟩ := bind_some_of e
  obtain ⟨b, h2, e⟩ := bind_some_of e
  cases b with
  | true => exact Nat.le_trans (c.mono h1) (g.mono e)
  | false => exact Nat.le_trans (c.mono h1) (h.mono e)⟩
theorem y_if {sa sb : List Stmt} (hc : PT X e (tIT X.K c)) (ha : PSs X sa (tS X.K g)) (hb : PSs X sb (tS X.K h)) : PS X (.If e sa sb pos) (tS X.K (gIf c g h)) := by
  refine ps_imp (ps_if hc ha hb) fun D σ H ⟨F, m, S, P, en, r, rl, er, run, q⟩ => ?_
  obtain ⟨⟨x, S1⟩, h1, e⟩ := bind_some_of run
  obtain ⟨b, h2, e⟩ := bind_some_of e
  refine ⟨F, m, S, P, en, x, S1, b, rl, er, h1, h2, fun F1 m1 H1 u1 rl1 => ?_⟩
  cases b with
  | true => exact iteT ⟨F1, m1, S1, P, en, r, rl1, er.up u1 (c.mono h1), e, fun F2 m2 H2 u2 rl2 => q F2 m2 H2 (u1.trans u2 (c.mono h1)) rl2⟩
  | false => exact iteF ⟨F1, m1, S1, P, en, r, rl1, er.up u1 (c.mono h1), e, fun F2 m2 H2 u2 rl2 => q F2 m2 H2 (u1.trans u2 (c.mono h1)) rl2⟩
def gRet (f : SE) : SS := ⟨fun en S => (f.run en S).map fun p => (.rt p.1, en, p.2), fun {en S r} e => by
  obtain ⟨p, h1, e⟩ := Option.map_eq_some_iff.mp e
  cases e
  exact f.mono h1⟩
theorem y_ret (he : PE X e (tI X.K f)) : PS X (.Return (some e) pos) (tS X.K (gRet f)) := by
  refine ps_imp (ps_ret he) fun D σ H ⟨F, m, S, P, en, r, rl, er, run, q⟩ => ?_
  obtain ⟨⟨x, S1⟩, h1, e⟩ := Option.map_eq_some_iff.mp run
  cases e
  exact ⟨F, m, S, P, en, x, S1, rl, er, h1, fun F1 m1 H1 v u1 rl1 wr1 => q F1 m1 H1 u1 rl1 v wr1⟩
theorem y_retN : PS X (.Return none pos) (tS X.K (gRet (sC .none))) := by
  refine ps_imp ps_retN fun D σ H ⟨F, m, S, P, en, r, rl, er, run, q⟩ => ?_
  have run : some (Fl.rt (.pu .none), en, S) = some r := run
  cases run
  exact q F m H (Up.refl _ _ _) rl .non .non
def gExp (f : SE) : SS := ⟨fun en S => (f.run en S).map fun p => (.nx, en, p.2), fun {en S r} e => by
  obtain ⟨p, h1, e⟩ := Option.map_eq_some_iff.mp e
  cases e
  exact f.mono h1⟩
theorem y_exp (he : PE X e (tI X.K f)) (hs : swapsWith e none pos.line X.env = pure false := by rfl) : PS X (.Expr e pos) (tS X.K (gExp f)) := by
  refine ps_imp (ps_expr he hs) fun D σ H ⟨F, m, S, P, en, r, rl, er, run, q⟩ => ?_
  obtain ⟨⟨x, S1⟩, h1, e⟩ := Option.map_eq_some_iff.mp run
  cases e
  exact ⟨F, m, S, P, en, x, S1, rl, er, h1, fun F1 m1 H1 v u1 rl1 wr1 => q F1 m1 H1 u1 rl1 σ (er.up u1 (f.mono h1))⟩
def gSet (i : Nat) (f : SE) : SS := ⟨fun en S => (f.run en S).map fun p => (.nx, en.set i (some p.1), p.2), fun {en S r} e => by
  obtain ⟨p, h1, e⟩ := Option.map_eq_some_iff.mp e
  cases e
  exact f.mono h1⟩
theorem y_setT {i : Nat} (hp : PS X st (tAsg (tI X.K f) (gName i))) : PS X st (tS X.K (gSet i f)) := by
  refine ps_imp hp fun D σ H ⟨F, m, S, P, en, r, rl, er, run, q⟩ => ?_
  obtain ⟨⟨x, S1⟩, h1, e⟩ := Option.map_eq_some_iff.mp run
  cases e
  exact ⟨F, m, S, P, en, x, S1, rl, er, h1, fun F1 m1 H1 v u1 rl1 wr1 => q F1 m1 H1 u1 rl1 _ ((er.up u1 (f.mono h1)).set wr1 i)⟩
theorem y_set {i : Nat} {x : Str} {pos' : Pos} (hN : X.N.Nodup) (hi : X.N[i]? = some x) (hx : Loc X.env.scope x) (he : PE X e (tI X.K f)) (hs : swapsWith e (some (.Name x pos')) pos.line X.env = pure false := by rfl) (hf : X.fn x = true ∨ X.env.scope.names.lookup x = some .local := by first | exact .inl rfl | exact .inr rfl | assumption) :
    PS X (.Assign [.Name x pos'] e pos) (tS X.K (gSet i f)) := y_setT (ps_set hN hi hx he hs hf)
/-- a, b = e1, e2 -/
def gPar (i j : Nat) (f h : SE) : SS := ⟨fun en S => (f.run en S).bind fun p => (h.run en p.2).map fun q => (.nx, (en.set i (some p.1)).set j (some q.1), q.2), fun {en S r} e => by
  obtain ⟨p, h1, e⟩ := bind_some_of e
  obtain ⟨q, h2, e⟩ := Option.map_eq_some_iff.mp e
  cases e
  exact Nat.le_trans (f.mono h1) (h.mono h2)⟩
theorem y_parT {i j : Nat} {f h : SE} {ta : TA} (hta : ta = tIA X.K (aCons f (aCons h aNil))) (hp : PS X st (tPar i j ta)) : PS X st (tS X.K (gPar i j f h)) := by
  subst hta
  refine ps_imp hp fun D σ H ⟨F, m, S, P, en, r, rl, er, run, q⟩ => ?_
  obtain ⟨⟨x, S1⟩, h1, e⟩ := bind_some_of run
  obtain ⟨⟨y, S2⟩, h2, e⟩ := Option.map_eq_some_iff.mp e
  cases e
  refine ⟨F, m, S, P, en, [x, y], S2, rl, er, ?_, fun F1 m1 H1 vs u1 rl1 wr1 => ?_⟩
  · show (f.run en S).bind _ = _
    rw [h1]
    show ((h.run en S1).bind _).map _ = _
    rw [h2]
    rfl
  · cases wr1 with
    | cons w1 wr =>
      cases wr with
      | cons w2 wr =>
        cases wr
        refine ⟨_, _, rfl, q F1 m1 H1 u1 rl1 _ ?_⟩
        exact ((er.up u1 (Nat.le_trans (f.mono h1) (h.mono h2))).set w1 i).set w2 j
/-! #### functions -/
def fin : Fl × En × Sto → Option (W × Sto)
  | (.rt w, _, S) => some (w, S)
  | (.nx, _, S) => some (.pu .none, S)
  | _ => none
def mkF (ar N : Nat) (b : SS) : FS := ⟨ar, fun ws S => if ws.length = ar then (b.run (ws.map some ++ List.replicate (N - ar) none) S).bind fin else none, (fun {ws S w S'} h => by
    split at h
    · obtain ⟨⟨fl, en, S1⟩, h1, h⟩ := bind_some_of h
      have l := b.mono h1
      cases fl <;> cases h <;> exact l
    · cases h), (fun {ws S r} h => by
    split at h
    · assumption
    · cases h)⟩
theorem er_start {K : PySem.W.Frag} {F : Hp} {m : Nat → Addr × Bool} {n : Nat} {vs : List V} {ws : List W} {N : List Str} (h : WRs K F m n vs ws) : ER K F m n (ws.map some ++ List.replicate (N.length - ws.length) none) (start N vs) := by
  have hl := paired_len h
  refine ⟨?_, fun i w e => ?_⟩
  · show (ws.map some ++ List.replicate (N.length - ws.length) none).length = (vs.map some ++ List.replicate (N.length - vs.length) none).length
    simp only [List.length_append, List.length_map, List.length_replicate, hl]
  · have get : ∀ {vs : List V} {ws : List W}, WRs K F m n vs ws → ∀ {i : Nat} {w : W}, ws[i]? = some w → ∃ v, vs[i]? = some v ∧ WR K F m n v w := fun {vs ws} h => by
      induction h with
      | nil => intro i w e; simp at e
      | cons a t ih =>
        intro i w e
        cases i with
        | zero => simp at e; subst e; exact ⟨_, rfl, a⟩
        | succ i =>
          obtain ⟨v, h1, h2⟩ := ih (i := i) (w := w) (by simpa using e)
          exact ⟨v, by simpa using h1, h2⟩
    by_cases hi : i < ws.length
    · rw [List.getElem?_append_left (by rw [List.length_map]; exact hi), List.getElem?_map] at e
      obtain ⟨w', e1, e2⟩ := Option.map_eq_some_iff.mp e
      cases e2
      obtain ⟨v, h1, h2⟩ := get h e1
      refine ⟨v, ?_, h2⟩
      show (vs.map some ++ List.replicate (N.length - vs.length) none)[i]? = _
      rw [List.getElem?_append_left (by rw [List.length_map, hl]; exact hi), List.getElem?_map, h1]
      rfl
    · rw [List.getElem?_append_right (by rw [List.length_map]; omega), List.getElem?_replicate] at e
      split at e <;> simp at e
theorem z_def {P : Program} {w : World} {K : PySem.W.Frag} {mg : Str → Option Value} {base : Heap} {x qual : Str} {st : Stmt} {fa : Addr} {fd : FuncData} {N ps : List Str} {k ar nN : Nat} {b : SS} (F : Fun K x qual st fa fd) (S : FnScope N ps (defScope st)) (har : ps.length = ar) (hnN : N.length = nN)
    (hb : ∀ (cdv : Value) (A : Around) (outer : List Env) (s : Shared) (H : Hp) (E : XK), Room k (A.deeper (envOfC qual (defScope st) s.heap.objs.size fa cdv)) → PSs (cxOf CX0 P w K mg base N qual (defScope st) fa cdv A outer s H E).nox (defBody st) (tS K b)) :
    FnOk P w K mg base CX0 (k + 1) fa fd ps (spI K (mkF ar nN b)) := by
  subst har hnN
  refine F.ok S (fun vs H Q E h => spI_len h) fun cdv A outer s H vs Q E hr h => ⟨_, hb cdv A outer s H E hr, ?_⟩
  obtain ⟨F, m, S, P, ws, w, S', rl, wr, run, q⟩ := h
  have run : (if ws.length = ps.length then (b.run (ws.map some ++ List.replicate (N.length - ps.length) none) S).bind fin else none) = some (w, S') := run
  split at run
  · rename_i hl
    obtain ⟨⟨fl, en, S1⟩, h1, h⟩ := bind_some_of run
    rw [← hl] at h1
    refine ⟨F, m, S, P, _, (fl, en, S1), rl, er_start wr, h1, fun F1 m1 H1 u1 rl1 => ?_⟩
    cases fl with
    | nx => cases h; exact fun σ _ => q F1 m1 H1 .non u1 rl1 .non
    | rt w' => cases h; exact fun v wv => q F1 m1 H1 v u1 rl1 wv
    | bk => cases h
    | ct => cases h
  · cases run
end

/-! ### targets -/
structure SG where
  run : PyData → En → Option En
  ts : List Nat
/-- slots that are not of ts are as they were -/
def Off (ts : List Nat) (σ σ' : L2.St) : Prop := σ'.length = σ.length ∧ ∀ j, j ∉ ts → σ'[j]? = σ[j]?
def ZG (X : Cx) (tg : Expr) (sg : SG) : Prop := ∃ g, PG X tg g ∧ ∀ (F H : Hp) (m : Nat → Addr × Bool) (n : Nat) (en en' : En) (σ : L2.St) (v : V) (d : PyData) (Q : L2.St → Hp → Prop), Same F H → ER X.K F m n en σ → At F v d → sg.run d en = some en' →
  (∀ σ', ER X.K F m n en' σ' → Off sg.ts σ σ' → Q σ' H) → g v σ H Q
def tgName (i : Nat) : SG := ⟨fun d en => some (en.set i (some (.pu d))), [i]⟩
theorem g_name {X : Cx} {x : Str} {pos : Pos} {i : Nat} (h : PG X (.Name x pos) (gName i)) : ZG X (.Name x pos) (tgName i) := by
  refine ⟨gName i, h, fun F H m n en en' σ v d Q ex er at' run q => ?_⟩
  cases run
  refine q _ (er.set (w := .pu d) at' i) ⟨List.length_set, fun j hj => List.getElem?_set_ne fun z => hj (by rw [z]; exact List.mem_singleton.mpr rfl)⟩
structure SGs where
  run : List PyData → En → Option En
  ts : List Nat
def ZGs (X : Cx) (tgs : List Expr) (sg : SGs) : Prop := ∃ g, PGs X tgs g ∧ ∀ (F H : Hp) (m : Nat → Addr × Bool) (n : Nat) (en en' : En) (σ : L2.St) (vs : List V) (ds : List PyData) (Q : L2.St → Hp → Prop), Same F H → ER X.K F m n en σ → AtAll F vs ds → sg.run ds en = some en' →
  (∀ σ', ER X.K F m n en' σ' → Off sg.ts σ σ' → Q σ' H) → g vs σ H Q
def tgNil : SGs := ⟨fun ds en => match ds with | [] => some en | _ => none, []⟩
def tgCons (a : SG) (r : SGs) : SGs := ⟨fun ds en => match ds with | d :: ds => (a.run d en).bind fun en1 => r.run ds en1 | [] => none, a.ts ++ r.ts⟩
theorem gs_nil {X : Cx} : ZGs X [] tgNil := by
  refine ⟨L2.gNil, pgs_nil, fun F H m n en en' σ vs ds Q ex er at' run q => ?_⟩
  cases at' with
  | nil =>
    cases run
    exact ⟨rfl, q σ er ⟨rfl, fun _ _ => rfl⟩⟩
  | cons _ _ => cases run
theorem gs_cons {X : Cx} {e : Expr} {es : List Expr} {a : SG} {r : SGs} (h1 : ZG X e a) (h2 : ZGs X es r) (hp : ∀ {t u}, PG X e t → PGs X es u → PGs X (e :: es) (gCons t u)) : ZGs X (e :: es) (tgCons a r) := by
  obtain ⟨g1, p1, k1⟩ := h1
  obtain ⟨g2, p2, k2⟩ := h2
  refine ⟨gCons g1 g2, hp p1 p2, fun F H m n en en' σ vs ds Q ex er at' run q => ?_⟩
  cases at' with
  | nil => cases run
  | @cons v vs d ds av avs =>
    have run : (a.run d en).bind (fun en1 => r.run ds en1) = some en' := run
    obtain ⟨en1, e1, e2⟩ := bind_some_of run
    refine ⟨v, vs, rfl, k1 F H m n en en1 σ v d _ ex er av e1 fun σ1 er1 o1 => k2 F H m n en1 en' σ1 vs ds _ ex er1 avs e2 fun σ2 er2 o2 => q σ2 er2 ⟨o2.1.trans o1.1, fun j hj => ?_⟩⟩
    have n1 : j ∉ a.ts := fun z => hj (List.mem_append_left _ z)
    have n2 : j ∉ r.ts := fun z => hj (List.mem_append_right _ z)
    rw [o2.2 j n2, o1.2 j n1]
def tgTup (n : Nat) (r : SGs) : SG := ⟨fun d en => match d with | .tuple ds => if ds.length = n then r.run ds en else none | _ => none, r.ts⟩
theorem g_tup {X : Cx} {es : List Expr} {x : _} {pos : Pos} {n : Nat} {r : SGs} (h : ZGs X es r) (hp : ∀ {t}, PGs X es t → PG X (.Tuple es x pos) (gTup X.K n t)) : ZG X (.Tuple es x pos) (tgTup n r) := by
  obtain ⟨g, p, k⟩ := h
  refine ⟨gTup X.K n g, hp p, fun F H m n' en en' σ v d Q ex er at' run q => ?_⟩
  cases at' with
  | @tup a xs ds h1 h2 =>
    have run : (if ds.length = n then r.run ds en else none) = some en' := run
    split at run
    · rename_i hl
      exact ⟨a, xs, rfl, SqT.of (ex _ _ h1), by rw [h2.length]; exact hl, k F H m n' en en' σ xs ds Q ex er h2 run q⟩
    · cases run
  | _ => cases run
/-- a, b = e, the value a tuple -/
def gUnp (t : SG) (f : SE) : SS := ⟨fun en S => (f.run en S).bind fun p => (fz p.1 p.2).bind fun q => (t.run q.1 en).map fun en' => (.nx, en', q.2), fun {en S r} e => by
  obtain ⟨p, h1, e⟩ := bind_some_of e
  obtain ⟨q, h2, e⟩ := bind_some_of e
  obtain ⟨z, h3, e⟩ := Option.map_eq_some_iff.mp e
  cases e
  rw [← fz_len h2]
  exact f.mono h1⟩
theorem y_unp {X : Cx} {e tg : Expr} {pos : Pos} {f : SE} {t : SG} (he : PE X e (tI X.K f)) (ht : ZG X tg t) (hs : swapsWithSole [tg] e pos.line X.env = pure false := by rfl) (hw : swappedStores [tg] e X.env = pure none := by rfl)
    (h1 : (assignEach [tg] X.env).map (·.2) = [assign tg X.env] := by rfl) : PS X (.Assign [tg] e pos) (tS X.K (gUnp t f)) := by
  obtain ⟨g, pg, k⟩ := ht
  refine ps_imp (ps_asg he pg hs hw h1) fun D σ H ⟨F, m, S, P, en, r, rl, er, run, q⟩ => ?_
  obtain ⟨⟨x, S1⟩, h1, e⟩ := bind_some_of run
  obtain ⟨⟨d, S2⟩, h2, e⟩ := bind_some_of e
  obtain ⟨en', h3, e⟩ := Option.map_eq_some_iff.mp e
  cases e
  refine ⟨F, m, S, P, en, x, S1, rl, er, h1, fun F1 m1 H1 v u1 rl1 wr1 => ?_⟩
  obtain ⟨F2, s2, rl2, at2⟩ := fz_ok rl1 wr1 h2
  have u2 : Up F1 m1 S1.length F2 m1 := ⟨s2, fun _ _ => rfl⟩
  have u3 := u1.trans u2 (f.mono h1)
  have l2 : S1.length = S2.length := fz_len h2
  exact k F2 H1 m1 S2.length en en' σ v d _ rl2.ex (er.up u3 (by rw [← l2]; exact f.mono h1)) at2 h3 fun σ' er' _ => q F2 m1 H1 u3 rl2 σ' er'
end Z

namespace Z
open PySem L2 PyProof.Rows

/-! ### what a for walks -/
structure SI where
  run : En → Sto → Option (List PyData × Sto)
  mono : ∀ {en S r}, run en S = some r → S.length ≤ r.2.length
/-- behind F: a turn's item is plain data over a greater F -/
def Yld (ds : List PyData) (F : Hp) (Y : Nat → Hp → V → Hp → Prop) : Prop :=
  ∀ i F1 m S P H x H', Same F F1 → Rl F1 m S P H → i < ds.length → Y i H x H' → ∃ F2 d, Same F1 F2 ∧ Rl F2 m S P H' ∧ ds[i]? = some d ∧ At F2 x d
def ZI (X : Cx) (tg iter : Expr) (it : SI) : Prop := ∃ wi, PI X tg iter wi ∧ ∀ (σ : L2.St) (H : Hp) (R : It → Hp → Prop) F m S P en ds S', Rl F m S P H → ER X.K F m S.length en σ → it.run en S = some (ds, S') →
  (∀ F' m' H' J G Y, Up F m S.length F' m' → Rl F' m' S' P H' → Walk J ds.length G Y → (∀ F1 H1, Same F' F1 → Same F1 H1 → G H1) → Yld ds F' Y → R J H') → wi σ H R
def iSeq (f : SE) : SI := ⟨fun en S => (f.run en S).bind fun p => (fz p.1 p.2).bind fun q => match q.1 with
  | .list ds => some (ds, q.2)
  | _ => none, fun {en S r} e => by
  obtain ⟨p, h1, e⟩ := bind_some_of e
  obtain ⟨q, h2, e⟩ := bind_some_of e
  split at e
  · cases e
    rw [← fz_len h2]
    exact f.mono h1
  · cases e⟩
theorem yld_at {F : Hp} {vs : List V} {ds : List PyData} (h : AtAll F vs ds) : Yld ds F (YAt vs) := by
  rintro i F1 m S P H x H' e rl hi ⟨rfl, hx⟩
  obtain ⟨d, h1, h2⟩ := h.getV hx
  exact ⟨F1, d, Same.refl F1, rl, h1, h2.mono e⟩
section
variable {X : Cx} {e tg : Expr} {pos : Pos} {f : SE}
theorem i_list (he : PE X e (tI X.K f)) : ZI X tg e (iSeq f) := by
  refine ⟨_, pi_list he, fun σ H R F m S P en ds S' rl er run q => ?_⟩
  obtain ⟨⟨x, S1⟩, h1, e⟩ := bind_some_of run
  obtain ⟨⟨d, S2⟩, h2, e⟩ := bind_some_of e
  cases d with
  | list ds' =>
    cases e
    refine ⟨F, m, S, P, en, x, S1, rl, er, h1, fun F1 m1 H1 v u1 rl1 wr1 => ?_⟩
    obtain ⟨F2, s2, rl2, at2⟩ := fz_ok rl1 wr1 h2
    cases at2 with
    | @lst a vs _ g1 g2 =>
      refine ⟨a, rfl, ⟨vs, SqL.of (rl2.ex _ _ g1)⟩, ?_⟩
      have wk : Walk (Itl X.K a) ds.length (fun H => SqL X.K H a vs) (YAt vs) := by
        rw [← g2.length]
        exact walk_list
      exact q F2 m1 H1 _ _ _ (u1.trans ⟨s2, fun _ _ => rfl⟩ (f.mono h1)) rl2 wk (fun F3 H3 e1 e2 => SqL.of (e2 _ _ (e1 _ _ g1))) (yld_at g2)
  | _ => cases e
def iTupS (f : SE) : SI := ⟨fun en S => (f.run en S).bind fun p => (fz p.1 p.2).bind fun q => match q.1 with
  | .tuple ds => some (ds, q.2)
  | _ => none, fun {en S r} e => by
  obtain ⟨p, h1, e⟩ := bind_some_of e
  obtain ⟨q, h2, e⟩ := bind_some_of e
  split at e
  · cases e
    rw [← fz_len h2]
    exact f.mono h1
  · cases e⟩
theorem i_tup (he : PE X e (tI X.K f)) : ZI X tg e (iTupS f) := by
  refine ⟨_, pi_tup he, fun σ H R F m S P en ds S' rl er run q => ?_⟩
  obtain ⟨⟨x, S1⟩, h1, e⟩ := bind_some_of run
  obtain ⟨⟨d, S2⟩, h2, e⟩ := bind_some_of e
  cases d with
  | tuple ds' =>
    cases e
    refine ⟨F, m, S, P, en, x, S1, rl, er, h1, fun F1 m1 H1 v u1 rl1 wr1 => ?_⟩
    obtain ⟨F2, s2, rl2, at2⟩ := fz_ok rl1 wr1 h2
    cases at2 with
    | @tup a vs _ g1 g2 =>
      refine ⟨a, rfl, ⟨vs, SqT.of (rl2.ex _ _ g1)⟩, ?_⟩
      have wk : Walk (Itt X.K a) ds.length (fun H => SqT X.K H a vs) (YAt vs) := by
        rw [← g2.length]
        exact walk_tup
      exact q F2 m1 H1 _ _ _ (u1.trans ⟨s2, fun _ _ => rfl⟩ (f.mono h1)) rl2 wk (fun F3 H3 e1 e2 => SqT.of (e2 _ _ (e1 _ _ g1))) (yld_at g2)
  | _ => cases e
/-- range(lo, hi) -/
def rngD (lo hi : Int) : List PyData := (List.range (hi - lo).toNat).map fun (i : Nat) => .int (lo + (i : Int))
def smallI (i : Int) : Bool := Nat.ble i.natAbs (2 ^ 61)
theorem smallI_b {i j : Int} (h : (smallI i && smallI j) = true) : (-(2 ^ 62) ≤ i ∧ i < 2 ^ 62) ∧ -(2 ^ 62) ≤ j ∧ j < 2 ^ 62 := by
  rw [Bool.and_eq_true] at h
  have h1 := Nat.le_of_ble_eq_true h.1
  have h2 := Nat.le_of_ble_eq_true h.2
  omega
def iRng (f g : SE) : SI := ⟨fun en S => (f.run en S).bind fun p => (g.run en p.2).bind fun q => match p.1, q.1 with
  | .pu (.int i), .pu (.int j) => if (smallI i && smallI j) = true then some (rngD i j, q.2) else none
  | _, _ => none, fun {en S r} e => by
  obtain ⟨p, h1, e⟩ := bind_some_of e
  obtain ⟨q, h2, e⟩ := bind_some_of e
  split at e
  · split at e
    · cases e
      exact Nat.le_trans (f.mono h1) (g.mono h2)
    · cases e
  · cases e⟩
theorem yld_rng {F : Hp} {lo : Int} {n : Nat} : Yld ((List.range n).map fun (i : Nat) => PyData.int (lo + (i : Int))) F (YFn fun i => .int (lo + i)) := by
  rintro i F1 m S P H x H' e rl hi ⟨rfl, rfl⟩
  rw [List.length_map, List.length_range] at hi
  exact ⟨F1, .int (lo + i), Same.refl F1, rl, by rw [List.getElem?_map, List.getElem?_range hi]; rfl, .int _⟩
theorem i_rng2 {a b : Expr} {p : Pos} {g : SE} (hg : Gl X "range") (hm : X.mg "range" = none) (ha : PA X [a, b] (tIA X.K (aCons f (aCons g aNil)))) (hs : starEach [a, b] X.env = [(false, eval a X.env), (false, eval b X.env)] := by rfl) (hs2 : starEach [b] X.env = [(false, eval b X.env)] := by rfl) :
    ZI X tg (.Call (.Name "range" p) [a, b] [] pos) (iRng f g) := by
  refine ⟨_, pi_range2 hg hm ha hs hs2, fun σ H R F m S P en ds S' rl er run q => ?_⟩
  obtain ⟨⟨x, S1⟩, h1, e⟩ := bind_some_of run
  obtain ⟨⟨y, S2⟩, h2, e⟩ := bind_some_of e
  split at e
  · rename_i i j z1 z2
    cases z1
    cases z2
    split at e
    · rename_i hc
      cases e
      have hc := smallI_b hc
      refine ⟨F, m, S, P, en, [.pu (.int i), .pu (.int j)], S2, rl, er, ?_, fun F1 m1 H1 vs u1 rl1 wr1 => ?_⟩
      · show (f.run en S).bind _ = _
        rw [h1]
        show ((g.run en S1).bind _).map _ = _
        rw [h2]
        rfl
      · cases wr1 with
        | cons w1 wr =>
          cases wr with
          | cons w2 wr =>
            cases wr
            cases w1
            cases w2
            refine ⟨i, j, rfl, ⟨hc.1.1, hc.1.2, hc.2.1, hc.2.2⟩, ?_⟩
            have wk : Walk (Itr i (j - i).toNat) (rngD i j).length (fun _ => True) (YFn fun k => .int (i + k)) := by
              have hl : (rngD i j).length = (j - i).toNat := by unfold rngD; rw [List.length_map, List.length_range]
              rw [hl]
              exact walk_range
            exact q F1 m1 H1 _ _ _ u1 rl1 wk (fun _ _ _ _ => trivial) yld_rng
    · cases e
  · cases e
theorem i_rng1 {a : Expr} {p : Pos} (hg : Gl X "range") (hm : X.mg "range" = none) (ha : PA X [a] (tIA X.K (aCons f aNil))) (hs : starEach [a] X.env = [(false, eval a X.env)] := by rfl) :
    ZI X tg (.Call (.Name "range" p) [a] [] pos) (iRng (sC (.int 0)) f) := by
  refine ⟨_, pi_range1 hg hm ha hs, fun σ H R F m S P en ds S' rl er run q => ?_⟩
  obtain ⟨⟨y, S2⟩, h2, e⟩ := bind_some_of run
  split at e
  · rename_i i j z1 z2
    cases z1
    cases z2
    split at e
    · rename_i hc
      cases e
      have hc := smallI_b hc
      refine ⟨F, m, S, P, en, [.pu (.int j)], S2, rl, er, ?_, fun F1 m1 H1 vs u1 rl1 wr1 => ?_⟩
      · show (f.run en S).bind _ = _
        rw [h2]
        rfl
      · cases wr1 with
        | cons w1 wr =>
          cases wr
          cases w1
          refine ⟨j, rfl, hc.2.1, hc.2.2, ?_⟩
          have wk : Walk (Itr 0 j.toNat) (rngD 0 j).length (fun _ => True) (YFn fun k => .int (0 + k)) := by
            have hl : (rngD 0 j).length = j.toNat := by unfold rngD; rw [List.length_map, List.length_range, Int.sub_zero]
            rw [hl]
            exact walk_range
          refine q F1 m1 H1 _ _ _ u1 rl1 wk (fun _ _ _ _ => trivial) ?_
          unfold rngD
          rw [Int.sub_zero]
          exact yld_rng
    · cases e
  · cases e
theorem yld_pair {F : Hp} {xs ys : Nat → Option V} {ds : List PyData} (h : ∀ i x y, i < ds.length → xs i = some x → ys i = some y → ∃ d e, ds[i]? = some (.tuple [d, e]) ∧ At F x d ∧ At F y e) : Yld ds F (YPair xs ys) := by
  rintro i F1 m S P H x H' e rl hi ⟨T, a, b, rfl, hT, rfl, ha, hb⟩
  obtain ⟨d1, d2, h1, h2, h3⟩ := h i a b hi ha hb
  have s := same_upd (o := HO.tup [a, b]) (rl.ex.free hT)
  exact ⟨upd F1 T (.tup [a, b]), .tuple [d1, d2], s, rl.new hT, h1, .tup upd_same (.cons ((h2.mono e).mono s) (.cons ((h3.mono e).mono s) .nil))⟩
/-- enumerate(xs) -/
def enumD : Nat → List PyData → List PyData
  | _, [] => []
  | k, d :: ds => .tuple [.int (k : Nat), d] :: enumD (k + 1) ds
theorem enumD_len : ∀ (k : Nat) (ds : List PyData), (enumD k ds).length = ds.length
  | _, [] => rfl
  | k, d :: ds => by unfold enumD; rw [List.length_cons, List.length_cons, enumD_len]
theorem enumD_get : ∀ (k i : Nat) (ds : List PyData), (enumD k ds)[i]? = (ds[i]?).map fun d => .tuple [.int ((k + i : Nat) : Int), d]
  | _, _, [] => by simp [enumD]
  | k, 0, d :: ds => by simp [enumD]
  | k, i + 1, d :: ds => by
    show (enumD (k + 1) ds)[i]? = (ds[i]?).map _
    rw [enumD_get (k + 1) i ds]
    congr 1
    funext d
    rw [show k + 1 + i = k + (i + 1) by omega]
def iEnumS (f : SE) : SI := ⟨fun en S => (f.run en S).bind fun p => (fz p.1 p.2).bind fun q => match q.1 with
  | .list ds => some (enumD 0 ds, q.2)
  | _ => none, fun {en S r} e => by
  obtain ⟨p, h1, e⟩ := bind_some_of e
  obtain ⟨q, h2, e⟩ := bind_some_of e
  split at e
  · cases e
    rw [← fz_len h2]
    exact f.mono h1
  · cases e⟩
theorem i_enum {a : Expr} {p tpos : Pos} {elts : List Expr} {kk} (hg : Gl X "enumerate") (hm : X.mg "enumerate" = none) (ha : PA X [a] (tIA X.K (aCons f aNil))) (hs : starEach [a] X.env = [(false, eval a X.env)] := by rfl) :
    ZI X (.Tuple elts kk tpos) (.Call (.Name "enumerate" p) [a] [] pos) (iEnumS f) := by
  refine ⟨_, pi_enum hg hm ha hs, fun σ H R F m S P en ds S' rl er run q => ?_⟩
  obtain ⟨⟨x, S1⟩, h1, e⟩ := bind_some_of run
  obtain ⟨⟨d, S2⟩, h2, e⟩ := bind_some_of e
  cases d with
  | list ds' =>
    cases e
    refine ⟨F, m, S, P, en, [x], S1, rl, er, ?_, fun F1 m1 H1 vs u1 rl1 wr1 => ?_⟩
    · show (f.run en S).bind _ = _
      rw [h1]
      rfl
    cases wr1 with
    | cons w1 wr =>
      cases wr
      obtain ⟨F2, s2, rl2, at2⟩ := fz_ok rl1 w1 h2
      cases at2 with
      | @lst a vs _ g1 g2 =>
        refine ⟨a, vs, rfl, SqL.of (rl2.ex _ _ g1), ?_⟩
        have wk : Walk (Ite X.K a) (enumD 0 ds').length (fun H => SqL X.K H a vs) (YPair (fun i => some (.int (i : Nat))) (fun i => vs[i]?)) := by
          rw [enumD_len, ← g2.length]
          exact walk_enum
        refine q F2 m1 H1 _ _ _ (u1.trans ⟨s2, fun _ _ => rfl⟩ (f.mono h1)) rl2 wk (fun F3 H3 e1 e2 => SqL.of (e2 _ _ (e1 _ _ g1))) (yld_pair fun i x y hi hx hy => ?_)
        obtain ⟨d, k1, k2⟩ := g2.getV hy
        cases hx
        exact ⟨_, d, by rw [enumD_get, k1]; simp, .int _, k2⟩
  | _ => cases e
/-- zip(xs, ys), both lists or both tuples -/
def zipD : List PyData → List PyData → List PyData
  | d :: ds, e :: es => .tuple [d, e] :: zipD ds es
  | _, _ => []
theorem zipD_len : ∀ (ds es : List PyData), (zipD ds es).length = min ds.length es.length
  | [], _ => by simp [zipD]
  | _ :: _, [] => by simp [zipD]
  | d :: ds, e :: es => by unfold zipD; rw [List.length_cons, List.length_cons, List.length_cons, zipD_len]; omega
theorem zipD_get : ∀ (i : Nat) (ds es : List PyData) (d e : PyData), ds[i]? = some d → es[i]? = some e → (zipD ds es)[i]? = some (.tuple [d, e])
  | _, [], _, _, _, h, _ => by simp at h
  | _, _ :: _, [], _, _, _, h => by simp at h
  | 0, d :: ds, e :: es, _, _, h1, h2 => by
    simp at h1 h2
    subst h1 h2
    rfl
  | i + 1, d :: ds, e :: es, _, _, h1, h2 => by
    show (zipD ds es)[i]? = _
    exact zipD_get i ds es _ _ (by simpa using h1) (by simpa using h2)
def iZipS (f g : SE) : SI := ⟨fun en S => (f.run en S).bind fun p => (g.run en p.2).bind fun q => (fzs [p.1, q.1] q.2).bind fun r => match r.1 with
  | [.list ds, .list es] => some (zipD ds es, r.2)
  | [.tuple ds, .tuple es] => some (zipD ds es, r.2)
  | _ => none, fun {en S r} e => by
  obtain ⟨p, h1, e⟩ := bind_some_of e
  obtain ⟨q, h2, e⟩ := bind_some_of e
  obtain ⟨z, h3, e⟩ := bind_some_of e
  have l := Nat.le_trans (f.mono h1) (g.mono h2)
  rw [fzs_len h3] at l
  split at e <;> cases e <;> exact l⟩
theorem walk_zipT {K : PySem.W.Frag} {a b : Addr} {xs ys : List V} {n : Nat} (hn : n = min xs.length ys.length) : Walk (RZ.ItzT K a b) n (fun H => SqT K H a xs ∧ SqT K H b ys) (YPair (fun i => xs[i]?) (fun i => ys[i]?)) := by
  subst hn
  refine ⟨fun i _ hi q => ?_, fun _ q => ⟨xs, ys, q.1, q.2, by omega⟩, fun i H v H' _ q y => ?_⟩
  · have h1 : i < xs.length := by omega
    have h2 : i < ys.length := by omega
    exact ⟨xs, ys, xs[i], ys[i], q.1, q.2, by simp [h1], by simp [h2]⟩
  · obtain ⟨T, x, z, h1, h2, h3, h4, h5⟩ := y
    exact ⟨T, x, z, h1, h2, h3, h4 xs q.1, h5 ys q.2⟩
theorem i_zip {a b : Expr} {p tpos : Pos} {elts : List Expr} {kk} {g : SE} (hg : Gl X "zip") (hm : X.mg "zip" = none) (ha : PA X [a, b] (tIA X.K (aCons f (aCons g aNil)))) 
    (hs : starEach [a, b] X.env = (false, eval a X.env) :: starEach [b] X.env := by rfl) (hpl : (backTo pos (starEach [b] X.env)).any (·.1) = false := by rfl) :
    ZI X (.Tuple elts kk tpos) (.Call (.Name "zip" p) [a, b] [] pos) (iZipS f g) := by
  refine ⟨_, RZ.pi_zipA hg hm ha hs hpl, fun σ H R F m S P en ds S' rl er run q => ?_⟩
  obtain ⟨⟨x, S1⟩, h1, e⟩ := bind_some_of run
  obtain ⟨⟨y, S2⟩, h2, e⟩ := bind_some_of e
  obtain ⟨⟨zs, S3⟩, h3, e⟩ := bind_some_of e
  have hh : (aCons f (aCons g aNil)).run en S = some ([x, y], S2) := by
    show (f.run en S).bind _ = _
    rw [h1]
    show ((g.run en S1).bind _).map _ = _
    rw [h2]
    rfl
  have ll := Nat.le_trans (f.mono h1) (g.mono h2)
  split at e
  · rename_i z1 xs ys hz
    cases hz
    cases e
    refine ⟨F, m, S, P, en, [x, y], S2, rl, er, hh, fun F1 m1 H1 vs u1 rl1 wr1 => ?_⟩
    obtain ⟨F2, s2, rl2, at2⟩ := fzs_ok rl1 wr1 h3
    cases at2 with
    | cons a1 ar =>
      cases ar with
      | cons a2 ar =>
        cases ar
        cases a1 with
        | @lst a vs _ g1 g2 =>
          cases a2 with
          | @lst b us _ g3 g4 =>
            refine ⟨a, b, vs, us, rfl, .inl ⟨SqL.of (rl2.ex _ _ g1), SqL.of (rl2.ex _ _ g3), ?_⟩⟩
            refine q F2 m1 H1 _ _ _ (u1.trans ⟨s2, fun _ _ => rfl⟩ ll) rl2 (walk_zip (xs := vs) (ys := us) (by rw [zipD_len, g2.length, g4.length])) (fun F3 H3 e1 e2 => ⟨SqL.of (e2 _ _ (e1 _ _ g1)), SqL.of (e2 _ _ (e1 _ _ g3))⟩) (yld_pair fun i x y hi hx hy => ?_)
            obtain ⟨d, k1, k2⟩ := g2.getV hx
            obtain ⟨d', k1', k2'⟩ := g4.getV hy
            exact ⟨d, d', zipD_get _ _ _ _ _ k1 k1', k2, k2'⟩
  · rename_i z1 xs ys hz
    cases hz
    cases e
    refine ⟨F, m, S, P, en, [x, y], S2, rl, er, hh, fun F1 m1 H1 vs u1 rl1 wr1 => ?_⟩
    obtain ⟨F2, s2, rl2, at2⟩ := fzs_ok rl1 wr1 h3
    cases at2 with
    | cons a1 ar =>
      cases ar with
      | cons a2 ar =>
        cases ar
        cases a1 with
        | @tup a vs _ g1 g2 =>
          cases a2 with
          | @tup b us _ g3 g4 =>
            refine ⟨a, b, vs, us, rfl, .inr ⟨SqT.of (rl2.ex _ _ g1), SqT.of (rl2.ex _ _ g3), ?_⟩⟩
            refine q F2 m1 H1 _ _ _ (u1.trans ⟨s2, fun _ _ => rfl⟩ ll) rl2 (walk_zipT (xs := vs) (ys := us) (by rw [zipD_len, g2.length, g4.length])) (fun F3 H3 e1 e2 => ⟨SqT.of (e2 _ _ (e1 _ _ g1)), SqT.of (e2 _ _ (e1 _ _ g3))⟩) (yld_pair fun i x y hi hx hy => ?_)
            obtain ⟨d, k1, k2⟩ := g2.getV hx
            obtain ⟨d', k1', k2'⟩ := g4.getV hy
            exact ⟨d, d', zipD_get _ _ _ _ _ k1 k1', k2, k2'⟩
  · cases e
end

/-! ### for -/
def loopR (t : SG) (b : SS) : List PyData → En → Sto → Option (Fl × En × Sto)
  | [], en, S => some (.nx, en, S)
  | d :: ds, en, S => (t.run d en).bind fun en1 => (b.run en1 S).bind fun r => match r.1 with
    | .nx => loopR t b ds r.2.1 r.2.2
    | .ct => loopR t b ds r.2.1 r.2.2
    | .bk => some (.nx, r.2.1, r.2.2)
    | .rt w => some (.rt w, r.2.1, r.2.2)
theorem loopR_mono {t : SG} {b : SS} : ∀ {ds : List PyData} {en : En} {S : Sto} {r}, loopR t b ds en S = some r → S.length ≤ r.2.2.length
  | [], en, S, r, h => by cases h; exact Nat.le_refl _
  | d :: ds, en, S, r, h => by
    obtain ⟨en1, h1, h⟩ := bind_some_of h
    obtain ⟨⟨fl, en2, S2⟩, h2, h⟩ := bind_some_of h
    have l := b.mono h2
    cases fl with
    | nx => exact Nat.le_trans l (loopR_mono h)
    | ct => exact Nat.le_trans l (loopR_mono h)
    | bk => cases h; exact l
    | rt w => cases h; exact l
def gFor (it : SI) (t : SG) (b : SS) : SS := ⟨fun en S => (it.run en S).bind fun p => loopR t b p.1 en p.2, fun {en S r} e => by
  obtain ⟨p, h1, e⟩ := bind_some_of e
  exact Nat.le_trans (it.mono h1) (loopR_mono e)⟩
theorem drop_get {α : Type} {ds : List α} {i : Nat} {d : α} (h : ds[i]? = some d) : ds.drop i = d :: ds.drop (i + 1) := by
  obtain ⟨h1, h2⟩ := List.getElem?_eq_some_iff.mp h
  rw [List.drop_eq_getElem_cons h1, h2]
theorem y_for {X : Cx} {tg iter : Expr} {body : List Stmt} {it : SI} {t : SG} {b : SS} {pos : Pos} (hp : PassesOwn (model X.prog X.w) X.A X.env X.xe) (hc : X.calm = true) (hi : ZI X tg iter it) (hg : ZG X tg t) (hb : PSs X body (tS X.K b))
    (hs : ∀ x, foldedSetIterable iter X.env x = pure x := by intro _; rfl) : PS X (.For tg iter body [] pos) (tS X.K (gFor it t b)) := by
  obtain ⟨wi, pi, ki⟩ := hi
  obtain ⟨g, pg, kg⟩ := hg
  refine ps_imp (ps_for hp hc pi pg hb hs) fun D σ H ⟨F, m, S, P, en, r, rl, er, run, q⟩ => ?_
  obtain ⟨⟨ds, S1⟩, h1, e⟩ := bind_some_of run
  refine ki σ H _ F m S P en ds S1 rl er h1 fun F1 m1 H1 J G Y u1 rl1 wk hG yl => ?_
  refine for_it wk (fun i σ H => ∃ F2 m2 S2 en2, Same F1 F2 ∧ Up F m S.length F2 m2 ∧ S.length ≤ S2.length ∧ Rl F2 m2 S2 P H ∧ ER X.K F2 m2 S2.length en2 σ ∧ loopR t b (ds.drop i) en2 S2 = some r)
    ⟨F1, m1, S1, en, Same.refl F1, u1, it.mono h1, rl1, er.up u1 (it.mono h1), e⟩ (fun i σ H _ ⟨F2, m2, S2, en2, s, _, _, rl2, _⟩ => hG F2 H s rl2.ex) ?_ ?_
  · rintro i x σ2 H2 H3 hi ⟨F2, m2, S2, en2, s2, u2, l2, rl2, er2, e2⟩ hy
    obtain ⟨F3, d, s3, rl3, hd, at3⟩ := yl i F2 m2 S2 P H2 x H3 s2 rl2 hi hy
    rw [drop_get hd] at e2
    have e2 : (t.run d en2).bind (fun en1 => (b.run en1 S2).bind fun r => match r.1 with
      | .nx => loopR t b (ds.drop (i + 1)) r.2.1 r.2.2
      | .ct => loopR t b (ds.drop (i + 1)) r.2.1 r.2.2
      | .bk => some (.nx, r.2.1, r.2.2)
      | .rt w => some (.rt w, r.2.1, r.2.2)) = some r := e2
    obtain ⟨en3, e3, e4⟩ := bind_some_of e2
    obtain ⟨⟨fl, en4, S4⟩, e5, e6⟩ := bind_some_of e4
    have u3 : Up F2 m2 S2.length F3 m2 := ⟨s3, fun _ _ => rfl⟩
    refine kg F3 H3 m2 S2.length en2 en3 σ2 x d _ rl3.ex (er2.up u3 (Nat.le_refl _)) at3 e3 fun σ3 er3 _ => ?_
    refine ⟨F3, m2, S2, P, en3, (fl, en4, S4), rl3, er3, e5, fun F5 m5 H5 u5 rl5 => ?_⟩
    have l4 := b.mono e5
    have u4 : Up F m S.length F5 m5 := (u2.trans u3 l2).trans u5 l2
    cases fl with
    | nx => exact fun σ4 er4 => ⟨F5, m5, S4, en4, (s2.trans s3).trans u5.ex, u4, Nat.le_trans l2 l4, rl5, er4, e6⟩
    | ct => exact fun σ4 er4 => ⟨F5, m5, S4, en4, (s2.trans s3).trans u5.ex, u4, Nat.le_trans l2 l4, rl5, er4, e6⟩
    | bk => cases e6; exact fun σ4 er4 => q F5 m5 H5 u4 rl5 σ4 er4
    | rt w => cases e6; exact fun v wv => q F5 m5 H5 u4 rl5 v wv
  · rintro σ2 H2 ⟨F2, m2, S2, en2, s2, u2, l2, rl2, er2, e2⟩
    rw [List.drop_length] at e2
    cases e2
    exact q F2 m2 H2 u2 rl2 σ2 er2

/-! ### comprehensions -/
def wipeE (en : En) : List Nat → En
  | [] => en
  | v :: vs => (wipeE en vs).set v none
theorem wipeE_len (en : En) : ∀ vs, (wipeE en vs).length = en.length
  | [] => rfl
  | v :: vs => by unfold wipeE; rw [List.length_set, wipeE_len]
theorem wipeE_get {en : En} {i : Nat} {x : W} : ∀ {vs : List Nat}, (wipeE en vs)[i]? = some (some x) → en[i]? = some (some x) ∧ i ∉ vs
  | [], h => ⟨h, by simp⟩
  | v :: vs, h => by
    unfold wipeE at h
    by_cases hi : v = i
    · subst hi
      by_cases hv : v < (wipeE en vs).length
      · rw [List.getElem?_set_self hv] at h; cases h
      · rw [List.getElem?_eq_none (by simpa using hv)] at h; cases h
    · rw [List.getElem?_set_ne hi] at h
      obtain ⟨h1, h2⟩ := wipeE_get h
      exact ⟨h1, by simp only [List.mem_cons, not_or]; exact ⟨fun e => hi e.symm, h2⟩⟩
theorem ER.wipe {K : PySem.W.Frag} {F : Hp} {m : Nat → Addr × Bool} {n : Nat} {en : En} {σ : L2.St} (r : ER K F m n en σ) (vs : List Nat) : ER K F m n (wipeE en vs) (wipe σ vs) := by
  refine ⟨by rw [wipeE_len, wipe_length]; exact r.len, fun i w e => ?_⟩
  obtain ⟨h1, h2⟩ := wipeE_get e
  obtain ⟨v, h3, h4⟩ := r.at' i w h1
  exact ⟨v, by rw [wipe_out h2]; exact h3, h4⟩
theorem wipe_at {σ : L2.St} {i : Nat} : ∀ {vs : List Nat}, i ∈ vs → i < σ.length → (wipe σ vs)[i]? = some none
  | [], h, _ => by cases h
  | v :: vs, h, hl => by
    unfold wipe
    by_cases e : v = i
    · subst e
      rw [List.getElem?_set_self (by rw [wipe_length]; exact hl)]
    · rw [List.getElem?_set_ne e]
      rcases List.mem_cons.mp h with z | z
      · exact absurd z.symm e
      · exact wipe_at z hl
theorem wipe_off {σ σ' : L2.St} {ts vs : List Nat} (o : Off ts (wipe σ vs) σ') (hs : ∀ t ∈ ts, t ∈ vs) : wipe σ' vs = wipe σ vs := by
  have hl : σ'.length = σ.length := by rw [o.1, wipe_length]
  apply List.ext_getElem?
  intro i
  by_cases hi : i ∈ vs
  · by_cases hlt : i < σ.length
    · rw [wipe_at hi hlt, wipe_at hi (by omega)]
    · rw [List.getElem?_eq_none (by rw [wipe_length]; omega), List.getElem?_eq_none (by rw [wipe_length]; omega)]
  · rw [wipe_out hi, o.2 i (fun z => hi (hs i z))]
theorem Rl.pin {F : Hp} {m : Nat → Addr × Bool} {S : Sto} {P : Pn} {H : Hp} (r : Rl F m S P H) {D : Addr} (hD : H D = none) (vs : List V) : Rl F m S ((D, vs) :: P) (upd H D (.lst vs)) := by
  have nF : ∀ {a : Addr} {x : HO}, H a = some x → a ≠ D := fun h => ne_of_none h hD
  refine ⟨fun a x h => by rw [upd_ne (nF (r.ex _ _ h))]; exact r.ex _ _ h, fun i ds e k => ?_, fun i ds e k => ?_, r.fr, r.nf, r.inj, fun q hq => ?_⟩
  · obtain ⟨_, o, h3⟩ := r.live e
    exact r.keepM (Same.refl F) e k rfl (upd_ne (nF h3))
  · obtain ⟨_, o, h3⟩ := r.live e
    exact r.keepD (Same.refl F) e k rfl (upd_ne (nF h3))
  · rcases List.mem_cons.mp hq with rfl | hq
    · exact ⟨r.ex.free hD, upd_same, fun i ds e => by
        obtain ⟨_, o, h3⟩ := r.live e
        exact nF h3⟩
    · obtain ⟨h1, h2, h3⟩ := r.pn q hq
      exact ⟨h1, by rw [upd_ne (nF h2)]; exact h2, h3⟩
/-- the pins apart from one another -/
def Apart (D : Addr) (P : Pn) : Prop := ∀ q ∈ P, q.1 ≠ D
theorem Rl.repin {F : Hp} {m : Nat → Addr × Bool} {S : Sto} {P : Pn} {H : Hp} {D : Addr} {vs : List V} (r : Rl F m S ((D, vs) :: P) H) (ap : Apart D P) (ws : List V) : Rl F m S ((D, ws) :: P) (upd H D (.lst ws)) := by
  obtain ⟨d1, d2, d3⟩ := r.pn (D, vs) (List.mem_cons_self)
  refine ⟨fun a x h => ?_, fun i ds e k => ?_, fun i ds e k => ?_, r.fr, r.nf, r.inj, fun q hq => ?_⟩
  · have : a ≠ D := fun z => by rw [z, d1] at h; cases h
    rw [upd_ne this]
    exact r.ex _ _ h
  · exact r.keepM (Same.refl F) e k rfl (upd_ne (d3 i ds e))
  · exact r.keepD (Same.refl F) e k rfl (upd_ne (d3 i ds e))
  · rcases List.mem_cons.mp hq with rfl | hq
    · exact ⟨d1, upd_same, d3⟩
    · obtain ⟨h1, h2, h3⟩ := r.pn q (List.mem_cons_of_mem _ hq)
      exact ⟨h1, by rw [upd_ne (ap q hq)]; exact h2, h3⟩
/-- the pin let go: plain data, or a list that may change -/
theorem Rl.unpin {K : PySem.W.Frag} {F : Hp} {m : Nat → Addr × Bool} {S : Sto} {P : Pn} {H : Hp} {D : Addr} {vs : List V} {ds : List PyData} (mt : Bool) (r : Rl F m S ((D, vs) :: P) H) (ap : Apart D P) (ha : AtAll F vs ds) :
    ∃ F' m', Up F m S.length F' m' ∧ Rl F' m' (mkL mt ds S).2 P H ∧ WR K F' m' (mkL mt ds S).2.length (.ref D) (mkL mt ds S).1 := by
  obtain ⟨d1, d2, d3⟩ := r.pn (D, vs) (List.mem_cons_self)
  have rest : Rl F m S P H := ⟨r.ex, r.mt, r.dk, r.fr, r.nf, r.inj, fun q hq => r.pn q (List.mem_cons_of_mem _ hq)⟩
  cases mt with
  | false =>
    have up : Same F (upd F D (.lst vs)) := same_upd d1
    refine ⟨upd F D (.lst vs), m, ⟨up, fun _ _ => rfl⟩, ⟨fun a x h => ?_, fun i es e k => ?_, fun i es e k => ?_, fun i es e => ?_, r.nf, r.inj, fun q hq => ?_⟩, .lst upd_same (ha.mono up)⟩
    · by_cases hd : a = D
      · subst hd
        rw [upd_same] at h
        cases h
        exact d2
      · rw [upd_ne hd] at h
        exact r.ex _ _ h
    · exact r.keepM up e k (upd_ne (d3 i es e)) rfl
    · exact r.keepD up e k (upd_ne (d3 i es e)) rfl
    · obtain ⟨us, h1, h2⟩ := r.fr i es e
      exact ⟨us, h1.mono up, up _ _ h2⟩
    · obtain ⟨h1, h2, h3⟩ := rest.pn q hq
      exact ⟨by rw [upd_ne (ap q hq)]; exact h1, h2, h3⟩
  | true =>
    have lt : ∀ {i : Nat} {x}, S[i]? = some x → i < S.length := fun {i x} e => (List.getElem?_eq_some_iff.mp e).1
    have old : ∀ {i : Nat} {x}, (S ++ [(true, ds)])[i]? = some x → (i < S.length ∧ S[i]? = some x) ∨ (i = S.length ∧ x = (true, ds)) := fun {i x} e => by
      by_cases hi : i < S.length
      · rw [List.getElem?_append_left hi] at e
        exact .inl ⟨hi, e⟩
      · rw [List.getElem?_append_right (by omega)] at e
        by_cases h0 : i - S.length = 0
        · rw [h0] at e
          simp at e
          exact .inr ⟨by omega, by first | exact e.symm | (obtain ⟨rfl, rfl⟩ := e; rfl)⟩
        · obtain ⟨k, hk⟩ : ∃ k, i - S.length = k + 1 := ⟨i - S.length - 1, by omega⟩
          rw [hk] at e
          simp at e
    have mo : ∀ {i : Nat}, i < S.length → (fun i => if i = S.length then (D, false) else m i) i = m i := fun {i} hi => if_neg (by omega)
    have mn : (fun i => if i = S.length then (D, false) else m i) S.length = (D, false) := if_pos rfl
    generalize (fun i => if i = S.length then (D, false) else m i) = m' at mo mn
    refine ⟨F, m', ⟨Same.refl F, fun i hi => mo hi⟩, ⟨r.ex, fun i es e k => ?_, fun i es e k => ?_, fun i es e => ?_, fun i es e => ?_, fun i j es fs e1 e2 z => ?_, fun q hq => ?_⟩, ⟨by rw [mn], by show S.length < (S ++ [(true, ds)]).length; simp, by rw [mn]⟩⟩
    · rcases old e with ⟨hi, e1⟩ | ⟨rfl, e1⟩
      · rw [mo hi] at k ⊢
        exact r.mt i es e1 k
      · injection e1 with _ e2
        subst e2
        rw [mn]
        exact ⟨vs, ha, d1, d2⟩
    · rcases old e with ⟨hi, e1⟩ | ⟨rfl, e1⟩
      · rw [mo hi] at k ⊢
        exact r.dk i es e1 k
      · rw [mn] at k
        cases k
    · rcases old e with ⟨hi, e1⟩ | ⟨rfl, e1⟩
      · rw [mo hi]
        exact r.fr i es e1
      · injection e1 with e2 _
        cases e2
    · rcases old e with ⟨hi, e1⟩ | ⟨rfl, e1⟩
      · rw [mo hi]
        exact r.nf i es e1
      · injection e1 with e2 _
        cases e2
    · rcases old e1 with ⟨hi, g1⟩ | ⟨rfl, g1⟩ <;> rcases old e2 with ⟨hj, g2⟩ | ⟨rfl, g2⟩
      · rw [mo hi, mo hj] at z
        exact r.inj i j _ _ g1 g2 z
      · rw [mo hi, mn] at z
        exact absurd z (d3 i _ g1)
      · rw [mo hj, mn] at z
        exact absurd z.symm (d3 j _ g2)
      · rfl
    · obtain ⟨h1, h2, h3⟩ := rest.pn q hq
      refine ⟨h1, h2, fun i es e => ?_⟩
      rcases old e with ⟨hi, e1⟩ | ⟨rfl, e1⟩
      · rw [mo hi]
        exact h3 i _ e1
      · rw [mn]
        exact (ap q hq).symm
def lcR (own : List Nat) (t : SG) (c : SE) (f : SE) (en : En) : List PyData → Sto → List PyData → Option (List PyData × Sto)
  | [], S, acc => some (acc, S)
  | d :: ds, S, acc => (t.run d (wipeE en own)).bind fun en1 => (c.run en1 S).bind fun p => (truth p.1 p.2).bind fun b =>
      if b = true then (f.run en1 p.2).bind fun q => (fz q.1 q.2).bind fun r => lcR own t c f en ds r.2 (acc ++ [r.1]) else lcR own t c f en ds p.2 acc
theorem lcR_mono {own : List Nat} {t : SG} {c f : SE} {en : En} : ∀ {ds : List PyData} {S : Sto} {acc : List PyData} {r}, lcR own t c f en ds S acc = some r → S.length ≤ r.2.length
  | [], S, acc, r, h => by cases h; exact Nat.le_refl _
  | d :: ds, S, acc, r, h => by
    obtain ⟨en1, h1, h⟩ := bind_some_of h
    obtain ⟨p, h2, h⟩ := bind_some_of h
    obtain ⟨b, h3, h⟩ := bind_some_of h
    have l := c.mono h2
    cases b with
    | true =>
      obtain ⟨q, h4, h⟩ := bind_some_of h
      obtain ⟨z, h5, h⟩ := bind_some_of h
      have l2 := f.mono h4
      rw [fz_len h5] at l2
      exact Nat.le_trans l (Nat.le_trans l2 (lcR_mono h))
    | false => exact Nat.le_trans l (lcR_mono h)
def sLc (mt : Bool) (own : List Nat) (it : SI) (t : SG) (c f : SE) : SE := ⟨fun en S => (it.run en S).bind fun p => if few p.1 = true then (lcR own t c f en p.1 p.2 []).map fun q => mkL mt q.1 q.2 else none, fun {en S w S'} e => by
  obtain ⟨p, h1, e⟩ := bind_some_of e
  split at e
  · obtain ⟨q, h2, e⟩ := Option.map_eq_some_iff.mp e
    have h3 := mkL_len (mt := mt) (ds := q.1) (S := q.2)
    rw [e] at h3
    exact Nat.le_trans (it.mono h1) (Nat.le_trans (lcR_mono h2) h3)
  · cases e⟩
end Z

namespace Z
open PySem L2 PyProof.Rows

/-! ### list comprehensions -/
theorem lc_imp {K : PySem.W.Frag} {mt : Bool} {own : List Nat} {it : SI} {t : SG} {c f : SE} {wi : TI} {g : TG} {tt : TT} {te : TE}
    (ki : ∀ (σ : L2.St) (H : Hp) (R : It → Hp → Prop) F m S P en ds S', Rl F m S P H → ER K F m S.length en σ → it.run en S = some (ds, S') →
      (∀ F' m' H' J G Y, Up F m S.length F' m' → Rl F' m' S' P H' → Walk J ds.length G Y → (∀ F1 H1, Same F' F1 → Same F1 H1 → G H1) → Yld ds F' Y → R J H') → wi σ H R)
    (kg : ∀ (F H : Hp) (m : Nat → Addr × Bool) (n : Nat) (en en' : En) (σ : L2.St) (v : V) (d : PyData) (Q : L2.St → Hp → Prop), Same F H → ER K F m n en σ → At F v d → t.run d en = some en' →
      (∀ σ', ER K F m n en' σ' → Off t.ts σ σ' → Q σ' H) → g v σ H Q)
    (hts : ∀ j ∈ t.ts, j ∈ own) (kt : ∀ σ H Q, tIT K c σ H Q → tt σ H Q) (kf : ∀ σ H Q, tI K f σ H Q → te σ H Q) :
    ∀ σ H Q, tI K (sLc mt own it t c f) σ H Q → tLc wi g tt te own σ H Q := by
  intro σ H Q ⟨F, m, S, P, en, w, S', rl, er, run, q⟩
  obtain ⟨⟨ds, S1⟩, h1, e⟩ := bind_some_of run
  split at e
  · rename_i hfew
    obtain ⟨⟨out, S2⟩, h2, e⟩ := Option.map_eq_some_iff.mp e
    refine ki σ H _ F m S P en ds S1 rl er h1 fun F1 m1 H1 J G Y u1 rl1 wk hG yl => fun D hD => ?_
    have apD : Apart D P := fun p hp z => by
      have := (rl1.pn p hp).2.1
      rw [z, hD] at this
      cases this
    refine lc_it wk (fun i H => ∃ F2 m2 S2' acc vs, Same F1 F2 ∧ Up F m S.length F2 m2 ∧ S.length ≤ S2'.length ∧ Rl F2 m2 S2' ((D, vs) :: P) H ∧ AtAll F2 vs acc ∧ acc.length ≤ i ∧ ER K F2 m2 S2'.length en σ ∧ lcR own t c f en (ds.drop i) S2' acc = some (out, S2))
      ⟨F1, m1, S1, [], [], Same.refl F1, u1, it.mono h1, rl1.pin hD [], .nil, Nat.le_refl _, er.up u1 (it.mono h1), h2⟩ (fun i H _ ⟨F2, m2, S2', acc, vs, s, _, _, rl2, _⟩ => hG F2 H s rl2.ex) ?_ ?_
    · rintro i x H2 H3 hi ⟨F2, m2, S3, acc, vs, s2, u2, l2, rl2, av, hl, er2, e2⟩ hy
      obtain ⟨F3, d, s3, rl3, hd, at3⟩ := yl i F2 m2 S3 _ H2 x H3 s2 rl2 hi hy
      rw [drop_get hd] at e2
      have e2 : (t.run d (wipeE en own)).bind (fun en1 => (c.run en1 S3).bind fun p => (truth p.1 p.2).bind fun b =>
        if b = true then (f.run en1 p.2).bind fun q => (fz q.1 q.2).bind fun r => lcR own t c f en (ds.drop (i + 1)) r.2 (acc ++ [r.1]) else lcR own t c f en (ds.drop (i + 1)) p.2 acc) = some (out, S2) := e2
      obtain ⟨en1, g1, e3⟩ := bind_some_of e2
      obtain ⟨⟨x1, S4⟩, g2, e4⟩ := bind_some_of e3
      obtain ⟨b, g3, e5⟩ := bind_some_of e4
      have u3 : Up F2 m2 S3.length F3 m2 := ⟨s3, fun _ _ => rfl⟩
      have er3 := er2.up u3 (Nat.le_refl _)
      refine kg F3 H3 m2 S3.length (wipeE en own) en1 (wipe σ own) x d _ rl3.ex (er3.wipe own) at3 g1 fun σ3 er4 off => ⟨wipe_off off hts, ?_⟩
      refine kt σ3 H3 _ ⟨F3, m2, S3, (D, vs) :: P, en1, x1, S4, b, rl3, er4, g2, g3, fun F4 m4 H4 u4 rl4 => ?_⟩
      have l4 : S3.length ≤ S4.length := c.mono g2
      cases b with
      | false =>
        refine iteF ⟨F4, m4, S4, acc, vs, (s2.trans s3).trans u4.ex, (u2.trans u3 l2).trans u4 l2, Nat.le_trans l2 l4, rl4, (av.mono s3).mono u4.ex, by omega, er3.up u4 l4, e5⟩
      | true =>
        obtain ⟨⟨y, S5⟩, g4, e6⟩ := bind_some_of e5
        obtain ⟨⟨d', S6⟩, g5, e7⟩ := bind_some_of e6
        have l5 : S4.length ≤ S5.length := f.mono g4
        have l6 : S5.length = S6.length := fz_len g5
        refine iteT (kf σ3 H4 _ ⟨F4, m4, S4, (D, vs) :: P, en1, y, S5, rl4, er4.up u4 l4, g4, fun F5 m5 H5 v u5 rl5 wr5 => ?_⟩)
        obtain ⟨F6, s6, rl6, at6⟩ := fz_ok rl5 wr5 g5
        have hDl := (rl6.pn (D, vs) List.mem_cons_self).2.1
        have av6 : AtAll F6 vs acc := (((av.mono s3).mono u4.ex).mono u5.ex).mono s6
        refine ⟨vs, hDl, ?_, F6, m5, S6, acc ++ [d'], vs ++ [v], (((s2.trans s3).trans u4.ex).trans u5.ex).trans s6, ?_, by omega, rl6.repin apD _, av6.append (.cons at6 .nil), by rw [List.length_append, List.length_singleton]; omega, ?_, e7⟩
        · rw [av6.length]
          have hle : ds.length ≤ sizeLine := few_ok hfew
          omega
        · exact (((u2.trans u3 l2).trans u4 l2).trans u5 (by omega)).trans ⟨s6, fun _ _ => rfl⟩ (by omega)
        · exact ((er3.up u4 l4).up u5 l5).up ⟨s6, fun _ _ => rfl⟩ (by omega)
    · rintro H2 ⟨F2, m2, S3, acc, vs, s2, u2, l2, rl2, av, hl, er2, e2⟩
      rw [List.drop_length] at e2
      cases e2
      obtain ⟨F4, m4, u4, rl4, wr4⟩ := rl2.unpin (K := K) mt apD av
      have e' : mkL mt out S2 = (w, S') := e
      rw [e'] at rl4 wr4
      exact q F4 m4 H2 (.ref D) (u2.trans u4 l2) rl4 wr4
  · cases e
/-- a comprehension's tests -/
def ZTs (X : Cx) (ifs : List Expr) (c : SE) : Prop := ∃ tt, PTs X ifs tt ∧ ∀ σ H Q, tIT X.K c σ H Q → tt σ H Q
def sYes : SE := sC (.bool true)
theorem ts_nil {X : Cx} : PTs X [] tYes ∧ ∀ σ H Q, tIT X.K sYes σ H Q → tYes σ H Q := by
  refine ⟨pts_nil, fun σ H Q ⟨F, m, S, P, en, w, S', b, rl, er, run, tr, q⟩ => ?_⟩
  have run : some (W.pu (.bool true), S) = some (w, S') := run
  cases run
  cases tr
  exact q F m H (Up.refl _ _ _) rl
section
variable {X : Cx} {elt tg iter : Expr} {ifs : List Expr} {scope : Scope} {own : List (Str × Nat)} {pos spos : Pos} {it : SI} {t : SG} {c f : SE} {g : TG} {tt : TT}
theorem hts_of {ts own : List Nat} (h : (ts.all fun j => own.contains j) = true) : ∀ j ∈ ts, j ∈ own := fun j hj => by
  have := List.all_eq_true.mp h j hj
  simpa using this
theorem z_lc (mt : Bool) (hc : X.calm = true) (hN : X.N.Nodup) (hi : ZI X tg iter it) (ok : BlkOk X.N X.env.scope scope own)
    (hg : ∀ (s : Shared) (H : Hp) (C : Addr) (cl : List (Str × Addr)) (fp : List Addr), PG (X.blk s H scope (compEnvC scope cl C X.env) fp) tg g)
    (kg : ∀ (F H : Hp) (m : Nat → Addr × Bool) (n : Nat) (en en' : En) (σ : L2.St) (v : V) (d : PyData) (Q : L2.St → Hp → Prop), Same F H → ER X.K F m n en σ → At F v d → t.run d en = some en' →
      (∀ σ', ER X.K F m n en' σ' → Off t.ts σ σ' → Q σ' H) → g v σ H Q) (hts : (t.ts.all fun j => (own.map (·.2)).contains j) = true)
    (ht : ∀ (s : Shared) (H : Hp) (C : Addr) (cl : List (Str × Addr)) (fp : List Addr), PTs (X.blk s H scope (compEnvC scope cl C X.env) fp) ifs tt) (kt : ∀ σ H Q, tIT X.K c σ H Q → tt σ H Q)
    (he : ∀ (s : Shared) (H : Hp) (C : Addr) (cl : List (Str × Addr)) (fp : List Addr), PE (X.blk s H scope (compEnvC scope cl C X.env) fp) elt (tI X.K f)) (hs : ∀ x, foldedSetIterable iter X.env x = pure x := by intro _; rfl) :
    PE X (.ListComp elt [⟨tg, iter, ifs, 0⟩] scope pos) (tI X.K (sLc mt (own.map (·.2)) it t c f)) := by
  obtain ⟨wi, pi, ki⟩ := hi
  exact pe_imp (pe_lc hc hN pi ok hg ht he hs) (lc_imp ki kg (hts_of hts) kt fun _ _ _ h => h)
theorem y_setLc {i : Nat} {y : Str} {py : Pos} (mt : Bool) (hc : X.calm = true) (hN : X.N.Nodup) (hy : X.N[i]? = some y) (hyl : X.env.scope.names.lookup y = some .local)
    (hsw : swapsWith (.ListComp elt [⟨tg, iter, ifs, 0⟩] scope pos) (some (.Name y py)) spos.line X.env = pure true) (hi : ZI X tg iter it) (ok : BlkOk X.N X.env.scope scope own)
    (hg : ∀ (s : Shared) (H : Hp) (C : Addr) (cl : List (Str × Addr)) (fp : List Addr), PG (X.blk s H scope (compEnvC scope cl C X.env) fp) tg g)
    (kg : ∀ (F H : Hp) (m : Nat → Addr × Bool) (n : Nat) (en en' : En) (σ : L2.St) (v : V) (d : PyData) (Q : L2.St → Hp → Prop), Same F H → ER X.K F m n en σ → At F v d → t.run d en = some en' →
      (∀ σ', ER X.K F m n en' σ' → Off t.ts σ σ' → Q σ' H) → g v σ H Q) (hts : (t.ts.all fun j => (own.map (·.2)).contains j) = true)
    (ht : ∀ (s : Shared) (H : Hp) (C : Addr) (cl : List (Str × Addr)) (fp : List Addr), PTs (X.blk s H scope (compEnvC scope cl C X.env) fp) ifs tt) (kt : ∀ σ H Q, tIT X.K c σ H Q → tt σ H Q)
    (he : ∀ (s : Shared) (H : Hp) (C : Addr) (cl : List (Str × Addr)) (fp : List Addr), PE (X.blk s H scope (compEnvC scope cl C X.env) fp) elt (tI X.K f)) (hs : ∀ x, foldedSetIterable iter X.env x = pure x := by intro _; rfl) :
    PS X (.Assign [.Name y py] (.ListComp elt [⟨tg, iter, ifs, 0⟩] scope pos) spos) (tS X.K (gSet i (sLc mt (own.map (·.2)) it t c f))) := by
  obtain ⟨wi, pi, ki⟩ := hi
  exact y_setT (ps_imp (ps_setLc hc hN hy hyl hsw pi ok hg ht he hs) fun D σ H h => lc_imp ki kg (hts_of hts) kt (fun _ _ _ h => h) σ H _ h)
end

/-! ### slices -/
def cutG {α : Type} (xs : List α) (lo hi : Option Int) : List α := (xs.drop (HT.sIx xs.length 0 lo)).take (HT.sIx xs.length xs.length hi - HT.sIx xs.length 0 lo)
theorem AtAll.cut {F : Hp} {vs : List V} {ds : List PyData} (h : AtAll F vs ds) (lo hi : Option Int) : AtAll F (cutV vs lo hi) (cutG ds lo hi) := by
  unfold cutV cutG
  rw [h.length]
  exact (h.drop _).take _
structure SO where
  run : En → Sto → Option (Option Int × Sto)
  mono : ∀ {en S r}, run en S = some r → S.length ≤ r.2.length
def tIO (K : PySem.W.Frag) (f : SO) : TO := fun σ H Q => ∃ F m S P en w S', Rl F m S P H ∧ ER K F m S.length en σ ∧ f.run en S = some (w, S') ∧
  ∀ F' m' H', Up F m S.length F' m' → Rl F' m' S' P H' → Q w H'
def oNone : SO := ⟨fun _ S => some (none, S), fun h => by cases h; exact Nat.le_refl _⟩
def oSome (f : SE) : SO := ⟨fun en S => (f.run en S).bind fun p => match look p.1 p.2 with
  | some (.int i) => some (some i, p.2)
  | _ => none, fun {en S r} e => by
  obtain ⟨p, h1, e⟩ := bind_some_of e
  split at e <;> cases e
  exact f.mono h1⟩
section
variable {X : Cx} {e : Expr} {lo hi : Option Expr} {pos p2 : Pos} {f : SE} {a b : SO}
theorem po_imp {t t' : TO} (h : PO X lo t) (i : ∀ σ H Q, t' σ H Q → t σ H Q) : PO X lo t' := ⟨fun pins s σ H Q I q => h.run pins s σ H Q I (i σ H Q q)⟩
theorem zo_none : PO X none (tIO X.K oNone) := po_imp po_none fun σ H Q ⟨F, m, S, P, en, w, S', rl, er, run, q⟩ => by
  cases run
  exact q F m H (Up.refl _ _ _) rl
theorem zo_some (h : PE X e (tI X.K f)) : PO X (some e) (tIO X.K (oSome f)) := by
  refine po_imp (po_some h) fun σ H Q ⟨F, m, S, P, en, w, S', rl, er, run, q⟩ => ?_
  obtain ⟨⟨x, S1⟩, h1, e⟩ := bind_some_of run
  split at e
  · rename_i i hx
    cases e
    exact ⟨F, m, S, P, en, x, S1, rl, er, h1, fun F1 m1 H1 v u1 rl1 wr1 => ⟨i, (look_ok rl1 wr1 hx).int, q F1 m1 H1 u1 rl1⟩⟩
  · cases e
/-- a list's (or the script's) part: a new list; a tuple's: a new tuple (not the whole) -/
def sSl (mt : Bool) (f : SE) (a b : SO) : SE := ⟨fun en S => (f.run en S).bind fun p => (a.run en p.2).bind fun l => (b.run en l.2).bind fun h => match p.1 with
  | .pu (.tuple ds) => if HT.sIx ds.length 0 l.1 = 0 ∧ HT.sIx ds.length ds.length h.1 = ds.length then none else some (.pu (.tuple (cutG ds l.1 h.1)), h.2)
  | .pu (.list ds) => some (mkL mt (cutG ds l.1 h.1) h.2)
  | .mu i => (h.2[i]?).map fun x => mkL mt (cutG x.2 l.1 h.1) h.2
  | .sq ns => some (mkL mt (cutG (ns.map .int) l.1 h.1) h.2)
  | _ => none, fun {en S w S'} e => by
  obtain ⟨p, h1, e⟩ := bind_some_of e
  obtain ⟨l, h2, e⟩ := bind_some_of e
  obtain ⟨h, h3, e⟩ := bind_some_of e
  have ll := Nat.le_trans (f.mono h1) (Nat.le_trans (a.mono h2) (b.mono h3))
  have fin : ∀ {ds : List PyData}, mkL mt ds h.2 = (w, S') → S.length ≤ S'.length := fun {ds} z => by
    have := mkL_len (mt := mt) (ds := ds) (S := h.2)
    rw [z] at this
    exact Nat.le_trans ll this
  split at e
  · split at e <;> cases e
    exact ll
  · exact fin (Option.some.inj e)
  · obtain ⟨x, h4, e⟩ := Option.map_eq_some_iff.mp e
    exact fin e
  · exact fin (Option.some.inj e)
  · cases e⟩
def rSlZ (K : PySem.W.Frag) : V → Option Int → Option Int → Hp → VK → Prop := fun x lo hi H Q => rSlL K x lo hi H Q ∨ rSlT K x lo hi H Q
theorem z_sl (mt : Bool) (he : PE X e (tI X.K f)) (hl : PO X lo (tIO X.K a)) (hu : PO X hi (tIO X.K b)) : PE X (.Subscript e (.Slice lo hi none p2) pos) (tI X.K (sSl mt f a b)) := by
  refine pe_imp (pe_slice (SlR.or sl_list sl_tup) he hl hu) fun σ H Q ⟨F, m, S, P, en, w, S', rl, er, run, q⟩ => ?_
  obtain ⟨⟨x, S1⟩, h1, e⟩ := bind_some_of run
  obtain ⟨⟨l, S2⟩, h2, e⟩ := bind_some_of e
  obtain ⟨⟨h, S3⟩, h3, e⟩ := bind_some_of e
  refine ⟨F, m, S, P, en, x, S1, rl, er, h1, fun F1 m1 H1 v u1 rl1 wr1 => ⟨F1, m1, S1, P, en, l, S2, rl1, er.up u1 (f.mono h1), h2, fun F2 m2 H2 u2 rl2 => ?_⟩⟩
  have er2 := (er.up u1 (f.mono h1)).up u2 (a.mono h2)
  refine ⟨F2, m2, S2, P, en, h, S3, rl2, er2, h3, fun F3 m3 H3 u3 rl3 => ?_⟩
  have u0 := (u1.trans u2 (f.mono h1)).trans u3 (Nat.le_trans (f.mono h1) (a.mono h2))
  have ll := Nat.le_trans (f.mono h1) (Nat.le_trans (a.mono h2) (b.mono h3))
  have wr3 := (wr1.up u2 (a.mono h2)).up u3 (b.mono h3)
  have lst : ∀ {ds : List PyData} {p : Addr} {vs : List V}, v = .ref p → SqL X.K H3 p vs → AtAll F3 vs ds → mkL mt (cutG ds l h) S3 = (w, S') → (rSlL X.K v l h H3 Q ∨ rSlT X.K v l h H3 Q) := fun {ds p vs} g0 g1 g2 ee => by
    refine .inl ⟨p, vs, g0, g1, mkL_ok (K := X.K) (mt := mt) rl3 (g2.cut l h) fun F4 m4 H4 v4 u4 rl4 wr4 => ?_⟩
    rw [ee] at rl4 wr4
    exact q F4 m4 H4 v4 (u0.trans u4 ll) rl4 wr4
  cases x with
  | pu d =>
    cases d with
    | tuple ds =>
      have e : (if HT.sIx ds.length 0 l = 0 ∧ HT.sIx ds.length ds.length h = ds.length then none else some (W.pu (.tuple (cutG ds l h)), S3)) = some (w, S') := e
      split at e
      · cases e
      · rename_i hw
        cases e
        cases wr3 with
        | @tup p vs _ g1 g2 =>
          refine .inr ⟨p, vs, rfl, SqT.of (rl3.ex _ _ g1), by rw [g2.length]; exact hw, fun p' hp' => ?_⟩
          have s := same_upd (o := HO.tup (cutV vs l h)) (rl3.ex.free hp')
          exact q (upd F3 p' (.tup (cutV vs l h))) m3 _ _ (u0.trans ⟨s, fun _ _ => rfl⟩ ll) (rl3.new hp') (.tup upd_same ((g2.cut l h).mono s))
    | list ds =>
      cases wr3 with
      | lst g1 g2 => exact lst rfl (SqL.of (rl3.ex _ _ g1)) g2 (Option.some.inj e)
    | _ => cases e
  | mu i =>
    have e : (S3[i]?).map (fun x => mkL mt (cutG x.2 l h) S3) = some (w, S') := e
    obtain ⟨y, g, e⟩ := Option.map_eq_some_iff.mp e
    obtain ⟨p, vs, rfl, g1, g2⟩ := lookL_ok (ds := y.2) rl3 wr3 (by show (S3[i]?).map (fun p => p.2) = _; rw [g]; rfl)
    rcases g1 with g1 | g1
    · exact lst rfl g1 g2 e
    · obtain ⟨b', ys⟩ := y
      obtain ⟨w1, _, hk⟩ := wr3
      injection w1 with w1
      cases b' with
      | true =>
        obtain ⟨us, k1, k2, k3⟩ := rl3.mt i ys g hk
        rw [← w1] at k3
        exact lst rfl (SqL.of k3) k1 e
      | false =>
        obtain ⟨us, k1, k2⟩ := rl3.fr i ys g
        rw [← w1] at k2
        exact lst rfl (SqL.of (rl3.ex _ _ k2)) k1 e
  | sq ns =>
    obtain ⟨p, rfl, g1⟩ := wr3
    exact lst rfl (rl3.ex.seq g1) (AtAll.of_ints ns) (Option.some.inj e)
  | ml is => cases e
  | dk j => cases e
end

/-! ### stores and methods of a list that may change -/
def gStore (i : Nat) (k f : SE) : SS := ⟨fun en S => (f.run en S).bind fun p => (k.run en p.2).bind fun q => (fz p.1 q.2).bind fun r => match en[i]?, q.1 with
  | some (some (.mu j)), .pu (.int z) => match r.2[j]? with
    | some (true, ds) => (ixN ds.length z).map fun n => (.nx, en, r.2.set j (true, ds.set n r.1))
    | _ => none
  | _, _ => none, fun {en S r} e => by
  obtain ⟨p, h1, e⟩ := bind_some_of e
  obtain ⟨q, h2, e⟩ := bind_some_of e
  obtain ⟨z, h3, e⟩ := bind_some_of e
  have l := Nat.le_trans (f.mono h1) (k.mono h2)
  rw [fz_len h3] at l
  split at e
  · split at e
    · obtain ⟨n, h4, e⟩ := Option.map_eq_some_iff.mp e
      cases e
      show S.length ≤ (z.2.set _ _).length
      rw [List.length_set]
      exact l
    · cases e
  · cases e⟩
theorem er_mu {K : PySem.W.Frag} {F : Hp} {m : Nat → Addr × Bool} {n : Nat} {en : En} {σ : L2.St} {i j : Nat} (r : ER K F m n en σ) (h : en[i]? = some (some (.mu j))) : σ[i]? = some (some (.ref (m j).1)) ∧ j < n ∧ (m j).2 = false := by
  obtain ⟨v, h1, h2, h3⟩ := r.at' i _ h
  rw [h2] at h1
  exact ⟨h1, h3⟩
theorem y_store {X : Cx} {e ie : Expr} {x : Str} {i : Nat} {px ps' pos : Pos} {k f : SE} (he : PE X e (tI X.K f)) (hv : PE X (.Name x px) (tVar i)) (hk : PE X ie (tI X.K k))
    (hp : ∀ {te g}, PE X e te → PG X (.Subscript (.Name x px) ie ps') g → PS X (.Assign [.Subscript (.Name x px) ie ps'] e pos) (tAsg te g))
    (hpg : ∀ {to ti t}, PE X (.Name x px) to → PE X ie ti → PSet X t → PG X (.Subscript (.Name x px) ie ps') (gSub to ti t)) : PS X (.Assign [.Subscript (.Name x px) ie ps'] e pos) (tS X.K (gStore i k f)) := by
  refine ps_imp (hp he (hpg hv hk set_list)) fun D σ H ⟨F, m, S, P, en, r, rl, er, run, q⟩ => ?_
  obtain ⟨⟨w, S1⟩, h1, e⟩ := bind_some_of run
  obtain ⟨⟨y, S2⟩, h2, e⟩ := bind_some_of e
  obtain ⟨⟨d, S3⟩, h3, e⟩ := bind_some_of e
  split at e
  · rename_i j z hj hz
    split at e
    · rename_i ds hds
      obtain ⟨n, hn, e⟩ := Option.map_eq_some_iff.mp e
      cases e
      refine ⟨F, m, S, P, en, w, S1, rl, er, h1, fun F1 m1 H1 v u1 rl1 wr1 => ?_⟩
      have er1 := er.up u1 (f.mono h1)
      refine ⟨.ref (m1 j).1, (er_mu er1 hj).1, F1, m1, S1, P, en, y, S2, rl1, er1, h2, fun F2 m2 H2 v2 u2 rl2 wr2 => ?_⟩
      have er2 := er1.up u2 (k.mono h2)
      obtain ⟨F3, s3, rl3, at3⟩ := fz_ok rl2 (wr1.up u2 (k.mono h2)) h3
      have l3 : S2.length = S3.length := fz_len h3
      have hy : y = .pu (.int z) := hz
      subst hy
      cases wr2
      have mj : m2 j = m1 j := u2.ag j (er_mu er1 hj).2.1
      have kj : (m2 j).2 = false := by rw [mj]; exact (er_mu er1 hj).2.2
      obtain ⟨vs, g1, g2, g3⟩ := rl3.mt j ds hds kj
      rw [mj] at g2 g3
      refine ⟨(m1 j).1, vs, z, n, rfl, rfl, g3, by rw [g1.length]; exact hn, ?_⟩
      have rl4 := rl3.write hds kj (g1.set at3 n)
      rw [mj] at rl4
      have u4 : Up F m S.length F3 m2 := (u1.trans u2 (f.mono h1)).trans ⟨s3, fun _ _ => rfl⟩ (Nat.le_trans (f.mono h1) (k.mono h2))
      have er4 : ER X.K F3 m2 (S3.set j (true, ds.set n d)).length en σ := by
        rw [List.length_set, ← l3]
        exact er2.up ⟨s3, fun _ _ => rfl⟩ (Nat.le_refl _)
      exact q F3 m2 _ u4 rl4 σ er4
    · cases e
  · cases e
/-- x.append(e) as a statement -/
def gApp (i : Nat) (f : SE) : SS := ⟨fun en S => (f.run en S).bind fun p => (fz p.1 p.2).bind fun r => match en[i]? with
  | some (some (.mu j)) => match r.2[j]? with
    | some (true, ds) => if few ds = true then some (.nx, en, r.2.set j (true, ds ++ [r.1])) else none
    | _ => none
  | _ => none, fun {en S r} e => by
  obtain ⟨p, h1, e⟩ := bind_some_of e
  obtain ⟨z, h3, e⟩ := bind_some_of e
  have l := f.mono h1
  rw [fz_len h3] at l
  split at e
  · split at e
    · split at e <;> cases e
      show S.length ≤ (z.2.set _ _).length
      rw [List.length_set]
      exact l
    · cases e
  · cases e⟩
theorem few_lt {ws : List PyData} (h : few ws = true) : ws.length < sizeLine := Nat.lt_of_le_of_lt (of_decide_eq_true h) (by decide)
theorem y_app {X : Cx} {e : Expr} {x : Str} {i : Nat} {px apos cpos pos : Pos} {f : SE} (he : PE X e (tI X.K f)) (hv : PE X (.Name x px) (tVar i))
    (hp : ∀ {to t}, PE X (.Name x px) to → PA X [e] t → PS X (.Expr (.Call (.Attribute (.Name x px) "append" apos) [e] [] cpos) pos) (tDrop (tBM X.K "list" rAppend to t))) (hs : starEach [e] X.env = (false, eval e X.env) :: starEach [] X.env := by rfl) :
    PS X (.Expr (.Call (.Attribute (.Name x px) "append" apos) [e] [] cpos) pos) (tS X.K (gApp i f)) := by
  refine ps_imp (hp hv (pa_cons he pa_nil hs)) fun D σ H ⟨F, m, S, P, en, r, rl, er, run, q⟩ => ?_
  obtain ⟨⟨w, S1⟩, h1, e⟩ := bind_some_of run
  obtain ⟨⟨d, S3⟩, h3, e⟩ := bind_some_of e
  split at e
  · rename_i j hj
    split at e
    · rename_i ds hds
      split at e
      · rename_i hf
        cases e
        have hS : ∃ b xs, S[j]? = some (b, xs) := by
          have := (er_mu er hj).2.1
          exact ⟨_, _, List.getElem?_eq_getElem this⟩
        obtain ⟨b, xs, hS⟩ := hS
        refine ⟨.ref (m j).1, (er_mu er hj).1, ?_, F, m, S, P, en, w, S1, rl, er, h1, fun F1 m1 H1 v u1 rl1 wr1 => ?_⟩
        · cases b with
          | true =>
            obtain ⟨vs, g1, g2, g3⟩ := rl.mt j _ hS (er_mu er hj).2.2
            exact .inl ⟨rfl, vs, SqL.of g3⟩
          | false =>
            obtain ⟨vs, g1, g2⟩ := rl.fr j _ hS
            exact .inl ⟨rfl, vs, SqL.of (rl.ex _ _ g2)⟩
        · obtain ⟨F3, s3, rl3, at3⟩ := fz_ok rl1 wr1 h3
          have l3 : S1.length = S3.length := fz_len h3
          have mj : m1 j = m j := u1.ag j (er_mu er hj).2.1
          have kj : (m1 j).2 = false := by rw [mj]; exact (er_mu er hj).2.2
          obtain ⟨vs, g1, g2, g3⟩ := rl3.mt j ds hds kj
          rw [mj] at g2 g3
          refine ⟨(m j).1, vs, v, rfl, rfl, g3, by rw [g1.length]; exact few_lt hf, ?_⟩
          have rl4 := rl3.write hds kj (g1.append (.cons at3 .nil))
          rw [mj] at rl4
          have u4 : Up F m S.length F3 m1 := u1.trans ⟨s3, fun _ _ => rfl⟩ (f.mono h1)
          have er4 : ER X.K F3 m1 (S3.set j (true, ds ++ [d])).length en σ := by
            rw [List.length_set, ← l3]
            exact (er.up u1 (f.mono h1)).up ⟨s3, fun _ _ => rfl⟩ (Nat.le_refl _)
          exact q F3 m1 _ u4 rl4 σ er4
      · cases e
    · cases e
  · cases e
end Z

namespace Z
open PySem L2 PyProof.Rows

section
variable {K : PySem.W.Frag}
theorem wr1 {F : Hp} {m : Nat → Addr × Bool} {n : Nat} {vs : List V} {w : W} (h : WRs K F m n vs [w]) : ∃ v, vs = [v] ∧ WR K F m n v w := by
  cases h with
  | cons h t => cases t; exact ⟨_, rfl, h⟩
theorem wr2 {F : Hp} {m : Nat → Addr × Bool} {n : Nat} {vs : List V} {w w' : W} (h : WRs K F m n vs [w, w']) : ∃ v v', vs = [v, v'] ∧ WR K F m n v w ∧ WR K F m n v' w' := by
  cases h with
  | cons h t =>
    obtain ⟨v, rfl, h'⟩ := wr1 t
    exact ⟨_, v, rfl, h, h'⟩
def oLen : List W → Sto → Option W
  | [w], S => (lookL w S).map fun ds => .pu (.int (ds.length : Nat))
  | _, _ => none
theorem cs_len : CaS K (fun xs H Q => ∃ p ys, xs = [.ref p] ∧ (SqL K H p ys ∨ SqT K H p ys) ∧ Q (.int ys.length) H) oLen := by
  intro F m S P H ws vs z Q rl wr e q
  match ws, e with
  | [w], e =>
    obtain ⟨ds, h1, rfl⟩ := Option.map_eq_some_iff.mp (show (lookL w S).map _ = some z from e)
    obtain ⟨v, rfl, w1⟩ := wr1 wr
    obtain ⟨a, us, rfl, g1, g2⟩ := lookL_ok rl w1 h1
    refine ⟨a, us, rfl, g1, q F H _ (Same.refl F) rl ?_⟩
    rw [g2.length]
    exact .int _
def oInt : List W → Sto → Option W
  | [w], S => match look w S with
    | some (.int i) => some (.pu (.int i))
    | some (.bool b) => some (.pu (.int (if b = true then 1 else 0)))
    | _ => none
  | _, _ => none
theorem cs_int : CaS K (fun xs H Q => (∃ i, xs = [.int i] ∧ Q (.int i) H) ∨ ∃ k, xs = [.bl k] ∧ Q (.int (if k = true then 1 else 0)) H) oInt := by
  intro F m S P H ws vs z Q rl wr e q
  match ws, e with
  | [w], e =>
    obtain ⟨v, rfl, w1⟩ := wr1 wr
    have e : (match look w S with
      | some (.int i) => some (W.pu (.int i))
      | some (.bool b) => some (.pu (.int (if b = true then 1 else 0)))
      | _ => none) = some z := e
    split at e
    · rename_i i h1
      cases e
      exact .inl ⟨i, by rw [(look_ok rl w1 h1).int], q F H _ (Same.refl F) rl (.int _)⟩
    · rename_i b h1
      cases e
      exact .inr ⟨b, by rw [(look_ok rl w1 h1).bl], q F H _ (Same.refl F) rl (.int _)⟩
    · cases e
def oAbs : List W → Sto → Option W
  | [w], S => match look w S with
    | some (.int i) => some (.pu (.int (if i < 0 then -i else i)))
    | _ => none
  | _, _ => none
theorem cs_abs : CaS K (fun xs H Q => ∃ i, xs = [.int i] ∧ Q (.int (if i < 0 then -i else i)) H) oAbs := by
  intro F m S P H ws vs z Q rl wr e q
  match ws, e with
  | [w], e =>
    obtain ⟨v, rfl, w1⟩ := wr1 wr
    have e : (match look w S with
      | some (.int i) => some (W.pu (.int (if i < 0 then -i else i)))
      | _ => none) = some z := e
    split at e
    · rename_i i h1
      cases e
      exact ⟨i, by rw [(look_ok rl w1 h1).int], q F H _ (Same.refl F) rl (.int _)⟩
    · cases e
/-- of a list: the ints in it -/
def intsOf : List PyData → Option (List Int)
  | [] => some []
  | .int i :: ds => (intsOf ds).map (i :: ·)
  | _ => none
theorem intsOf_eq : ∀ {ds : List PyData} {ns : List Int}, intsOf ds = some ns → ds = ns.map .int
  | [], _, h => by cases h; rfl
  | .int i :: ds, ns, h => by
    obtain ⟨ms, h1, rfl⟩ := Option.map_eq_some_iff.mp (show (intsOf ds).map _ = some ns from h)
    rw [intsOf_eq h1]
    rfl
  | .none :: _, _, h => by cases h
  | .bool _ :: _, _, h => by cases h
  | .str _ :: _, _, h => by cases h
  | .list _ :: _, _, h => by cases h
  | .tuple _ :: _, _, h => by cases h
  | .dict _ :: _, _, h => by cases h
theorem intsOf_map : ∀ (ns : List Int), intsOf (ns.map .int) = some ns
  | [] => rfl
  | n :: ns => by show (intsOf (ns.map .int)).map _ = _; rw [intsOf_map ns]; rfl
def boolsOf : List PyData → Option (List Bool)
  | [] => some []
  | .bool i :: ds => (boolsOf ds).map (i :: ·)
  | _ => none
theorem boolsOf_eq : ∀ {ds : List PyData} {ns : List Bool}, boolsOf ds = some ns → ds = ns.map .bool
  | [], _, h => by cases h; rfl
  | .bool i :: ds, ns, h => by
    obtain ⟨ms, h1, rfl⟩ := Option.map_eq_some_iff.mp (show (boolsOf ds).map _ = some ns from h)
    rw [boolsOf_eq h1]
    rfl
  | .none :: _, _, h => by cases h
  | .int _ :: _, _, h => by cases h
  | .str _ :: _, _, h => by cases h
  | .list _ :: _, _, h => by cases h
  | .tuple _ :: _, _, h => by cases h
  | .dict _ :: _, _, h => by cases h
theorem boolsOf_map : ∀ (ns : List Bool), boolsOf (ns.map .bool) = some ns
  | [] => rfl
  | n :: ns => by show (boolsOf (ns.map .bool)).map _ = _; rw [boolsOf_map ns]; rfl
theorem look_ints {F : Hp} {m : Nat → Addr × Bool} {S : Sto} {P : Pn} {H : Hp} {v : V} {w : W} {ds : List PyData} {ns : List Int} (rl : Rl F m S P H) (w1 : WR K F m S.length v w) (h : look w S = some (.list ds)) (h2 : intsOf ds = some ns) :
    ∃ a, v = .ref a ∧ SqL K H a (ns.map V.int) := by
  obtain ⟨a, us, rfl, g1, g2⟩ := (look_ok rl w1 h).lst rl.ex
  rw [intsOf_eq h2] at g2
  rw [g2.ints] at g1
  exact ⟨a, rfl, SqL.of g1⟩
def maxL : Int → List Int → Int
  | a, [] => a
  | a, b :: bs => maxL (if b > a then b else a) bs
def minL : Int → List Int → Int
  | a, [] => a
  | a, b :: bs => minL (if b < a then b else a) bs
theorem maxL_spec : ∀ (bs : List Int) (a : Int), (maxL a bs ∈ a :: bs) ∧ ∀ y ∈ a :: bs, y ≤ maxL a bs
  | [], a => ⟨by simp [maxL], by simp [maxL]⟩
  | b :: bs, a => by
    have ih := maxL_spec bs (if b > a then b else a)
    have e : maxL a (b :: bs) = maxL (if b > a then b else a) bs := rfl
    rw [e]
    generalize maxL (if b > a then b else a) bs = M at ih ⊢
    obtain ⟨h1, h2⟩ := ih
    have h3 := h2 _ (List.mem_cons_self)
    constructor
    · rcases List.mem_cons.mp h1 with z | z
      · rw [z]
        split <;> simp
      · exact List.mem_cons_of_mem _ (List.mem_cons_of_mem _ z)
    · intro y hy
      rcases List.mem_cons.mp hy with rfl | hy
      · split at h3 <;> omega
      · rcases List.mem_cons.mp hy with rfl | hy
        · split at h3 <;> omega
        · exact h2 y (List.mem_cons_of_mem _ hy)
theorem minL_spec : ∀ (bs : List Int) (a : Int), (minL a bs ∈ a :: bs) ∧ ∀ y ∈ a :: bs, minL a bs ≤ y
  | [], a => ⟨by simp [minL], by simp [minL]⟩
  | b :: bs, a => by
    have ih := minL_spec bs (if b < a then b else a)
    have e : minL a (b :: bs) = minL (if b < a then b else a) bs := rfl
    rw [e]
    generalize minL (if b < a then b else a) bs = M at ih ⊢
    obtain ⟨h1, h2⟩ := ih
    have h3 := h2 _ (List.mem_cons_self)
    constructor
    · rcases List.mem_cons.mp h1 with z | z
      · rw [z]
        split <;> simp
      · exact List.mem_cons_of_mem _ (List.mem_cons_of_mem _ z)
    · intro y hy
      rcases List.mem_cons.mp hy with rfl | hy
      · split at h3 <;> omega
      · rcases List.mem_cons.mp hy with rfl | hy
        · split at h3 <;> omega
        · exact h2 y (List.mem_cons_of_mem _ hy)
def oMax : List W → Sto → Option W
  | [w, w'], S => match look w S, look w' S with
    | some (.int i), some (.int j) => some (.pu (.int (if j > i then j else i)))
    | _, _ => none
  | [w], S => match look w S with
    | some (.list ds) => match intsOf ds with
      | some (n :: ns) => some (.pu (.int (maxL n ns)))
      | _ => none
    | _ => none
  | _, _ => none
def oMin : List W → Sto → Option W
  | [w, w'], S => match look w S, look w' S with
    | some (.int i), some (.int j) => some (.pu (.int (if j < i then j else i)))
    | _, _ => none
  | [w], S => match look w S with
    | some (.list ds) => match intsOf ds with
      | some (n :: ns) => some (.pu (.int (minL n ns)))
      | _ => none
    | _ => none
  | _, _ => none
theorem cs_max : CaS K (fun xs H Q => (∃ i j, xs = [.int i, .int j] ∧ Q (.int (if j > i then j else i)) H) ∨ rMax K xs H Q) oMax := by
  intro F m S P H ws vs z Q rl wr e q
  match ws, e with
  | [w, w'], e =>
    obtain ⟨v, v', rfl, w1, w2⟩ := wr2 wr
    have e : (match look w S, look w' S with
      | some (.int i), some (.int j) => some (W.pu (.int (if j > i then j else i)))
      | _, _ => none) = some z := e
    split at e
    · rename_i i j h1 h2
      cases e
      exact .inl ⟨i, j, by rw [(look_ok rl w1 h1).int, (look_ok rl w2 h2).int], q F H _ (Same.refl F) rl (.int _)⟩
    · cases e
  | [w], e =>
    obtain ⟨v, rfl, w1⟩ := wr1 wr
    have e : (match look w S with
      | some (.list ds) => match intsOf ds with
        | some (n :: ns) => some (W.pu (.int (maxL n ns)))
        | _ => none
      | _ => none) = some z := e
    split at e
    · rename_i ds h1
      split at e
      · rename_i n ns h2
        cases e
        obtain ⟨a, rfl, g⟩ := look_ints rl w1 h1 h2
        have sp := maxL_spec ns n
        refine .inr ⟨a, n :: ns, rfl, g, by simp, fun k hk hle => ?_⟩
        have e1 : k = maxL n ns := Int.le_antisymm (sp.2 k hk) (hle _ sp.1)
        rw [e1]
        exact q F H _ (Same.refl F) rl (.int _)
      · cases e
    · cases e
theorem cs_min : CaS K (fun xs H Q => (∃ i j, xs = [.int i, .int j] ∧ Q (.int (if j < i then j else i)) H) ∨ rMin K xs H Q) oMin := by
  intro F m S P H ws vs z Q rl wr e q
  match ws, e with
  | [w, w'], e =>
    obtain ⟨v, v', rfl, w1, w2⟩ := wr2 wr
    have e : (match look w S, look w' S with
      | some (.int i), some (.int j) => some (W.pu (.int (if j < i then j else i)))
      | _, _ => none) = some z := e
    split at e
    · rename_i i j h1 h2
      cases e
      exact .inl ⟨i, j, by rw [(look_ok rl w1 h1).int, (look_ok rl w2 h2).int], q F H _ (Same.refl F) rl (.int _)⟩
    · cases e
  | [w], e =>
    obtain ⟨v, rfl, w1⟩ := wr1 wr
    have e : (match look w S with
      | some (.list ds) => match intsOf ds with
        | some (n :: ns) => some (W.pu (.int (minL n ns)))
        | _ => none
      | _ => none) = some z := e
    split at e
    · rename_i ds h1
      split at e
      · rename_i n ns h2
        cases e
        obtain ⟨a, rfl, g⟩ := look_ints rl w1 h1 h2
        have sp := minL_spec ns n
        refine .inr ⟨a, n :: ns, rfl, g, by simp, fun k hk hle => ?_⟩
        have e1 : k = minL n ns := Int.le_antisymm (hle _ sp.1) (sp.2 k hk)
        rw [e1]
        exact q F H _ (Same.refl F) rl (.int _)
      · cases e
    · cases e
def oSum : List W → Sto → Option W
  | [w], S => match look w S with
    | some (.list ds) => (intsOf ds).map fun ns => .pu (.int ns.sum)
    | _ => none
  | _, _ => none
theorem cs_sum : CaS K (rSum K) oSum := by
  intro F m S P H ws vs z Q rl wr e q
  match ws, e with
  | [w], e =>
    obtain ⟨v, rfl, w1⟩ := wr1 wr
    have e : (match look w S with
      | some (.list ds) => (intsOf ds).map fun ns => W.pu (.int ns.sum)
      | _ => none) = some z := e
    split at e
    · rename_i ds h1
      obtain ⟨ns, h2, rfl⟩ := Option.map_eq_some_iff.mp e
      obtain ⟨a, rfl, g⟩ := look_ints rl w1 h1 h2
      exact ⟨a, ns, rfl, g, q F H _ (Same.refl F) rl (.int _)⟩
    · cases e
def oAll (f : List Bool → Bool) : List W → Sto → Option W
  | [w], S => match look w S with
    | some (.list ds) => (boolsOf ds).map fun ns => .pu (.bool (f ns))
    | _ => none
  | _, _ => none
theorem cs_all (f : List Bool → Bool) : CaS K (fun vs H Q => ∃ (a : Addr) (bs : List Bool), vs = [V.ref a] ∧ SqL K H a (bs.map V.bl) ∧ Q (.bl (f bs)) H) (oAll f) := by
  intro F m S P H ws vs z Q rl wr e q
  match ws, e with
  | [w], e =>
    obtain ⟨v, rfl, w1⟩ := wr1 wr
    have e : (match look w S with
      | some (.list ds) => (boolsOf ds).map fun ns => W.pu (.bool (f ns))
      | _ => none) = some z := e
    split at e
    · rename_i ds h1
      obtain ⟨ns, h2, rfl⟩ := Option.map_eq_some_iff.mp e
      obtain ⟨a, us, rfl, g1, g2⟩ := (look_ok rl w1 h1).lst rl.ex
      rw [boolsOf_eq h2] at g2
      rw [g2.bools] at g1
      exact ⟨a, ns, rfl, SqL.of g1, q F H _ (Same.refl F) rl (.bl _)⟩
    · cases e
def oGcd : List W → Sto → Option W
  | [w, w'], S => match look w S, look w' S with
    | some (.int i), some (.int j) => some (.pu (.int ((Nat.gcd i.natAbs j.natAbs : Nat) : Int)))
    | _, _ => none
  | _, _ => none
theorem cs_gcd : CaS K rGcd oGcd := by
  intro F m S P H ws vs z Q rl wr e q
  match ws, e with
  | [w, w'], e =>
    obtain ⟨v, v', rfl, w1, w2⟩ := wr2 wr
    have e : (match look w S, look w' S with
      | some (.int i), some (.int j) => some (W.pu (.int ((Nat.gcd i.natAbs j.natAbs : Nat) : Int)))
      | _, _ => none) = some z := e
    split at e
    · rename_i i j h1 h2
      cases e
      exact ⟨i, j, by rw [(look_ok rl w1 h1).int, (look_ok rl w2 h2).int], q F H _ (Same.refl F) rl (.int _)⟩
    · cases e
def tupOf : W → Sto → Option (List PyData)
  | .pu (.tuple ds), _ => some ds
  | .pu (.list ds), _ => some ds
  | .mu i, S => (S[i]?).map (·.2)
  | _, _ => none
def oTuple : List W → Sto → Option W
  | [w], S => (tupOf w S).map fun ds => .pu (.tuple ds)
  | _, _ => none
theorem cs_tuple : CaS K (fun xs H Q => ∃ p ys, xs = [.ref p] ∧ ((SqL K H p ys ∧ ∀ l, H l = none → Q (.ref l) (upd H l (.tup ys))) ∨ (SqT K H p ys ∧ Q (.ref p) H))) oTuple := by
  intro F m S P H ws vs z Q rl wr e q
  match ws, e with
  | [w], e =>
    obtain ⟨ds, h1, rfl⟩ := Option.map_eq_some_iff.mp (show (tupOf w S).map _ = some z from e)
    obtain ⟨v, rfl, w1⟩ := wr1 wr
    have lst : look w S = some (.list ds) → ∃ p ys, [v] = [V.ref p] ∧ ((SqL K H p ys ∧ ∀ l, H l = none → Q (.ref l) (upd H l (.tup ys))) ∨ (SqT K H p ys ∧ Q (.ref p) H)) := fun hl => by
      obtain ⟨a, us, rfl, g1, g2⟩ := (look_ok rl w1 hl).lst rl.ex
      refine ⟨a, us, rfl, .inl ⟨SqL.of g1, fun l hl => ?_⟩⟩
      have s := same_upd (o := HO.tup us) (rl.ex.free hl)
      exact q (upd F l (.tup us)) _ _ s (rl.new hl) (.tup upd_same (g2.mono s))
    cases w with
    | pu d =>
      cases d with
      | tuple xs =>
        cases h1
        cases w1 with
        | @tup a vs _ h1 h2 => exact ⟨a, vs, rfl, .inr ⟨SqT.of (rl.ex _ _ h1), q F H _ (Same.refl F) rl (.tup h1 h2)⟩⟩
      | list xs =>
        cases h1
        exact lst rfl
      | _ => cases h1
    | mu i =>
      have h1 : (S[i]?).map (fun p => p.2) = some ds := h1
      obtain ⟨p, h2, h3⟩ := Option.map_eq_some_iff.mp h1
      exact lst (by show (S[i]?).map (fun p => PyData.list p.2) = _; rw [h2, ← h3]; rfl)
    | sq ns => cases h1
    | ml is => cases h1
    | dk j => cases h1
end
section
variable {X : Cx} {p pos : Pos} {e : Expr} {es : List Expr} {r : SA} {f : SE}
theorem z_len (hg : Gl X "len") (hm : X.mg "len" = none) (ha : PA X (e :: es) (tIA X.K r)) (he : starEach (e :: es) X.env = (false, eval e X.env) :: starEach es X.env := by rfl) (hpl : (backTo pos (starEach es X.env)).any (·.1) = false := by rfl) :
    PE X (.Call (.Name "len" p) (e :: es) [] pos) (tI X.K (sB oLen r)) := z_callB call_len_seq cs_len hg hm (by decide +kernel) ha (by decide) (by decide) he hpl
theorem z_intc (hg : Gl X "int") (hm : X.mg "int" = none) (ha : PA X (e :: es) (tIA X.K r)) (he : starEach (e :: es) X.env = (false, eval e X.env) :: starEach es X.env := by rfl) (hpl : (backTo pos (starEach es X.env)).any (·.1) = false := by rfl) :
    PE X (.Call (.Name "int" p) (e :: es) [] pos) (tI X.K (sB oInt r)) := z_callT call_int1 cs_int hg hm (by decide +kernel) ha (by decide) (by decide) he hpl
theorem z_abs (hg : Gl X "abs") (hm : X.mg "abs" = none) (ha : PA X (e :: es) (tIA X.K r)) (he : starEach (e :: es) X.env = (false, eval e X.env) :: starEach es X.env := by rfl) (hpl : (backTo pos (starEach es X.env)).any (·.1) = false := by rfl) :
    PE X (.Call (.Name "abs" p) (e :: es) [] pos) (tI X.K (sB oAbs r)) := z_callB call_abs cs_abs hg hm (by decide +kernel) ha (by decide) (by decide) he hpl
theorem z_max (hc : X.calm = true) (hg : Gl X "max") (hm : X.mg "max" = none) (ha : PA X (e :: es) (tIA X.K r)) (he : starEach (e :: es) X.env = (false, eval e X.env) :: starEach es X.env := by rfl) (hpl : (backTo pos (starEach es X.env)).any (·.1) = false := by rfl) :
    PE X (.Call (.Name "max" p) (e :: es) [] pos) (tI X.K (sB oMax r)) := z_callB (CallR.or (call_max2 hc) (cr_max hc)) cs_max hg hm (by decide +kernel) ha (by decide) (by decide) he hpl
theorem z_min (hc : X.calm = true) (hg : Gl X "min") (hm : X.mg "min" = none) (ha : PA X (e :: es) (tIA X.K r)) (he : starEach (e :: es) X.env = (false, eval e X.env) :: starEach es X.env := by rfl) (hpl : (backTo pos (starEach es X.env)).any (·.1) = false := by rfl) :
    PE X (.Call (.Name "min" p) (e :: es) [] pos) (tI X.K (sB oMin r)) := z_callB (CallR.or (call_min2 hc) (cr_min hc)) cs_min hg hm (by decide +kernel) ha (by decide) (by decide) he hpl
theorem z_sum (hc : X.calm = true) (hg : Gl X "sum") (hm : X.mg "sum" = none) (ha : PA X (e :: es) (tIA X.K r)) (he : starEach (e :: es) X.env = (false, eval e X.env) :: starEach es X.env := by rfl) (hpl : (backTo pos (starEach es X.env)).any (·.1) = false := by rfl) :
    PE X (.Call (.Name "sum" p) (e :: es) [] pos) (tI X.K (sB oSum r)) := z_callB (cr_sum hc) cs_sum hg hm (by decide +kernel) ha (by decide) (by decide) he hpl
theorem z_all (hc : X.calm = true) (hg : Gl X "all") (hm : X.mg "all" = none) (ha : PA X (e :: es) (tIA X.K r)) (he : starEach (e :: es) X.env = (false, eval e X.env) :: starEach es X.env := by rfl) (hpl : (backTo pos (starEach es X.env)).any (·.1) = false := by rfl) :
    PE X (.Call (.Name "all" p) (e :: es) [] pos) (tI X.K (sB (oAll fun bs => bs.all id) r)) := z_callB (cr_all hc) (cs_all _) hg hm (by decide +kernel) ha (by decide) (by decide) he hpl
theorem z_any (hc : X.calm = true) (hg : Gl X "any") (hm : X.mg "any" = none) (ha : PA X (e :: es) (tIA X.K r)) (he : starEach (e :: es) X.env = (false, eval e X.env) :: starEach es X.env := by rfl) (hpl : (backTo pos (starEach es X.env)).any (·.1) = false := by rfl) :
    PE X (.Call (.Name "any" p) (e :: es) [] pos) (tI X.K (sB (oAll fun bs => bs.any id) r)) := z_callB (cr_any hc) (cs_all _) hg hm (by decide +kernel) ha (by decide) (by decide) he hpl
theorem z_tuplec (hg : Gl X "tuple") (hm : X.mg "tuple" = none) (ha : PA X (e :: es) (tIA X.K r)) (he : starEach (e :: es) X.env = (false, eval e X.env) :: starEach es X.env := by rfl) (hpl : (backTo pos (starEach es X.env)).any (·.1) = false := by rfl) :
    PE X (.Call (.Name "tuple" p) (e :: es) [] pos) (tI X.K (sB oTuple r)) := z_callT call_tuple_of cs_tuple hg hm (by decide +kernel) ha (by decide) (by decide) he hpl
theorem z_gcd (hg : Gl X "gcd") (hm : X.mg "gcd" = some (.builtin "math.gcd")) (ha : PA X (e :: es) (tIA X.K r)) (he : starEach (e :: es) X.env = (false, eval e X.env) :: starEach es X.env := by rfl) (hpl : (backTo pos (starEach es X.env)).any (·.1) = false := by rfl) :
    PE X (.Call (.Name "gcd" p) (e :: es) [] pos) (tI X.K (sB oGcd r)) := pe_imp (pe_callBfun cr_gcd hg hm ha (by decide) he hpl) (sB_ok cs_gcd)
/-- list(xs): a new list -/
def sListOf (mt : Bool) (f : SE) : SE := ⟨fun en S => (f.run en S).bind fun p => (lookL p.1 p.2).map fun ds => mkL mt ds p.2, fun {en S w S'} e => by
  obtain ⟨p, h1, e⟩ := bind_some_of e
  obtain ⟨ds, h2, e⟩ := Option.map_eq_some_iff.mp e
  have := mkL_len (mt := mt) (ds := ds) (S := p.2)
  rw [e] at this
  exact Nat.le_trans (f.mono h1) this⟩
theorem z_listc (mt : Bool) (hg : Gl X "list") (hm : X.mg "list" = none) (ha : PE X e (tI X.K f)) (he : starEach [e] X.env = (false, eval e X.env) :: starEach [] X.env := by rfl) (hpl : (backTo pos (starEach [] X.env)).any (·.1) = false := by rfl) :
    PE X (.Call (.Name "list" p) [e] [] pos) (tI X.K (sListOf mt f)) := by
  refine pe_imp (pe_callTy call_list_of hg hm (by decide +kernel) (pa_cons ha pa_nil he) (by decide) (by decide) he hpl) fun σ H Q ⟨F, m, S, P, en, w, S', rl, er, run, q⟩ => ?_
  obtain ⟨⟨x, S1⟩, h1, e⟩ := bind_some_of run
  obtain ⟨ds, h2, e⟩ := Option.map_eq_some_iff.mp e
  refine ⟨F, m, S, P, en, x, S1, rl, er, h1, fun F1 m1 H1 v u1 rl1 wr1 => ?_⟩
  obtain ⟨a, vs, rfl, g1, g2⟩ := lookL_ok rl1 wr1 h2
  refine ⟨a, vs, rfl, g1, mkL_ok (K := X.K) (mt := mt) rl1 g2 fun F4 m4 H4 v4 u4 rl4 wr4 => ?_⟩
  have e' : mkL mt ds S1 = (w, S') := e
  rw [e'] at rl4 wr4
  exact q F4 m4 H4 v4 (u1.trans u4 (f.mono h1)) rl4 wr4
/-! #### isinstance -/
def kindW : W → String
  | .pu .none => "NoneType"
  | .pu (.bool _) => "bool"
  | .pu (.int _) => "int"
  | .pu (.str _) => "str"
  | .pu (.list _) => "list"
  | .pu (.tuple _) => "tuple"
  | .pu (.dict _) => "dict"
  | .mu _ => "list"
  | .sq _ => "list"
  | .ml _ => "list"
  | .dk _ => "dict"
theorem kind_ok {K : PySem.W.Frag} {F : Hp} {m : Nat → Addr × Bool} {S : Sto} {P : Pn} {H : Hp} {v : V} {w : W} (r : Rl F m S P H) (h : WR K F m S.length v w) : TyX K H v (.type (kindW w)) := by
  cases w with
  | pu d =>
    cases d with
    | none => cases h; exact .base .non
    | bool b => cases h; exact .base (.bl _)
    | int i => cases h; exact .base (.int _)
    | str x => cases h; exact .base (.str _)
    | list ds =>
      cases h with
      | lst h1 h2 => exact .base (.lst (r.ex _ _ h1))
    | tuple ds =>
      cases h with
      | tup h1 h2 => exact .base (.tup (r.ex _ _ h1))
    | dict kvs => cases h
  | mu i =>
    obtain ⟨rfl, hi, hk⟩ := h
    have e := List.getElem?_eq_getElem hi
    cases hq : S[i] with
    | mk b ds =>
      rw [hq] at e
      cases b with
      | true =>
        obtain ⟨vs, _, _, h3⟩ := r.mt i ds e hk
        exact .base (.lst h3)
      | false =>
        obtain ⟨vs, _, h2⟩ := r.fr i ds e
        exact .base (.lst (r.ex _ _ h2))
  | sq ns =>
    obtain ⟨a, rfl, h⟩ := h
    rcases h with (h | ⟨o, h⟩) | ⟨o, its, n, h1, h2, _⟩
    · exact .base (.lst (r.ex _ _ h))
    · exact .base (.frz (r.ex _ _ h))
    · exact .kList h1 h2
  | ml is =>
    obtain ⟨a, rfl, h, _⟩ := h
    exact .base (.lst (r.ex _ _ h))
  | dk j =>
    obtain ⟨rfl, hi, hk⟩ := h
    have e := List.getElem?_eq_getElem hi
    cases hq : S[j] with
    | mk b ds =>
      rw [hq] at e
      cases b with
      | true =>
        obtain ⟨vs, _, _, h3⟩ := r.dk j ds e hk
        exact .base (.dK h3)
      | false =>
        have h2 := r.nf j ds e
        rw [hk] at h2
        cases h2
def kinds : List String := ["NoneType", "bool", "int", "str", "list", "tuple", "dict"]
theorem kind_in (w : W) : kindW w ∈ kinds := by
  cases w with
  | pu d => cases d <;> simp [kindW, kinds]
  | mu i => simp [kindW, kinds]
  | sq ns => simp [kindW, kinds]
  | ml is => simp [kindW, kinds]
  | dk j => simp [kindW, kinds]
def isK (k T : String) : Bool := k == T || (k == "bool" && T == "int")
def KitOk (T : String) : Prop := ∀ k ∈ kinds, kitB k T = some (isK k T)
theorem kit_int : KitOk "int" := by unfold KitOk kinds; decide +kernel
theorem kit_bool : KitOk "bool" := by unfold KitOk kinds; decide +kernel
theorem kit_str : KitOk "str" := by unfold KitOk kinds; decide +kernel
theorem kit_list : KitOk "list" := by unfold KitOk kinds; decide +kernel
theorem kit_tuple : KitOk "tuple" := by unfold KitOk kinds; decide +kernel
theorem kit_dict : KitOk "dict" := by unfold KitOk kinds; decide +kernel
def sIsi (Ts : List String) (f : SE) : SE := op1 (fun w _ => some (.pu (.bool (Ts.any (isK (kindW w)))))) f
theorem z_isi {x : Str} {T : String} {pT : Pos} (hg : Gl X "isinstance") (hm : X.mg "isinstance" = none) (ha : PE X e (tI X.K f)) (hT : PE X (.Name x pT) (tC (.ty T))) (hk : KitOk T)
    (he : starEach [e, .Name x pT] X.env = (false, eval e X.env) :: starEach [.Name x pT] X.env := by rfl) (he' : starEach [.Name x pT] X.env = (false, eval (.Name x pT) X.env) :: starEach [] X.env := by rfl) (hpl : (backTo pos (starEach [.Name x pT] X.env)).any (·.1) = false := by rfl) :
    PE X (.Call (.Name "isinstance" p) [e, .Name x pT] [] pos) (tI X.K (sIsi [T] f)) := by
  refine pe_imp (pe_callB call_isi hg hm (by decide +kernel) (pa_cons ha (pa_cons hT pa_nil he') he) (by decide) (by decide) he hpl) fun σ H Q ⟨F, m, S, P, en, w, S', rl, er, run, q⟩ => ?_
  obtain ⟨⟨x, S1⟩, h1, e⟩ := bind_some_of run
  obtain ⟨z, h3, e⟩ := Option.map_eq_some_iff.mp e
  cases h3
  cases e
  refine ⟨F, m, S, P, en, x, S1, rl, er, h1, fun F1 m1 H1 v u1 rl1 wr1 => ?_⟩
  refine ⟨v, .ty T, .type (kindW x), .type T, isK (kindW x) T, rfl, .ty T, kind_ok rl1 wr1, kit_ty (hk _ (kind_in x)), ?_⟩
  refine q F1 m1 H1 _ u1 rl1 ?_
  show At F1 _ (.bool ([T].any (isK (kindW x))))
  rw [List.any_cons, List.any_nil, Bool.or_false]
  exact .bl _
theorem z_isi2 {x x2 : Str} {T T2 : String} {pT pT2 pt : Pos} {kk} (hg : Gl X "isinstance") (hm : X.mg "isinstance" = none) (ha : PE X e (tI X.K f)) (hT : PE X (.Name x pT) (tC (.ty T))) (hT2 : PE X (.Name x2 pT2) (tC (.ty T2))) (hk : KitOk T) (hk2 : KitOk T2)
    (ht : ∀ {t}, PA X [.Name x pT, .Name x2 pT2] t → PE X (.Tuple [.Name x pT, .Name x2 pT2] kk pt) (tTup t)) 
    (hs : starEach [.Name x pT, .Name x2 pT2] X.env = (false, eval (.Name x pT) X.env) :: starEach [.Name x2 pT2] X.env := by rfl) (hs2 : starEach [.Name x2 pT2] X.env = (false, eval (.Name x2 pT2) X.env) :: starEach [] X.env := by rfl)
    (he : starEach [e, .Tuple [.Name x pT, .Name x2 pT2] kk pt] X.env = (false, eval e X.env) :: starEach [.Tuple [.Name x pT, .Name x2 pT2] kk pt] X.env := by rfl) (he' : starEach [.Tuple [.Name x pT, .Name x2 pT2] kk pt] X.env = (false, eval (.Tuple [.Name x pT, .Name x2 pT2] kk pt) X.env) :: starEach [] X.env := by rfl)
    (hpl : (backTo pos (starEach [.Tuple [.Name x pT, .Name x2 pT2] kk pt] X.env)).any (·.1) = false := by rfl) :
    PE X (.Call (.Name "isinstance" p) [e, .Tuple [.Name x pT, .Name x2 pT2] kk pt] [] pos) (tI X.K (sIsi [T, T2] f)) := by
  refine pe_imp (pe_callB call_isiT hg hm (by decide +kernel) (pa_cons ha (pa_cons (ht (pa_cons hT (pa_cons hT2 pa_nil hs2) hs)) pa_nil he') he) (by decide) (by decide) he hpl) fun σ H Q ⟨F, m, S, P, en, w, S', rl, er, run, q⟩ => ?_
  obtain ⟨⟨x, S1⟩, h1, e⟩ := bind_some_of run
  obtain ⟨z, h3, e⟩ := Option.map_eq_some_iff.mp e
  cases h3
  cases e
  refine ⟨F, m, S, P, en, x, S1, rl, er, h1, fun F1 m1 H1 v u1 rl1 wr1 => ?_⟩
  refine ⟨by show 2 ≤ sizeLine; decide, fun tp hp => ?_⟩
  have s := same_upd (o := HO.tup [V.ty T, V.ty T2]) (rl1.ex.free hp)
  have rl2 := rl1.new (o := HO.tup [V.ty T, V.ty T2]) hp
  have wr2 := wr1.up (n' := S1.length) (m' := m1) ⟨s, fun _ _ => rfl⟩ (Nat.le_refl _)
  refine ⟨v, tp, [.ty T, .ty T2], .type (kindW x), [.type T, .type T2], [T, T2].any (isK (kindW x)), rfl, upd_same, .cons (.ty T) (.cons (.ty T2) .nil), kind_ok rl2 wr2, ?_, ?_⟩
  · have k1 := kit_ty (K := X.K) (hk _ (kind_in x))
    have k2 := kit_ty (K := X.K) (hk2 _ (kind_in x))
    refine kitAny_cons k1 (fun h => kitAny_cons k2 (fun h' => ?_) fun h' => ?_) fun h => ?_
    · rw [kitAny_nil]
      simp [h, h']
    · simp [h']
    · simp [h]
  · exact q (upd F1 tp (.tup [V.ty T, V.ty T2])) m1 _ _ (u1.trans ⟨s, fun _ _ => rfl⟩ (f.mono h1)) rl2 (.bl _)
theorem bt_int : bootBuiltins "int" = some (.type "int") := by decide +kernel
theorem bt_bool : bootBuiltins "bool" = some (.type "bool") := by decide +kernel
theorem bt_str : bootBuiltins "str" = some (.type "str") := by decide +kernel
theorem bt_list : bootBuiltins "list" = some (.type "list") := by decide +kernel
theorem bt_tuple : bootBuiltins "tuple" = some (.type "tuple") := by decide +kernel
theorem bt_dict : bootBuiltins "dict" = some (.type "dict") := by decide +kernel
theorem ty_name {x : Str} {T : String} {pT : Pos} (hg : Gl X x) (hm : X.mg x = none) (hv : bootBuiltins x = some (.type T)) (hn : x ≠ "__name__" := by decide) (hd : (x == ("__debug__" : Str)) = false := by decide) : PE X (.Name x pT) (tC (.ty T)) := pe_bltn hg hm hv rfl hn hd
end
end Z

namespace Z
open PySem L2 PyProof.Rows

/-! ### calls with keywords -/
def gP (perm : List Nat) {α : Type} (us ws : List α) : List α := perm.filterMap fun i => (us ++ ws)[i]?
theorem paired_get {α β : Type} {R : α → β → Prop} : ∀ {xs : List α} {ys : List β}, Paired R xs ys → ∀ (i : Nat), (xs[i]? = none ∧ ys[i]? = none) ∨ ∃ x y, xs[i]? = some x ∧ ys[i]? = some y ∧ R x y
  | _, _, .nil, i => .inl ⟨by simp, by simp⟩
  | _, _, .cons r t, 0 => .inr ⟨_, _, rfl, rfl, r⟩
  | _, _, .cons r t, i + 1 => by
    rcases paired_get t i with ⟨h1, h2⟩ | ⟨x, y, h1, h2, h3⟩
    · exact .inl ⟨by simpa using h1, by simpa using h2⟩
    · exact .inr ⟨x, y, by simpa using h1, by simpa using h2, h3⟩
theorem paired_app {α β : Type} {R : α → β → Prop} : ∀ {xs xs' : List α} {ys ys' : List β}, Paired R xs ys → Paired R xs' ys' → Paired R (xs ++ xs') (ys ++ ys')
  | _, _, _, _, .nil, h => h
  | _, _, _, _, .cons r t, h => .cons r (paired_app t h)
theorem paired_gP {α β : Type} {R : α → β → Prop} {xs xs' : List α} {ys ys' : List β} (h : Paired R xs ys) (h' : Paired R xs' ys') : ∀ perm : List Nat, Paired R (gP perm xs xs') (gP perm ys ys')
  | [] => .nil
  | i :: is => by
    have ih := paired_gP h h' is
    unfold gP at ih ⊢
    rw [List.filterMap_cons, List.filterMap_cons]
    rcases paired_get (paired_app h h') i with ⟨h1, h2⟩ | ⟨x, y, h1, h2, h3⟩
    · rw [h1, h2]
      exact ih
    · rw [h1, h2]
      exact .cons h3 ih
theorem kbn_mk {K : PySem.W.Frag} {x qual : Str} {st : Stmt} {f : Addr} {fd : FuncData} {ps ks : List Str} {n : Nat} (F : Fun K x qual st f fd) (perm : List Nat)
    (h : ∀ (kV doc pm : Value) (an : Option Addr) (cdv ct : Value) (us ws : List Value), us.length = n → ws.length = ks.length → bindArgs (PySem.W.fnOf x qual (defArgs st) (defBody st) (defScope st) .none kV doc pm an cdv ct) ⟨us, ks.zip ws⟩ = pure (ps.zip (gP perm us ws))) :
    KBn K fd ps n ks (gP perm) (gP perm) := by
  obtain ⟨oc, od, kV, doc, pm, an, cdv, ct, osl, rfl, lk, hcd⟩ := F.ex
  exact ⟨fun s us ws _ l1 l2 => .of_eq (h kV doc pm an cdv ct us ws l1 l2), fun r1 r2 => paired_gP r1 r2 perm⟩
def sCallK (f : FS) (n m : Nat) (perm : List Nat) (r rk : SA) : SE := ⟨fun en S => (r.run en S).bind fun p => (rk.run en p.2).bind fun q => if p.1.length = n ∧ q.1.length = m then f.run (gP perm p.1 q.1) q.2 else none, fun {en S w S'} h => by
  obtain ⟨p, h1, h⟩ := bind_some_of h
  obtain ⟨q, h2, h⟩ := bind_some_of h
  split at h
  · exact Nat.le_trans (r.mono h1) (Nat.le_trans (rk.mono h2) (f.mono h))
  · cases h⟩
section
variable {X : Cx} {k : Nat} {fa : Addr} {fd : FuncData} {ps ks : List Str} {x : Str} {p pos : Pos} {e : Expr} {es : List Expr} {f : FS} {r rk : SA} {kws : List Keyword} {n : Nat} {perm : List Nat}
theorem pk_imp {t t' : TA} (h : PK X kws t) (i : ∀ σ H Q, t' σ H Q → t σ H Q) : PK X kws t' := ⟨fun pos pins s σ H Q I q => h.run pos pins s σ H Q I (i σ H Q q)⟩
theorem zk_nil : PK X [] (tIA X.K aNil) := pk_imp pk_nil fun σ H Q ⟨F, m, S, P, en, w, S', rl, er, run, q⟩ => by
  cases run
  exact q F m H [] (Up.refl _ _ _) rl .nil
theorem zk_cons {nm : Option Str} {kpos : Pos} {g : SE} (ha : PE X e (tI X.K g)) (hr : PK X kws (tIA X.K r)) : PK X (⟨nm, e, kpos⟩ :: kws) (tIA X.K (aCons g r)) := by
  refine pk_imp (pk_cons ha hr) fun σ H Q ⟨F, m, S, P, en, w, S', rl, er, run, q⟩ => ?_
  obtain ⟨⟨x, S1⟩, h1, h⟩ := bind_some_of run
  obtain ⟨⟨xs, S2⟩, h3, h⟩ := Option.map_eq_some_iff.mp h
  cases h
  refine ⟨F, m, S, P, en, x, S1, rl, er, h1, fun F1 m1 H1 v u1 rl1 wr1 => ⟨F1, m1, S1, P, en, xs, S2, rl1, er.up u1 (g.mono h1), h3, fun F2 m2 H2 vs u2 rl2 wr2 => ?_⟩⟩
  exact q F2 m2 H2 (v :: vs) (u1.trans u2 (g.mono h1)) rl2 (.cons (wr1.up u2 (r.mono h3)) wr2)
theorem callK_imp {f : FS} {r rk : SA} {n : Nat} {perm : List Nat} {nk : Nat} {K : PySem.W.Frag} : ∀ σ H Q, tI K (sCallK f n nk perm r rk) σ H Q → tCallN n nk (spI K f) (gP perm) E0 (tIA K r) (tIA K rk) σ H Q := by
  intro σ H Q ⟨F, m, S, P, en, w, S', rl, er, run, q⟩
  obtain ⟨⟨ws, S1⟩, h1, h⟩ := bind_some_of run
  obtain ⟨⟨zs, S2⟩, h2, h⟩ := bind_some_of h
  split at h
  · rename_i hl
    refine ⟨F, m, S, P, en, ws, S1, rl, er, h1, fun F1 m1 H1 vs u1 rl1 wr1 => ⟨F1, m1, S1, P, en, zs, S2, rl1, er.up u1 (r.mono h1), h2, fun F2 m2 H2 us u2 rl2 wr2 => ?_⟩⟩
    refine ⟨(paired_len wr1).trans hl.1, (paired_len wr2).trans hl.2, F2, m2, S2, P, _, w, S', rl2, paired_gP (WRs.up u2 (rk.mono h2) wr1) wr2 perm, h, fun F3 m3 H3 v u3 rl3 wr3 => ?_⟩
    exact q F3 m3 H3 v ((u1.trans u2 (r.mono h1)).trans u3 (Nat.le_trans (r.mono h1) (rk.mono h2))) rl3 wr3
  · cases h
theorem z_callK (F : FnOk X.prog X.w X.K X.mg X.base CX0 k fa fd ps (spI X.K f)) (hr : Room k X.A) (hg : Gl X x) (hm : X.mg x = some (.ref fa)) (hk : PySem.W.keepIn X.K (.ref fa) = true) (hb : KBn X.K fd ps n ks (gP perm) (gP perm))
    (ha : PA X (e :: es) (tIA X.K r)) (hkw : PK X kws (tIA X.K rk)) (hall : (backToKw pos (keywordEach kws X.env)).all (·.1.isSome) = true := by rfl) (hks : (backToKw pos (keywordEach kws X.env)).filterMap (·.1) = ks := by rfl)
    (hdb : (x == ("__debug__" : Str)) = false := by decide) (he : starEach (e :: es) X.env = (false, eval e X.env) :: starEach es X.env := by rfl)
    (hpl : ((backTo pos (starEach (e :: es) X.env)).any (·.1) || (backToKw pos (keywordEach kws X.env)).any (·.1.isNone)) = false := by rfl) :
    PE X (.Call (.Name x p) (e :: es) kws pos) (tI X.K (sCallK f n ks.length perm r rk)) :=
  pe_imp (pe_callN F hr hg hm hk hb pass0 ha hkw hall hks hdb he hpl) callK_imp
theorem z_callK0 (F : FnOk X.prog X.w X.K X.mg X.base CX0 k fa fd ps (spI X.K f)) (hr : Room k X.A) (hg : Gl X x) (hm : X.mg x = some (.ref fa)) (hk : PySem.W.keepIn X.K (.ref fa) = true) (hb : KBn X.K fd ps 0 ks (gP perm) (gP perm))
    (hkw : PK X kws (tIA X.K rk)) (hall : (backToKw pos (keywordEach kws X.env)).all (·.1.isSome) = true := by rfl) (hks : (backToKw pos (keywordEach kws X.env)).filterMap (·.1) = ks := by rfl)
    (hdb : (x == ("__debug__" : Str)) = false := by decide)
    (hpl : ((backTo pos (starEach [] X.env)).any (·.1) || (backToKw pos (keywordEach kws X.env)).any (·.1.isNone)) = false := by rfl) :
    PE X (.Call (.Name x p) [] kws pos) (tI X.K (sCallK f 0 ks.length perm aNil rk)) := by
  refine pe_imp (t := tCallN 0 ks.length (spI X.K f) (gP perm) E0 tNil (tIA X.K rk)) ⟨fun pins s σ H Q I h => ?_⟩ fun σ H Q h => ?_
  · refine wpAny_Call_Name_kw (ld_glob I hg hm ?_ hdb)
    refine PySem.W.callWith_KW0 (h₀ := X.base) I.ok.mod.kin hk hall ?_ hpl
    refine thn (hkw.run pos pins s σ H _ I h) fun ws s2 ⟨zs, H2, I2, rz, l1, l2, q2⟩ => ⟨I2.kIn, ?_⟩
    rw [hks]
    exact run_fnN (us := []) F hr hb pass0 I2 .nil rz l1 l2 q2
  · obtain ⟨F, m, S, P, en, ws, S1, rl, er, h1, q⟩ := callK_imp σ H Q h
    have h1 : some (([] : List W), S) = some (ws, S1) := h1
    cases h1
    exact q F m H [] (Up.refl _ _ _) rl .nil
end

/-! ### x op= e -/
def gAug (i : Nat) (o : W → W → Sto → Option W) (f : SE) : SS := ⟨fun en S => (en[i]?.bind id).bind fun x => (f.run en S).bind fun p => (o x p.1 p.2).map fun z => (.nx, en.set i (some z), p.2), fun {en S r} e => by
  obtain ⟨x, h0, e⟩ := bind_some_of e
  obtain ⟨p, h1, e⟩ := bind_some_of e
  obtain ⟨z, h2, e⟩ := Option.map_eq_some_iff.mp e
  cases e
  exact f.mono h1⟩
theorem y_aug {X : Cx} {st : Stmt} {i : Nat} {r : R2} {o : W → W → Sto → Option W} {f : SE} (ho : OpS X.K r o) (h : PS X st (tAug i (tI X.K f) r)) : PS X st (tS X.K (gAug i o f)) := by
  refine ps_imp h fun D σ H ⟨F, m, S, P, en, r, rl, er, run, q⟩ => ?_
  obtain ⟨x, h0, e⟩ := bind_some_of run
  obtain ⟨⟨y, S1⟩, h1, e⟩ := bind_some_of e
  obtain ⟨z, h2, e⟩ := Option.map_eq_some_iff.mp e
  cases e
  have e1 : en[i]? = some (some x) := by
    cases y : en[i]? with
    | none => rw [y] at h0; cases h0
    | some o => rw [y] at h0; exact congrArg some h0
  obtain ⟨v, g1, g2⟩ := er.at' i x e1
  refine ⟨v, g1, F, m, S, P, en, y, S1, rl, er, h1, fun F1 m1 H1 u u1 rl1 wr1 => ?_⟩
  refine ho F1 m1 S1 P H1 x y v u z _ rl1 (g2.up u1 (f.mono h1)) wr1 h2 fun F2 H2 t e2 rl2 wr2 => ?_
  have u2 : Up F1 m1 S1.length F2 m1 := ⟨e2, fun _ _ => rfl⟩
  exact q F2 m1 H2 (u1.trans u2 (f.mono h1)) rl2 _ (((er.up u1 (f.mono h1)).up u2 (Nat.le_refl _)).set wr2 i)

/-! ### while -/
def whR (c : SE) (b : SS) : Nat → En → Sto → Option (Fl × En × Sto)
  | 0, _, _ => none
  | n + 1, en, S => (c.run en S).bind fun p => (truth p.1 p.2).bind fun k => if k = true then (b.run en p.2).bind fun r => match r.1 with
    | .nx => whR c b n r.2.1 r.2.2
    | .ct => whR c b n r.2.1 r.2.2
    | .bk => some (.nx, r.2.1, r.2.2)
    | .rt w => some (.rt w, r.2.1, r.2.2) else some (.nx, en, p.2)
theorem whR_mono {c : SE} {b : SS} : ∀ {n : Nat} {en : En} {S : Sto} {r}, whR c b n en S = some r → S.length ≤ r.2.2.length
  | 0, en, S, r, h => by cases h
  | n + 1, en, S, r, h => by
    obtain ⟨p, h1, h⟩ := bind_some_of h
    obtain ⟨k, h2, h⟩ := bind_some_of h
    have l := c.mono h1
    cases k with
    | false => cases h; exact l
    | true =>
      obtain ⟨⟨fl, en2, S2⟩, h3, h⟩ := bind_some_of h
      have l2 := Nat.le_trans l (b.mono h3)
      cases fl with
      | nx => exact Nat.le_trans l2 (whR_mono h)
      | ct => exact Nat.le_trans l2 (whR_mono h)
      | bk => cases h; exact l2
      | rt w => cases h; exact l2
def gWh (n : Nat) (c : SE) (b : SS) : SS := ⟨whR c b n, whR_mono⟩
theorem y_while {X : Cx} {e : Expr} {body : List Stmt} {c : SE} {b : SS} {pos : Pos} (n : Nat) (hp : PassesOwn (model X.prog X.w) X.A X.env X.xe) (hc : PT X e (tIT X.K c)) (hb : PSs X body (tS X.K b)) : PS X (.While e body [] pos) (tS X.K (gWh n c b)) := by
  refine ps_imp (ps_while hp hc hb) fun D σ H ⟨F, m, S, P, en, r, rl, er, run, q⟩ => ?_
  refine ⟨fun k σ H => ∃ F2 m2 S2 en2, Up F m S.length F2 m2 ∧ S.length ≤ S2.length ∧ Rl F2 m2 S2 P H ∧ ER X.K F2 m2 S2.length en2 σ ∧ whR c b k en2 S2 = some r, ⟨n, F, m, S, en, Up.refl _ _ _, Nat.le_refl _, rl, er, run⟩, ?_⟩
  rintro k σ2 H2 ⟨F2, m2, S2, en2, u2, l2, rl2, er2, e2⟩
  cases k with
  | zero => cases e2
  | succ k =>
    obtain ⟨⟨x, S3⟩, h1, e⟩ := bind_some_of e2
    obtain ⟨t, h2, e⟩ := bind_some_of e
    refine ⟨F2, m2, S2, P, en2, x, S3, t, rl2, er2, h1, h2, fun F3 m3 H3 u3 rl3 => ?_⟩
    have l3 := c.mono h1
    cases t with
    | false =>
      cases e
      exact iteF (q F3 m3 H3 (u2.trans u3 l2) rl3 σ2 (er2.up u3 l3))
    | true =>
      obtain ⟨⟨fl, en4, S4⟩, h3, e⟩ := bind_some_of e
      refine iteT ⟨fun σ H => ∃ F2 m2 S2 en2, Up F m S.length F2 m2 ∧ S.length ≤ S2.length ∧ Rl F2 m2 S2 P H ∧ ER X.K F2 m2 S2.length en2 σ ∧ whR c b k en2 S2 = some r, fun σ' H' h => ⟨k, Nat.lt_succ_self k, h⟩, ?_⟩
      refine ⟨F3, m3, S3, P, en2, (fl, en4, S4), rl3, er2.up u3 l3, h3, fun F5 m5 H5 u5 rl5 => ?_⟩
      have l4 := b.mono h3
      have u4 : Up F m S.length F5 m5 := (u2.trans u3 l2).trans u5 (Nat.le_trans l2 l3)
      have ll : S.length ≤ S4.length := Nat.le_trans l2 (Nat.le_trans l3 l4)
      cases fl with
      | nx => exact fun σ4 er4 => ⟨F5, m5, S4, en4, u4, ll, rl5, er4, e⟩
      | ct => exact fun σ4 er4 => ⟨F5, m5, S4, en4, u4, ll, rl5, er4, e⟩
      | bk => cases e; exact fun σ4 er4 => q F5 m5 H5 u4 rl5 σ4 er4
      | rt w => cases e; exact fun v wv => q F5 m5 H5 u4 rl5 v wv

/-! ### a, b, c = x, y, z; a < b < c -/
def gPar3 (i j l : Nat) (f g h : SE) : SS := ⟨fun en S => (f.run en S).bind fun p => (g.run en p.2).bind fun q => (h.run en q.2).map fun r => (.nx, ((en.set i (some p.1)).set j (some q.1)).set l (some r.1), r.2), fun {en S r} e => by
  obtain ⟨p, h1, e⟩ := bind_some_of e
  obtain ⟨q, h2, e⟩ := bind_some_of e
  obtain ⟨z, h3, e⟩ := Option.map_eq_some_iff.mp e
  cases e
  exact Nat.le_trans (f.mono h1) (Nat.le_trans (g.mono h2) (h.mono h3))⟩
theorem y_par3 {X : Cx} {st : Stmt} {i j l : Nat} {f g h : SE} (hp : PS X st (tPar3 i j l (tIA X.K (aCons f (aCons g (aCons h aNil)))))) : PS X st (tS X.K (gPar3 i j l f g h)) := by
  refine ps_imp hp fun D σ H ⟨F, m, S, P, en, r, rl, er, run, q⟩ => ?_
  obtain ⟨⟨x, S1⟩, h1, e⟩ := bind_some_of run
  obtain ⟨⟨y, S2⟩, h2, e⟩ := bind_some_of e
  obtain ⟨⟨z, S3⟩, h3, e⟩ := Option.map_eq_some_iff.mp e
  cases e
  refine ⟨F, m, S, P, en, [x, y, z], S3, rl, er, ?_, fun F1 m1 H1 vs u1 rl1 wr1 => ?_⟩
  · show (f.run en S).bind _ = _
    rw [h1]
    show ((g.run en S1).bind _).map _ = _
    rw [h2]
    show (((h.run en S2).bind _).map _).map _ = _
    rw [h3]
    rfl
  · cases wr1 with
    | cons w1 wr =>
      cases wr with
      | cons w2 wr =>
        cases wr with
        | cons w3 wr =>
          cases wr
          refine ⟨_, _, _, rfl, q F1 m1 H1 u1 rl1 _ ?_⟩
          exact (((er.up u1 (Nat.le_trans (f.mono h1) (Nat.le_trans (g.mono h2) (h.mono h3)))).set w1 i).set w2 j).set w3 l
def sChain (o o' : W → W → Sto → Option W) (f g h : SE) : SE := ⟨fun en S => (f.run en S).bind fun p => (g.run en p.2).bind fun q => (o p.1 q.1 q.2).bind fun z => match z with
  | .pu (.bool true) => (h.run en q.2).bind fun r => (o' q.1 r.1 r.2).map fun t => (t, r.2)
  | .pu (.bool false) => some (.pu (.bool false), q.2)
  | _ => none, fun {en S w S'} e => by
  obtain ⟨p, h1, e⟩ := bind_some_of e
  obtain ⟨q, h2, e⟩ := bind_some_of e
  obtain ⟨z, h3, e⟩ := bind_some_of e
  have l := Nat.le_trans (f.mono h1) (g.mono h2)
  split at e
  · obtain ⟨r, h4, e⟩ := bind_some_of e
    obtain ⟨t, h5, e⟩ := Option.map_eq_some_iff.mp e
    cases e
    exact Nat.le_trans l (h.mono h4)
  · cases e; exact l
  · cases e⟩
theorem chain_imp {K : PySem.W.Frag} {r r' : R2} {o o' : W → W → Sto → Option W} {f g h : SE} (ho : OpS K r o) (ho' : OpS K r' o') : ∀ σ H Q, tI K (sChain o o' f g h) σ H Q → tChain r r' (tI K f) (tI K g) (tI K h) σ H Q := by
  intro σ H Q ⟨F, m, S, P, en, w, S', rl, er, run, q⟩
  obtain ⟨⟨x, S1⟩, h1, e⟩ := bind_some_of run
  obtain ⟨⟨y, S2⟩, h2, e⟩ := bind_some_of e
  obtain ⟨z, h3, e⟩ := bind_some_of e
  refine ⟨F, m, S, P, en, x, S1, rl, er, h1, fun F1 m1 H1 v u1 rl1 wr1 => ⟨F1, m1, S1, P, en, y, S2, rl1, er.up u1 (f.mono h1), h2, fun F2 m2 H2 u u2 rl2 wr2 => ?_⟩⟩
  have er2 := (er.up u1 (f.mono h1)).up u2 (g.mono h2)
  have ll := Nat.le_trans (f.mono h1) (g.mono h2)
  refine ho F2 m2 S2 P H2 x y v u z _ rl2 (wr1.up u2 (g.mono h2)) wr2 h3 fun F3 H3 t e3 rl3 wr3 => ?_
  have u3 : Up F2 m2 S2.length F3 m2 := ⟨e3, fun _ _ => rfl⟩
  have uu : Up F m S.length F3 m2 := (u1.trans u2 (f.mono h1)).trans u3 ll
  split at e
  · cases wr3
    refine ⟨true, rfl, iteT ?_⟩
    obtain ⟨⟨y', S4⟩, h4, e⟩ := bind_some_of e
    obtain ⟨t', h5, e⟩ := Option.map_eq_some_iff.mp e
    cases e
    refine ⟨F3, m2, S2, P, en, y', S4, rl3, er2.up u3 (Nat.le_refl _), h4, fun F5 m5 H5 v5 u5 rl5 wr5 => ?_⟩
    refine ho' F5 m5 S4 P H5 y y' u v5 w _ rl5 ((wr2.up u3 (Nat.le_refl _)).up u5 (h.mono h4)) wr5 h5 fun F6 H6 t6 e6 rl6 wr6 => ?_
    exact q F6 m5 H6 t6 ((uu.trans u5 ll).trans ⟨e6, fun _ _ => rfl⟩ (Nat.le_trans ll (h.mono h4))) rl6 wr6
  · cases wr3
    cases e
    exact ⟨false, rfl, iteF (q F3 m2 H3 _ uu rl3 (.bl _))⟩
  · cases e
theorem z_chain {X : Cx} {a b c : Expr} {pos : Pos} {op op' : CmpOp} {r r' : R2} {o o' : W → W → Sto → Option W} {f g h : SE} (hr : OpR X (compareOp op) r) (hr' : OpR X (compareOp op') r') (ho : OpS X.K r o) (ho' : OpS X.K r' o') (ha : PE X a (tI X.K f)) (hb : PE X b (tI X.K g)) (hc : PE X c (tI X.K h))
    (hm : lastMarks [op, op'] [b, c] = false := by with_unfolding_all rfl) : PE X (.Compare a [op, op'] [b, c] pos) (tI X.K (sChain o o' f g h)) := pe_imp (pe_chain hr hr' ha hb hc hm) (chain_imp ho ho')
theorem zt_chain {X : Cx} {a b c : Expr} {pos : Pos} {op op' : CmpOp} {r r' : R2} {o o' : W → W → Sto → Option W} {f g h : SE} (hr : OpR X (compareOp op) r) (hr' : OpR X (compareOp op') r') (ho : OpS X.K r o) (ho' : OpS X.K r' o')
    (hbl : ∀ x y S z, o' x y S = some z → ∃ b, z = .pu (.bool b)) (ha : PE X a (tI X.K f)) (hb : PE X b (tI X.K g)) (hc : PE X c (tI X.K h))
    (hm : lastMarks [op, op'] [b, c] = false := by with_unfolding_all rfl) : PT X (.Compare a [op, op'] [b, c] pos) (tIT X.K (sChain o o' f g h)) := by
  refine pt_imp (pt_chain hr hr' ha hb hc hm) fun σ H Q ⟨F, m, S, P, en, w, S', k, rl, er, run, tr, q⟩ => ?_
  refine chain_imp ho ho' σ H _ ⟨F, m, S, P, en, w, S', rl, er, run, fun F1 m1 H1 v u1 rl1 wr1 => ?_⟩
  have hw : ∃ b, w = .pu (.bool b) := by
    obtain ⟨⟨x, S1⟩, h1, e⟩ := bind_some_of run
    obtain ⟨⟨y, S2⟩, h2, e⟩ := bind_some_of e
    obtain ⟨z, h3, e⟩ := bind_some_of e
    split at e
    · obtain ⟨⟨y', S4⟩, h4, e⟩ := bind_some_of e
      obtain ⟨t', h5, e⟩ := Option.map_eq_some_iff.mp e
      cases e
      exact hbl _ _ _ _ h5
    · cases e
      exact ⟨false, rfl⟩
    · cases e
  obtain ⟨b, rfl⟩ := hw
  cases tr
  cases wr1
  exact ⟨k, rfl, q F1 m1 H1 u1 rl1⟩
end Z

namespace Z
open PySem L2 PyProof.Rows

/-- a list or a tuple that is walked -/
theorem PI.or {X : Cx} {tg iter : Expr} {w1 w2 : TI} (h1 : PI X tg iter w1) (h2 : PI X tg iter w2) : PI X tg iter (fun σ H R => w1 σ H R ∨ w2 σ H R) :=
  ⟨fun pins s σ H R I h => h.elim (h1.run pins s σ H R I) (h2.run pins s σ H R I)⟩
def iAny (f : SE) : SI := ⟨fun en S => (f.run en S).bind fun p => (fz p.1 p.2).bind fun q => match q.1 with
  | .list ds => some (ds, q.2)
  | .tuple ds => some (ds, q.2)
  | _ => none, fun {en S r} e => by
  obtain ⟨p, h1, e⟩ := bind_some_of e
  obtain ⟨q, h2, e⟩ := bind_some_of e
  split at e <;> cases e <;> (rw [← fz_len h2]; exact f.mono h1)⟩
theorem i_any {X : Cx} {tg e : Expr} {f : SE} (he : PE X e (tI X.K f)) : ZI X tg e (iAny f) := by
  obtain ⟨w1, p1, k1⟩ := i_list (tg := tg) he
  obtain ⟨w2, p2, k2⟩ := i_tup (tg := tg) he
  refine ⟨_, PI.or p1 p2, fun σ H R F m S P en ds S' rl er run q => ?_⟩
  obtain ⟨⟨x, S1⟩, h1, e⟩ := bind_some_of run
  obtain ⟨⟨d, S2⟩, h2, e⟩ := bind_some_of e
  cases d with
  | list ds' =>
    refine .inl (k1 σ H R F m S P en ds S' rl er ?_ q)
    show (f.run en S).bind _ = _
    rw [h1]
    show (fz x S1).bind _ = _
    rw [h2]
    exact e
  | tuple ds' =>
    refine .inr (k2 σ H R F m S P en ds S' rl er ?_ q)
    show (f.run en S).bind _ = _
    rw [h1]
    show (fz x S1).bind _ = _
    rw [h2]
    exact e
  | _ => cases e
/-- a target by its rule -/
def KG (K : PySem.W.Frag) (g : TG) (t : SG) : Prop := ∀ (F H : Hp) (m : Nat → Addr × Bool) (n : Nat) (en en' : En) (σ : L2.St) (v : V) (d : PyData) (Q : L2.St → Hp → Prop), Same F H → ER K F m n en σ → At F v d → t.run d en = some en' →
  (∀ σ', ER K F m n en' σ' → Off t.ts σ σ' → Q σ' H) → g v σ H Q
def KGs (K : PySem.W.Frag) (g : TGs) (t : SGs) : Prop := ∀ (F H : Hp) (m : Nat → Addr × Bool) (n : Nat) (en en' : En) (σ : L2.St) (vs : List V) (ds : List PyData) (Q : L2.St → Hp → Prop), Same F H → ER K F m n en σ → AtAll F vs ds → t.run ds en = some en' →
  (∀ σ', ER K F m n en' σ' → Off t.ts σ σ' → Q σ' H) → g vs σ H Q
theorem kg_name {K : PySem.W.Frag} {i : Nat} : KG K (gName i) (tgName i) := by
  intro F H m n en en' σ v d Q ex er at' run q
  cases run
  exact q _ (er.set (w := .pu d) at' i) ⟨List.length_set, fun j hj => List.getElem?_set_ne fun z => hj (by rw [z]; exact List.mem_singleton.mpr rfl)⟩
theorem kg_nil {K : PySem.W.Frag} : KGs K L2.gNil tgNil := by
  intro F H m n en en' σ vs ds Q ex er at' run q
  cases at' with
  | nil =>
    cases run
    exact ⟨rfl, q σ er ⟨rfl, fun _ _ => rfl⟩⟩
  | cons _ _ => cases run
theorem kg_cons {K : PySem.W.Frag} {g1 : TG} {g2 : TGs} {a : SG} {r : SGs} (k1 : KG K g1 a) (k2 : KGs K g2 r) : KGs K (gCons g1 g2) (tgCons a r) := by
  intro F H m n en en' σ vs ds Q ex er at' run q
  cases at' with
  | nil => cases run
  | @cons v vs d ds av avs =>
    have run : (a.run d en).bind (fun en1 => r.run ds en1) = some en' := run
    obtain ⟨en1, e1, e2⟩ := bind_some_of run
    refine ⟨v, vs, rfl, k1 F H m n en en1 σ v d _ ex er av e1 fun σ1 er1 o1 => k2 F H m n en1 en' σ1 vs ds _ ex er1 avs e2 fun σ2 er2 o2 => q σ2 er2 ⟨o2.1.trans o1.1, fun j hj => ?_⟩⟩
    have n1 : j ∉ a.ts := fun z => hj (List.mem_append_left _ z)
    have n2 : j ∉ r.ts := fun z => hj (List.mem_append_right _ z)
    rw [o2.2 j n2, o1.2 j n1]
theorem kg_tup {K : PySem.W.Frag} {g : TGs} {n : Nat} {r : SGs} (k : KGs K g r) : KG K (gTup K n g) (tgTup n r) := by
  intro F H m n' en en' σ v d Q ex er at' run q
  cases at' with
  | @tup a xs ds h1 h2 =>
    have run : (if ds.length = n then r.run ds en else none) = some en' := run
    split at run
    · rename_i hl
      exact ⟨a, xs, rfl, SqT.of (ex _ _ h1), by rw [h2.length]; exact hl, k F H m n' en en' σ xs ds Q ex er h2 run q⟩
    · cases run
  | _ => cases run
/-! ### the law's end -/
def spTop (K : PySem.W.Frag) : Sp := fun vs H Q _ => ∃ (a : Addr) (ns : List Int), vs = [.ref a] ∧ SqL K H a (ns.map V.int) ∧ ns.length ≤ 63 ∧ ∀ H', Q (.bl true) H'
theorem top_ok {P : Program} {w : World} {K : PySem.W.Frag} {mg : Str → Option Value} {base : Heap} {k : Nat} {fa : Addr} {fd : FuncData} {x : Str} {f : Nat → FS} (h : ∀ n, FnOk P w K mg base CX0 k fa fd [x] (spI K (f n)))
    (main : ∀ ns : List Int, ns.length ≤ 63 → ∃ n S', (f n).run [.sq ns] [] = some (.pu (.bool true), S')) : FnOk P w K mg base CX0 k fa fd [x] (spTop K) := by
  have key : ∀ {vs H Q E}, spTop K vs H Q E → ∃ n, spI K (f n) vs H Q E := by
    rintro vs H Q E ⟨a, ns, rfl, hS, hl, q⟩
    obtain ⟨n, S', hr⟩ := main ns hl
    refine ⟨n, H, fun _ => (a, false), [], [], [.sq ns], _, S', ⟨Same.refl H, (fun i ds e => by simp at e), (fun i ds e => by simp at e), (fun i ds e => by simp at e), (fun i ds e => by simp at e), (fun i j ds es e => by simp at e), (fun p hp => by cases hp)⟩, .cons ⟨a, rfl, hS⟩ .nil, hr, fun F' m' H' v u rl wr => ?_⟩
    cases wr
    exact q H'
  refine ⟨fun vs H Q E hs => ?_, fun A outer s H args us vs Q E hr e0 hb hv hs => ?_⟩
  · obtain ⟨n, h1⟩ := key hs
    exact (h n).len _ _ _ _ h1
  · obtain ⟨n, h1⟩ := key hs
    exact (h n).run A outer s H args us vs Q E hr e0 hb hv h1
end Z

namespace Z
open PySem L2 PyProof.Rows
section
variable {en : En} {S : Sto} {f g h c : SE} {r : SA} {a b : SS} {i j : Int} {d e : PyData}
@[simp] theorem r_var {i : Nat} : (sVar i).run en S = (en[i]?.bind id).map fun w => (w, S) := rfl
@[simp] theorem r_c : (sC d).run en S = some (.pu d, S) := rfl
@[simp] theorem r_bad : sBad.run en S = none := rfl
theorem r_op2 {o} : (op2 o f g).run en S = (f.run en S).bind fun p => (g.run en p.2).bind fun q => (o p.1 q.1 q.2).map fun z => (z, q.2) := rfl
theorem r_op1 {o} : (op1 o f).run en S = (f.run en S).bind fun p => (o p.1 p.2).map fun z => (z, p.2) := rfl
@[simp] theorem r_add : (sAdd f g).run en S = (f.run en S).bind fun p => (g.run en p.2).bind fun q => (oAdd p.1 q.1 q.2).map fun z => (z, q.2) := rfl
@[simp] theorem r_sub : (sSub f g).run en S = (f.run en S).bind fun p => (g.run en p.2).bind fun q => (i2 (fun i j => .int (i - j)) p.1 q.1 q.2).map fun z => (z, q.2) := rfl
@[simp] theorem r_mul : (sMul f g).run en S = (f.run en S).bind fun p => (g.run en p.2).bind fun q => (i2c mulOk (fun i j => .int (i * j)) p.1 q.1 q.2).map fun z => (z, q.2) := rfl
@[simp] theorem r_div : (sDiv f g).run en S = (f.run en S).bind fun p => (g.run en p.2).bind fun q => (i2c divOk (fun i j => .int (i / j)) p.1 q.1 q.2).map fun z => (z, q.2) := rfl
@[simp] theorem r_mod : (sMod f g).run en S = (f.run en S).bind fun p => (g.run en p.2).bind fun q => (i2c (fun _ j => decide (0 < j)) (fun i j => .int (i % j)) p.1 q.1 q.2).map fun z => (z, q.2) := rfl
@[simp] theorem r_pow : (sPow f g).run en S = (f.run en S).bind fun p => (g.run en p.2).bind fun q => (i2c powOk (fun i j => .int (i ^ j.toNat)) p.1 q.1 q.2).map fun z => (z, q.2) := rfl
@[simp] theorem r_lt : (sLt f g).run en S = (f.run en S).bind fun p => (g.run en p.2).bind fun q => (i2 (fun i j => .bool (decide (i < j))) p.1 q.1 q.2).map fun z => (z, q.2) := rfl
@[simp] theorem r_le : (sLe f g).run en S = (f.run en S).bind fun p => (g.run en p.2).bind fun q => (i2 (fun i j => .bool (decide (i ≤ j))) p.1 q.1 q.2).map fun z => (z, q.2) := rfl
@[simp] theorem r_gt : (sGt f g).run en S = (f.run en S).bind fun p => (g.run en p.2).bind fun q => (i2 (fun i j => .bool (decide (j < i))) p.1 q.1 q.2).map fun z => (z, q.2) := rfl
@[simp] theorem r_ge : (sGe f g).run en S = (f.run en S).bind fun p => (g.run en p.2).bind fun q => (i2 (fun i j => .bool (decide (j ≤ i))) p.1 q.1 q.2).map fun z => (z, q.2) := rfl
@[simp] theorem r_eq : (sEq f g).run en S = (f.run en S).bind fun p => (g.run en p.2).bind fun q => (oEq false p.1 q.1 q.2).map fun z => (z, q.2) := rfl
@[simp] theorem r_ne : (sNe f g).run en S = (f.run en S).bind fun p => (g.run en p.2).bind fun q => (oEq true p.1 q.1 q.2).map fun z => (z, q.2) := rfl
@[simp] theorem r_ix : (sIx f g).run en S = (f.run en S).bind fun p => (g.run en p.2).bind fun q => (oIx p.1 q.1 q.2).map fun z => (z, q.2) := rfl
@[simp] theorem r_neg : (sNeg f).run en S = (f.run en S).bind fun p => (oNeg p.1 p.2).map fun z => (z, p.2) := rfl
@[simp] theorem r_isN : (sIsN f).run en S = (f.run en S).bind fun p => some (.pu (.bool (isNon p.1)), p.2) := rfl
@[simp] theorem r_notN : (sNotN f).run en S = (f.run en S).bind fun p => some (.pu (.bool (!isNon p.1)), p.2) := rfl
@[simp] theorem r_isi {Ts} : (sIsi Ts f).run en S = (f.run en S).bind fun p => some (.pu (.bool (Ts.any (isK (kindW p.1)))), p.2) := rfl
@[simp] theorem r_not : (sNot f).run en S = (f.run en S).bind fun p => ((truth p.1 p.2).map fun b => W.pu (.bool (!b))).map fun z => (z, p.2) := rfl
@[simp] theorem r_and : (sAnd f g).run en S = (f.run en S).bind fun p => (truth p.1 p.2).bind fun b => if b = true then g.run en p.2 else some p := rfl
@[simp] theorem r_or : (sOr f g).run en S = (f.run en S).bind fun p => (truth p.1 p.2).bind fun b => if b = true then some p else g.run en p.2 := rfl
@[simp] theorem r_ite : (sIte c f g).run en S = (c.run en S).bind fun p => (truth p.1 p.2).bind fun b => if b = true then f.run en p.2 else g.run en p.2 := rfl
@[simp] theorem r_anil : aNil.run en S = some ([], S) := rfl
@[simp] theorem r_acons : (aCons f r).run en S = (f.run en S).bind fun p => (r.run en p.2).map fun q => (p.1 :: q.1, q.2) := rfl
@[simp] theorem r_tup : (sTup r).run en S = (r.run en S).bind fun p => (fzs p.1 p.2).bind fun q => if few q.1 = true then some (.pu (.tuple q.1), q.2) else none := rfl
@[simp] theorem r_lst {mt} : (sLst mt r).run en S = (r.run en S).bind fun p => (fzs p.1 p.2).bind fun q => if few q.1 = true then some (mkL mt q.1 q.2) else none := rfl
@[simp] theorem r_call {F} : (sCall F r).run en S = (r.run en S).bind fun p => F.run p.1 p.2 := rfl
@[simp] theorem r_b {o} : (sB o r).run en S = (r.run en S).bind fun p => (o p.1 p.2).map fun z => (z, p.2) := rfl
@[simp] theorem r_listof {mt} : (sListOf mt f).run en S = (f.run en S).bind fun p => (lookL p.1 p.2).map fun ds => mkL mt ds p.2 := rfl
@[simp] theorem r_lc {mt own t} {it : SI} : (sLc mt own it t c f).run en S = (it.run en S).bind fun p => if few p.1 = true then (lcR own t c f en p.1 p.2 []).map fun q => mkL mt q.1 q.2 else none := rfl
@[simp] theorem r_callK {F n m perm rk} : (sCallK F n m perm r rk).run en S = (r.run en S).bind fun p => (rk.run en p.2).bind fun q => if p.1.length = n ∧ q.1.length = m then F.run (gP perm p.1 q.1) q.2 else none := rfl
@[simp] theorem r_yes : sYes.run en S = some (.pu (.bool true), S) := rfl
@[simp] theorem r_gnop : gNop.run en S = some (.nx, en, S) := rfl
@[simp] theorem r_gbad : gBad.run en S = none := rfl
@[simp] theorem r_seq : (gSeq a b).run en S = (a.run en S).bind (after b) := rfl
@[simp] theorem after_nx : after b (.nx, en, S) = b.run en S := rfl
@[simp] theorem after_rt {w} : after b (.rt w, en, S) = some (.rt w, en, S) := rfl
@[simp] theorem after_bk : after b (.bk, en, S) = some (.bk, en, S) := rfl
@[simp] theorem after_ct : after b (.ct, en, S) = some (.ct, en, S) := rfl
@[simp] theorem r_gif : (gIf c a b).run en S = (c.run en S).bind fun p => (truth p.1 p.2).bind fun k => if k = true then a.run en p.2 else b.run en p.2 := rfl
@[simp] theorem r_ret : (gRet f).run en S = (f.run en S).map fun p => (.rt p.1, en, p.2) := rfl
@[simp] theorem r_exp : (gExp f).run en S = (f.run en S).map fun p => (.nx, en, p.2) := rfl
@[simp] theorem r_set {i : Nat} : (gSet i f).run en S = (f.run en S).map fun p => (.nx, en.set i (some p.1), p.2) := rfl
@[simp] theorem r_par {i j : Nat} : (gPar i j f h).run en S = (f.run en S).bind fun p => (h.run en p.2).map fun q => (.nx, (en.set i (some p.1)).set j (some q.1), q.2) := rfl
@[simp] theorem r_unp {t} : (gUnp t f).run en S = (f.run en S).bind fun p => (fz p.1 p.2).bind fun q => (t.run q.1 en).map fun en' => (.nx, en', q.2) := rfl
@[simp] theorem r_for {it t} : (gFor it t b).run en S = (it.run en S).bind fun p => loopR t b p.1 en p.2 := rfl
@[simp] theorem r_aug {i : Nat} {o} : (gAug i o f).run en S = (en[i]?.bind id).bind fun x => (f.run en S).bind fun p => (o x p.1 p.2).map fun z => (.nx, en.set i (some z), p.2) := rfl
@[simp] theorem t_name {i : Nat} : (tgName i).run d en = some (en.set i (some (.pu d))) := rfl
@[simp] theorem fin_rt {w : W} : fin (.rt w, en, S) = some (w, S) := rfl
@[simp] theorem fin_nx : fin (.nx, en, S) = some (.pu .none, S) := rfl
@[simp] theorem add_int : oAdd (.pu (.int i)) (.pu (.int j)) S = some (.pu (.int (i + j))) := rfl
@[simp] theorem i2_int {G} : i2 G (.pu (.int i)) (.pu (.int j)) S = some (.pu (G i j)) := rfl
@[simp] theorem i2c_int {C G} : i2c C G (.pu (.int i)) (.pu (.int j)) S = if C i j = true then some (.pu (G i j)) else none := rfl
@[simp] theorem neg_int : oNeg (.pu (.int i)) S = some (.pu (.int (-i))) := rfl
@[simp] theorem truth_bool {k : Bool} : truth (.pu (.bool k)) S = some k := rfl
@[simp] theorem truth_int : truth (.pu (.int i)) S = some (i != 0) := rfl
@[simp] theorem int_int : oInt [.pu (.int i)] S = some (.pu (.int i)) := rfl
@[simp] theorem int_bool {k : Bool} : oInt [.pu (.bool k)] S = some (.pu (.int (if k = true then 1 else 0))) := rfl
@[simp] theorem abs_int : oAbs [.pu (.int i)] S = some (.pu (.int (if i < 0 then -i else i))) := rfl
@[simp] theorem fzs_nil : fzs [] S = some ([], S) := rfl
@[simp] theorem fzs_pu {ws} : fzs (.pu d :: ws) S = (fzs ws S).map fun q => (d :: q.1, q.2) := rfl
@[simp] theorem fz_pu : fz (.pu d) S = some (d, S) := rfl
@[simp] theorem few_iff {ds : List PyData} : few ds = decide (ds.length ≤ 100000) := rfl
@[simp] theorem mkL_t {ds} : mkL true ds S = (.mu S.length, S ++ [(true, ds)]) := rfl
@[simp] theorem mkL_f {ds} : mkL false ds S = (.pu (.list ds), S) := rfl
@[simp] theorem isNon_none : isNon (.pu .none) = true := rfl
@[simp] theorem isNon_int : isNon (.pu (.int i)) = false := rfl
@[simp] theorem isNon_bool {k} : isNon (.pu (.bool k)) = false := rfl
@[simp] theorem isNon_list {ds} : isNon (.pu (.list ds)) = false := rfl
@[simp] theorem isNon_tuple {ds} : isNon (.pu (.tuple ds)) = false := rfl
@[simp] theorem isNon_str {x} : isNon (.pu (.str x)) = false := rfl
@[simp] theorem len_mu {k : Nat} {ds} {m : Bool} (hk : S[k]? = some (m, ds)) : oLen [.mu k] S = some (.pu (.int (ds.length : Nat))) := by
  show ((S[k]?).map _).map _ = _
  rw [hk]
  rfl
@[simp] theorem len_list {ds} : oLen [.pu (.list ds)] S = some (.pu (.int (ds.length : Nat))) := rfl
@[simp] theorem len_tuple {ds} : oLen [.pu (.tuple ds)] S = some (.pu (.int (ds.length : Nat))) := rfl
@[simp] theorem len_sq {ns} : oLen [.sq ns] S = some (.pu (.int (ns.length : Nat))) := by
  show some (W.pu (.int ((ns.map PyData.int).length : Nat))) = _
  rw [List.length_map]
theorem ix_mu {k : Nat} {ds} {m : Bool} (hk : S[k]? = some (m, ds)) : oIx (.mu k) (.pu (.int i)) S = (atI ds i).map .pu := by
  unfold oIx
  have e : lookL (.mu k) S = some ds := by
    show (S[k]?).map (fun p => p.2) = _
    rw [hk]
    rfl
  rw [e]
  rfl
@[simp] theorem ix_list {ds} : oIx (.pu (.list ds)) (.pu (.int i)) S = (atI ds i).map .pu := rfl
@[simp] theorem ix_tup {ds} : oIx (.pu (.tuple ds)) (.pu (.int i)) S = (atI ds i).map .pu := rfl
theorem get_set {α : Type} {S : List α} {k : Nat} {x y : α} (hk : S[k]? = some y) : (S.set k x)[k]? = some x := List.getElem?_set_self (List.getElem?_eq_some_iff.mp hk).1
theorem mulOk_l (h1 : -(2 ^ 63) ≤ i) (h2 : i ≤ 2 ^ 63) : mulOk i j = true := by unfold mulOk; rw [Nat.ble_eq_true_of_le (n := i.natAbs) (m := 2 ^ 63) (by omega)]; rfl
theorem mulOk_r (h1 : -(2 ^ 63) ≤ j) (h2 : j ≤ 2 ^ 63) : mulOk i j = true := by unfold mulOk; rw [Nat.ble_eq_true_of_le (n := j.natAbs) (m := 2 ^ 63) (by omega)]; simp
theorem run_mkF {ar N : Nat} {ws : List W} : (mkF ar N b).run ws S = if ws.length = ar then (b.run (ws.map some ++ List.replicate (N - ar) none) S).bind fin else none := rfl
theorem r_store {i : Nat} {k : SE} : (gStore i k f).run en S = (f.run en S).bind fun p => (k.run en p.2).bind fun q => (fz p.1 q.2).bind fun r => match en[i]?, q.1 with
  | some (some (.mu j)), .pu (.int z) => match r.2[j]? with
    | some (true, ds) => (ixN ds.length z).map fun n => (.nx, en, r.2.set j (true, ds.set n r.1))
    | _ => none
  | _, _ => none := rfl
/-- a divisor of at most so many figures -/
def dvs (j : Int) : Prop := 0 < j ∧ j.natAbs.log2 < 9000
theorem divOk_of (h : dvs j) : divOk i j = true := by unfold divOk; rw [decide_eq_true h.1, decide_eq_true h.2]; rfl
end
end Z

namespace Z
open PySem L2 PyProof.Rows
/-! ### what the laws share: the draws -/
def b_box (k0 : Int) : SS :=
  (gSeq (gSet 2 (sIte (sLt (sVar 1) (sB oLen (aCons (sVar 0) aNil))) (sIx (sVar 0) (sVar 1)) (sC (.int 0))))
    (gRet (sLst true (aCons (sMul (sB oAbs (aCons (sVar 2) aNil)) (sB oInt (aCons (sGe (sB oAbs (aCons (sVar 2) aNil)) (sPow (sC (.int 10)) (sC (.int 18)))) aNil))) (aCons (sAdd (sAdd (sMod (sB oInt (aCons (sVar 2) aNil)) (sC (.int 2305843009213693951))) (sMul (sC (.int 39373)) (sVar 1))) (sC (.int k0))) (aCons (sC (.int 0)) aNil))))))
def f_box (k0 : Int) : FS := mkF 2 3 (b_box k0)
def b_take : SS :=
  (gSeq (gIf (sGt (sIx (sVar 0) (sC (.int 0))) (sC (.int 0))) (gSeq (gSet 2 (sMod (sB oInt (aCons (sIx (sVar 0) (sC (.int 0))) aNil)) (sVar 1)))
    (gSeq (gStore 0 (sC (.int 0)) (sDiv (sIx (sVar 0) (sC (.int 0))) (sVar 1)))
    (gRet (sVar 2)))) gNop)
    (gSeq (gStore 0 (sC (.int 2)) (sAdd (sIx (sVar 0) (sC (.int 2))) (sC (.int 1))))
    (gSeq (gSet 3 (sMod (sB oInt (aCons (sMul (sAdd (sIx (sVar 0) (sC (.int 1))) (sMul (sC (.int 48271)) (sIx (sVar 0) (sC (.int 2))))) (sAdd (sC (.int 39373)) (sIx (sVar 0) (sC (.int 2))))) aNil)) (sC (.int 2147483647))))
    (gSeq (gSet 4 (sAdd (sMod (sB oInt (aCons (sVar 3) aNil)) (sC (.int 40009))) (sC (.int 7))))
    (gSeq (gSet 5 (sMod (sB oInt (aCons (sMul (sAdd (sAdd (sVar 3) (sIx (sVar 0) (sC (.int 2)))) (sDiv (sIx (sVar 0) (sC (.int 1))) (sC (.int 1000003)))) (sVar 4)) aNil)) (sC (.int 2147483629))))
    (gRet (sMod (sB oInt (aCons (sDiv (sMod (sB oInt (aCons (sAdd (sMul (sVar 5) (sC (.int 48271))) (sVar 3)) aNil)) (sC (.int 2147483587))) (sC (.int 64))) aNil)) (sVar 1))))))))
def f_take : FS := mkF 2 6 b_take
def b_cells : SS :=
  (gSeq (gSet 2 (sOr (sListOf true (sSl false (sVar 0) oNone (oSome (sVar 1)))) (sLst true (aCons (sC (.int 0)) aNil))))
    (gSeq (gFor (iEnumS (sSl false (sVar 0) (oSome (sVar 1)) (oSome (sC (.int 63))))) (tgTup 2 (tgCons (tgName 3) (tgCons (tgName 4) tgNil))) (gSeq (gSet 5 (sMod (sB oInt (aCons (sVar 3) aNil)) (sVar 1)))
    (gStore 2 (sVar 5) (sAdd (sIx (sVar 2) (sVar 5)) (sMul (sVar 4) (sAdd (sVar 3) (sC (.int 2))))))))
    (gRet (sVar 2))))
def f_cells : FS := mkF 2 6 b_cells
def b_of : SS := (gRet (sIx (sVar 1) (sCall f_take (aCons (sVar 0) (aCons (sB oLen (aCons (sVar 1) aNil)) aNil)))))
def f_of : FS := mkF 2 2 b_of

/-- the source of draws: three ints -/
def Box (B : Int) (ds : List PyData) : Prop := ∃ r s c : Int, ds = [.int r, .int s, .int c] ∧ 0 ≤ s ∧ s < 2 ^ 62 ∧ 0 ≤ c ∧ c ≤ B
theorem Box.mono {B B' : Int} {ds : List PyData} (h : Box B ds) (e : B ≤ B') : Box B' ds := by
  obtain ⟨r, s, c, h1, h2, h3, h4, h5⟩ := h
  exact ⟨r, s, c, h1, h2, h3, h4, Int.le_trans h5 e⟩
theorem take_ok {b : Nat} {S : Sto} {ds : List PyData} {B top : Int} (h : S[b]? = some (true, ds)) (hb : Box B ds) (hB : B ≤ 2 ^ 60) (ht : dvs top) :
    ∃ x ds', f_take.run [.mu b, .pu (.int top)] S = some (.pu (.int x), S.set b (true, ds')) ∧ 0 ≤ x ∧ x < top ∧ Box (B + 1) ds' := by
  obtain ⟨r, s, c, rfl, hs0, hs1, hc0, hc1⟩ := hb
  have ht0 := ht.1
  by_cases hr : 0 < r
  · refine ⟨r % top, [.int (r / top), .int s, .int c], ?_, Int.emod_nonneg _ (by omega), Int.emod_lt_of_pos _ ht0, r / top, s, c, rfl, hs0, hs1, hc0, by omega⟩
    unfold f_take b_take
    rw [run_mkF]
    simp [ix_mu h, atI, ixN, hr, ht0, divOk_of ht, r_store, h, get_set h]
  · have m1 : mulOk 48271 (c + 1) = true := mulOk_l (by decide) (by decide)
    have m2 : mulOk (s + 48271 * (c + 1)) (39373 + (c + 1)) = true := mulOk_r (by omega) (by omega)
    have hf : ∀ z : Int, 0 ≤ z % 40009 ∧ z % 40009 < 40009 := fun z => ⟨Int.emod_nonneg _ (by decide), Int.emod_lt_of_pos _ (by decide)⟩
    have m3 : ∀ (y z : Int), mulOk y (z % 40009 + 7) = true := fun y z => mulOk_r (by have := (hf z).1; omega) (by have := (hf z).2; omega)
    have m4 : ∀ y : Int, mulOk y 48271 = true := fun y => mulOk_r (by decide) (by decide)
    have d1 : ∀ i : Int, divOk i 1000003 = true := fun i => by unfold divOk; decide +kernel
    have d2 : ∀ i : Int, divOk i 64 = true := fun i => by unfold divOk; decide +kernel
    have key : ∃ z : Int, f_take.run [.mu b, .pu (.int top)] S = some (.pu (.int (z % top)), S.set b (true, [.int r, .int s, .int (c + 1)])) := by
      unfold f_take b_take
      rw [run_mkF]
      simp [ix_mu h, atI, ixN, hr, ht0, r_store, h, get_set h, ix_mu (get_set h), m1, m2, m3, m4, d1, d2]
      exact ⟨_, rfl⟩
    obtain ⟨z, hz⟩ := key
    exact ⟨z % top, _, hz, Int.emod_nonneg _ (by omega), Int.emod_lt_of_pos _ ht0, r, s, c + 1, rfl, hs0, hs1, by omega, by omega⟩
theorem dvs_of {j : Int} (h0 : 0 < j) (h1 : j ≤ 10 ^ 200) : dvs j := by
  refine ⟨h0, PySem.Flt.log2_lt_of (by decide) ?_⟩
  have e : (10 ^ 200 : Nat) < 2 ^ 9000 := by decide +kernel
  have : j.natAbs ≤ 10 ^ 200 := by omega
  omega
theorem of_ok {b : Nat} {S : Sto} {ds : List PyData} {B : Int} (h : S[b]? = some (true, ds)) (hb : Box B ds) (hB : B ≤ 2 ^ 60) {xs : List PyData} (h0 : 0 < xs.length) (h1 : xs.length ≤ 1000000) :
    ∃ x ds', f_of.run [.mu b, .pu (.list xs)] S = some (.pu x, S.set b (true, ds')) ∧ x ∈ xs ∧ Box (B + 1) ds' := by
  have hd : dvs (xs.length : Nat) := dvs_of (by omega) (by omega)
  obtain ⟨i, ds', e, i0, i1, hb'⟩ := take_ok h hb hB hd
  have hi : i.toNat < xs.length := by omega
  refine ⟨xs[i.toNat], ds', ?_, List.getElem_mem hi, hb'⟩
  unfold f_of b_of
  rw [run_mkF]
  have ha : atI xs i = some xs[i.toNat] := by
    unfold atI ixN
    rw [if_pos i0, if_pos (by omega)]
    simp [hi]
  simp [e, ha]

/-- what is beside b stays -/
structure Fr (b : Nat) (S S' : Sto) : Prop where
  len : S.length ≤ S'.length
  at' : ∀ i, i < S.length → i ≠ b → S'[i]? = S[i]?
theorem Fr.refl (b : Nat) (S : Sto) : Fr b S S := ⟨Nat.le_refl _, fun _ _ _ => rfl⟩
theorem Fr.trans {b : Nat} {S S1 S2 : Sto} (h : Fr b S S1) (k : Fr b S1 S2) : Fr b S S2 := ⟨Nat.le_trans h.len k.len, fun i hi hb => (k.at' i (Nat.lt_of_lt_of_le hi h.len) hb).trans (h.at' i hi hb)⟩
theorem Fr.set (b : Nat) (S : Sto) (x) : Fr b S (S.set b x) := ⟨by rw [List.length_set]; exact Nat.le_refl _, fun i _ hb => List.getElem?_set_ne (Ne.symm hb)⟩
theorem Fr.app (b : Nat) (S T : Sto) : Fr b S (S ++ T) := ⟨by simp, fun i hi _ => List.getElem?_append_left hi⟩
theorem get_app {S : Sto} {x} : (S ++ [x])[S.length]? = some x := by simp
theorem box_ok {c : Nat} {S : Sto} {m : Bool} {ns : List Int} {k : Nat} {k0 : Int} (h : S[c]? = some (m, ns.map .int)) (hk : k < ns.length) (h3 : ns.length ≤ 100) (hk0 : 0 ≤ k0) (hk1 : k0 ≤ 1000000) :
    ∃ ds, (f_box k0).run [.mu c, .pu (.int (k : Nat))] S = some (.mu S.length, S ++ [(true, ds)]) ∧ Box 0 ds := by
  have ha : atI (ns.map PyData.int) (k : Int) = some (.int ns[k]) := by
    unfold atI ixN
    rw [if_pos (by omega), if_pos (by rw [List.length_map]; omega)]
    simp [hk]
  generalize ns[k] = g at ha
  have hm : ∀ (y : Int) (p : Prop) [Decidable p], mulOk y (if p then 1 else 0) = true := fun y p _ => mulOk_r (by split <;> decide) (by split <;> decide)
  have m1 : mulOk 39373 (k : Int) = true := mulOk_l (by decide) (by decide)
  have hp : powOk 10 18 = true := by decide +kernel
  refine ⟨[.int ((if g < 0 then -g else g) * (if (10 : Int) ^ 18 ≤ (if g < 0 then -g else g) then 1 else 0)), .int (g % 2305843009213693951 + 39373 * (k : Int) + k0), .int 0], ?_, _, _, _, rfl, ?_, ?_, Int.le_refl 0, Int.le_refl 0⟩
  · unfold f_box b_box
    rw [run_mkF]
    simp [len_mu h, ix_mu h, hk, ha, hm, m1, hp]
  · have := Int.emod_nonneg g (show (2305843009213693951 : Int) ≠ 0 by decide)
    omega
  · have := Int.emod_lt_of_pos g (show (0 : Int) < 2305843009213693951 by decide)
    omega
/-! ### the loop of cells -/
def cellsBody : SS := (gSeq (gSet 5 (sMod (sB oInt (aCons (sVar 3) aNil)) (sVar 1))) (gStore 2 (sVar 5) (sAdd (sIx (sVar 2) (sVar 5)) (sMul (sVar 4) (sAdd (sVar 3) (sC (.int 2)))))))
def cellsTg : SG := tgTup 2 (tgCons (tgName 3) (tgCons (tgName 4) tgNil))
theorem cells_loop {c : Nat} {x0 : Option W} {most : Nat} (hm : 0 < most) (hm2 : most ≤ 100) : ∀ (gs : List Int) (k : Nat) (S : Sto) (cs : List Int) (y3 y4 y5 : Option W), S[c]? = some (true, cs.map .int) → (0 < gs.length → most ≤ cs.length) → k + gs.length ≤ 1000 →
    ∃ (cs' : List Int) (y3' y4' y5' : Option W), cs'.length = cs.length ∧ loopR cellsTg cellsBody (enumD k (gs.map .int)) [x0, some (.pu (.int (most : Nat))), some (.mu c), y3, y4, y5] S = some (.nx, [x0, some (.pu (.int (most : Nat))), some (.mu c), y3', y4', y5'], S.set c (true, cs'.map .int))
  | [], k, S, cs, y3, y4, y5, h, _, _ => by
    refine ⟨cs, y3, y4, y5, rfl, ?_⟩
    show some _ = some _
    have e : S.set c (true, cs.map .int) = S := by
      apply List.ext_getElem?
      intro i
      by_cases hi : c = i
      · subst hi
        rw [get_set h, h]
      · rw [List.getElem?_set_ne hi]
    rw [e]
  | g :: gs, k, S, cs, y3, y4, y5, h, hl, hk => by
    have hl' := hl (by simp)
    have hkk : k + 1 + gs.length ≤ 1000 := by simp at hk; omega
    have hi0 : 0 ≤ (k : Int) % (most : Int) := Int.emod_nonneg _ (by omega)
    have hi1 : (k : Int) % (most : Int) < most := Int.emod_lt_of_pos _ (by omega)
    have hin : ((k : Int) % (most : Int)).toNat < cs.length := by omega
    have ha : atI (cs.map PyData.int) ((k : Int) % (most : Int)) = some (.int cs[((k : Int) % (most : Int)).toNat]) := by
      unfold atI ixN
      rw [if_pos hi0, if_pos (by rw [List.length_map]; omega)]
      simp [hin]
    have hx : ixN (cs.length) ((k : Int) % (most : Int)) = some ((k : Int) % (most : Int)).toNat := by
      unfold ixN
      rw [if_pos hi0, if_pos (by omega)]
    have m1 : mulOk g ((k : Int) + 2) = true := mulOk_r (by omega) (by omega)
    generalize hv : cs[((k : Int) % (most : Int)).toNat] + g * ((k : Int) + 2) = v
    have e2 : ((cs.map PyData.int).set ((k : Int) % (most : Int)).toNat (.int v)) = (cs.set ((k : Int) % (most : Int)).toNat v).map PyData.int := by rw [List.map_set]
    obtain ⟨cs', y3', y4', y5', h1, h2⟩ := cells_loop hm hm2 gs (k + 1) (S.set c (true, (cs.set ((k : Int) % (most : Int)).toNat v).map .int)) (cs.set ((k : Int) % (most : Int)).toNat v) (some (.pu (.int (k : Nat)))) (some (.pu (.int g))) (some (.pu (.int ((k : Int) % (most : Int))))) (get_set h) (fun _ => by rw [List.length_set]; exact hl') hkk
    refine ⟨cs', y3', y4', y5', h1.trans List.length_set, ?_⟩
    rw [List.set_set] at h2
    rw [← h2]
    show (cellsTg.run (.tuple [.int (k : Nat), .int g]) _).bind _ = _
    have ht : cellsTg.run (.tuple [.int (k : Nat), .int g]) [x0, some (.pu (.int (most : Nat))), some (.mu c), y3, y4, y5] = some [x0, some (.pu (.int (most : Nat))), some (.mu c), some (.pu (.int (k : Nat))), some (.pu (.int g)), y5] := rfl
    rw [ht]
    show (cellsBody.run _ S).bind _ = _
    have hb : cellsBody.run [x0, some (.pu (.int (most : Nat))), some (.mu c), some (.pu (.int (k : Nat))), some (.pu (.int g)), y5] S = some (.nx, [x0, some (.pu (.int (most : Nat))), some (.mu c), some (.pu (.int (k : Nat))), some (.pu (.int g)), some (.pu (.int ((k : Int) % (most : Int))))], S.set c (true, (cs.set ((k : Int) % (most : Int)).toNat v).map .int)) := by
      unfold cellsBody
      rw [← e2]
      simp [hm, ix_mu h, ha, m1, r_store, h, hx, hv]
    rw [hb]
    rfl
theorem r_sl {mt : Bool} {en : En} {S : Sto} {f : SE} {a b : SO} : (sSl mt f a b).run en S = (f.run en S).bind fun p => (a.run en p.2).bind fun l => (b.run en l.2).bind fun h => match p.1 with
  | .pu (.tuple ds) => if HT.sIx ds.length 0 l.1 = 0 ∧ HT.sIx ds.length ds.length h.1 = ds.length then none else some (.pu (.tuple (cutG ds l.1 h.1)), h.2)
  | .pu (.list ds) => some (mkL mt (cutG ds l.1 h.1) h.2)
  | .mu i => (h.2[i]?).map fun x => mkL mt (cutG x.2 l.1 h.1) h.2
  | .sq ns => some (mkL mt (cutG (ns.map .int) l.1 h.1) h.2)
  | _ => none := rfl
theorem r_osome {en : En} {S : Sto} {f : SE} : (oSome f).run en S = (f.run en S).bind fun p => match look p.1 p.2 with
  | some (.int i) => some (some i, p.2)
  | _ => none := rfl
theorem r_onone {en : En} {S : Sto} : oNone.run en S = some (none, S) := rfl
theorem cutG_map {ns : List Int} {lo hi : Option Int} : cutG (ns.map PyData.int) lo hi = (cutG ns lo hi).map PyData.int := by
  unfold cutG
  rw [List.length_map, ← List.map_drop, ← List.map_take]
theorem cutG_len {α : Type} {ns : List α} {lo hi : Option Int} : (cutG ns lo hi).length ≤ ns.length := by
  unfold cutG
  rw [List.length_take, List.length_drop]
  omega
theorem r_enum {en : En} {S : Sto} {f : SE} : (iEnumS f).run en S = (f.run en S).bind fun p => (fz p.1 p.2).bind fun q => match q.1 with
  | .list ds => some (enumD 0 ds, q.2)
  | _ => none := rfl
theorem cutG_lt {ns : List Int} {m : Nat} : (cutG ns none (some (m : Int))).length = min m ns.length := by
  unfold cutG
  rw [HT.sIx_none, HT.sIx_nat, List.drop_zero, List.length_take]
  omega
theorem cutG_ft {ns : List Int} {m k : Nat} : (cutG ns (some (m : Int)) (some (k : Int))).length = min k ns.length - min m ns.length := by
  unfold cutG
  rw [HT.sIx_nat, HT.sIx_nat, List.length_take, List.length_drop]
  omega
theorem cells_ok {ns : List Int} {S : Sto} (hn : ns.length ≤ 63) : ∃ (cs : List Int) (c : Nat) (T : Sto), 1 ≤ cs.length ∧ cs.length ≤ 3 ∧ f_cells.run [.sq ns, .pu (.int 3)] S = some (.mu c, T) ∧ T[c]? = some (true, cs.map .int) ∧ S.length ≤ c := by
  unfold f_cells b_cells
  rw [run_mkF]
  have la : (cutG ns none (some 3)).length = min 3 ns.length := cutG_lt (m := 3)
  have lb : (cutG ns (some 3) (some 63)).length = min 63 ns.length - min 3 ns.length := cutG_ft (m := 3) (k := 63)
  have ea : cutG (ns.map PyData.int) none (some 3) = (cutG ns none (some 3)).map PyData.int := cutG_map
  have eb : cutG (ns.map PyData.int) (some 3) (some 63) = (cutG ns (some 3) (some 63)).map PyData.int := cutG_map
  generalize hA : cutG ns none (some 3) = as at la ea
  generalize hB : cutG ns (some 3) (some 63) = bs at lb eb
  have sl1 : ∀ (x1 x2 x3 x4 x5 : Option W) (S : Sto), (sListOf true (sSl false (sVar 0) oNone (oSome (sVar 1)))).run [some (.sq ns), some (.pu (.int 3)), x2, x3, x4, x5] S = some (.mu S.length, S ++ [(true, as.map .int)]) := fun x1 x2 x3 x4 x5 S => by
    rw [← ea]
    rfl
  have sl2 : ∀ (x2 x3 x4 x5 : Option W) (S : Sto), (iEnumS (sSl false (sVar 0) (oSome (sVar 1)) (oSome (sC (.int 63))))).run [some (.sq ns), some (.pu (.int 3)), x2, x3, x4, x5] S = some (enumD 0 (bs.map .int), S) := fun x2 x3 x4 x5 S => by
    rw [← eb]
    rfl
  have first : ∃ (cs : List Int) (c : Nat) (T : Sto), (gSet 2 (sOr (sListOf true (sSl false (sVar 0) oNone (oSome (sVar 1)))) (sLst true (aCons (sC (.int 0)) aNil)))).run [some (.sq ns), some (.pu (.int 3)), none, none, none, none] S = some (.nx, [some (.sq ns), some (.pu (.int 3)), some (.mu c), none, none, none], T) ∧
      T[c]? = some (true, cs.map .int) ∧ 1 ≤ cs.length ∧ cs.length ≤ 3 ∧ (0 < bs.length → 3 ≤ cs.length) ∧ S.length ≤ c := by
    cases as with
    | nil =>
      have h0 : ns.length = 0 := by simp at la; omega
      refine ⟨[0], S.length + 1, S ++ [(true, [])] ++ [(true, [.int 0])], ?_, ?_, by simp, by simp, (fun h => by omega), by omega⟩
      · rw [r_set, r_or, sl1 none]
        simp [truth]
      · simp
    | cons a as' =>
      refine ⟨a :: as', S.length, S ++ [(true, (a :: as').map .int)], ?_, by simp, by simp, by omega, by omega, Nat.le_refl _⟩
      rw [r_set, r_or, sl1 none]
      simp [truth]
  obtain ⟨cs, c, T, h1, h2, h3, h4, h5, h6⟩ := first
  obtain ⟨cs', y3, y4, y5, g1, g2⟩ := cells_loop (x0 := some (.sq ns)) (most := 3) (by decide) (by decide) bs 0 T cs none none none h2 h5 (by omega)
  refine ⟨cs', c, T.set c (true, cs'.map .int), by omega, by omega, ?_, get_set h2, h6⟩
  have hlen : ([W.sq ns, .pu (.int 3)] : List W).length = 2 := rfl
  rw [if_pos hlen]
  show (((gSet 2 (sOr (sListOf true (sSl false (sVar 0) oNone (oSome (sVar 1)))) (sLst true (aCons (sC (.int 0)) aNil)))).run [some (.sq ns), some (.pu (.int 3)), none, none, none, none] S).bind (after (gSeq (gFor (iEnumS (sSl false (sVar 0) (oSome (sVar 1)) (oSome (sC (.int 63))))) cellsTg cellsBody) (gRet (sVar 2))))).bind fin = _
  rw [h1]
  show (((gFor (iEnumS (sSl false (sVar 0) (oSome (sVar 1)) (oSome (sC (.int 63))))) cellsTg cellsBody).run _ T).bind (after (gRet (sVar 2)))).bind fin = _
  rw [r_for, sl2]
  show ((loopR cellsTg cellsBody (enumD 0 (bs.map .int)) _ T).bind (after (gRet (sVar 2)))).bind fin = _
  have g2' : loopR cellsTg cellsBody (enumD 0 (bs.map .int)) [some (.sq ns), some (.pu (.int 3)), some (.mu c), none, none, none] T = some (.nx, [some (.sq ns), some (.pu (.int 3)), some (.mu c), y3, y4, y5], T.set c (true, cs'.map .int)) := g2
  rw [g2']
  rfl

/-! ### the law's own comparison of answers -/
def b_same (rc : FS) : SS :=
  (gSeq (gIf (sIsi ["list", "tuple"] (sVar 1)) (gSeq (gIf (sOr (sNe (sIsi ["list"] (sVar 0)) (sIsi ["list"] (sVar 1))) (sNe (sIsi ["tuple"] (sVar 0)) (sIsi ["tuple"] (sVar 1)))) (gRet (sC (.bool false))) gNop)
    (gRet (sAnd (sEq (sB oLen (aCons (sVar 0) aNil)) (sB oLen (aCons (sVar 1) aNil))) (sB (oAll fun bs => bs.all id) (aCons (sLc false [2, 3] (iZipS (sVar 0) (sVar 1)) (tgTup 2 (tgCons (tgName 2) (tgCons (tgName 3) tgNil))) sYes (sCall rc (aCons (sVar 2) (aCons (sVar 3) aNil)))) aNil))))) gNop)
    (gSeq (gIf (sIsi ["dict"] (sVar 1)) (gSeq (gIf (sOr (sNot (sIsi ["dict"] (sVar 0))) (sNe sBad sBad)) (gRet (sC (.bool false))) gNop)
    (gRet (sB (oAll fun bs => bs.all id) (aCons (sLc false [4] (iAny (sVar 1)) (tgName 4) sYes (sCall rc (aCons (sIx (sVar 0) (sVar 4)) (aCons (sIx (sVar 1) (sVar 4)) aNil)))) aNil)))) gNop)
    (gSeq (gIf (sOr (sIsN (sVar 1)) (sIsi ["bool", "str"] (sVar 1))) (gRet (sAnd (sEq (sVar 0) (sVar 1)) (sAnd (sEq (sIsi ["bool"] (sVar 0)) (sIsi ["bool"] (sVar 1))) (sEq (sIsN (sVar 0)) (sIsN (sVar 1)))))) gNop)
    (gRet (sAnd (sIsi ["int"] (sVar 0)) (sAnd (sNot (sIsi ["bool"] (sVar 0))) (sEq (sVar 0) (sVar 1))))))))
def f_same : Nat → FS
  | 0 => fBad 2
  | d + 1 => mkF 2 5 (b_same (f_same d))
/-- plain data of that depth at most -/
inductive Pl : Nat → PyData → Prop where
  | none (k : Nat) : Pl k .none
  | bl (k : Nat) (b : Bool) : Pl k (.bool b)
  | int (k : Nat) (i : Int) : Pl k (.int i)
  | lst {k : Nat} {ds : List PyData} : (∀ d ∈ ds, Pl k d) → ds.length ≤ 100000 → Pl (k + 1) (.list ds)
  | tup {k : Nat} {ds : List PyData} : (∀ d ∈ ds, Pl k d) → ds.length ≤ 100000 → Pl (k + 1) (.tuple ds)
theorem lcR_cons {own : List Nat} {t : SG} {c f : SE} {en : En} {d : PyData} {ds acc : List PyData} {S : Sto} : lcR own t c f en (d :: ds) S acc = (t.run d (wipeE en own)).bind fun en1 => (c.run en1 S).bind fun p => (truth p.1 p.2).bind fun b =>
      if b = true then (f.run en1 p.2).bind fun q => (fz q.1 q.2).bind fun r => lcR own t c f en ds r.2 (acc ++ [r.1]) else lcR own t c f en ds p.2 acc := rfl
theorem loop_same {d : Nat} {en : En} {S : Sto} (he : en.length = 5) : ∀ (ds acc : List PyData), (∀ x ∈ ds, (f_same d).run [.pu x, .pu x] S = some (.pu (.bool true), S)) →
    lcR [2, 3] (tgTup 2 (tgCons (tgName 2) (tgCons (tgName 3) tgNil))) sYes (sCall (f_same d) (aCons (sVar 2) (aCons (sVar 3) aNil))) en (zipD ds ds) S acc = some (acc ++ List.replicate ds.length (.bool true), S)
  | [], acc, _ => by show some (acc, S) = _; simp
  | x :: xs, acc, h => by
    match en, he with
    | [e0, e1, e2, e3, e4], _ =>
      have h1 := h x List.mem_cons_self
      have ih := loop_same (d := d) (en := [e0, e1, e2, e3, e4]) rfl xs (acc ++ [.bool true]) fun y hy => h y (List.mem_cons_of_mem _ hy)
      rw [show zipD (x :: xs) (x :: xs) = .tuple [x, x] :: zipD xs xs from rfl, lcR_cons]
      rw [show (tgTup 2 (tgCons (tgName 2) (tgCons (tgName 3) tgNil))).run (.tuple [x, x]) (wipeE [e0, e1, e2, e3, e4] [2, 3]) = some [e0, e1, some (.pu x), some (.pu x), e4] from rfl]
      simp [h1]
      rw [ih]
      simp [List.replicate_succ]
theorem all_rep (n : Nat) : (boolsOf (List.replicate n (.bool true))) = some (List.replicate n true) := by
  have := boolsOf_map (List.replicate n true)
  rwa [List.map_replicate] at this
theorem same_ok : ∀ (k : Nat) {d : PyData} {S : Sto}, Pl k d → (f_same (k + 1)).run [.pu d, .pu d] S = some (.pu (.bool true), S)
  | k, _, S, .none _ => rfl
  | k, _, S, .bl _ b => by cases b <;> rfl
  | k, _, S, .int _ i => by
    show ((b_same (f_same k)).run [some (.pu (.int i)), some (.pu (.int i)), none, none, none] S).bind fin = _
    unfold b_same
    simp [isK, kindW, oEq, look, SeqAt.shaped, PyData.canLay0, PyData.depth, PyData.eqv]
  | k + 1, _, S, .lst (ds := ds) h hl => by
    show ((b_same (f_same (k + 1))).run [some (.pu (.list ds)), some (.pu (.list ds)), none, none, none] S).bind fin = _
    have lp := loop_same (d := k + 1) (en := [some (.pu (.list ds)), some (.pu (.list ds)), none, none, none]) (S := S) rfl ds [] fun x hx => same_ok k (h x hx)
    have hz : (zipD ds ds).length ≤ 100000 := by rw [zipD_len]; omega
    have hi : (iZipS (sVar 0) (sVar 1)).run [some (.pu (.list ds)), some (.pu (.list ds)), none, none, none] S = some (zipD ds ds, S) := rfl
    unfold b_same
    simp [isK, kindW, oEq, look, SeqAt.shaped, PyData.canLay0, PyData.depth, PyData.eqv, hi, hz, lp, oAll, all_rep]
  | k + 1, _, S, .tup (ds := ds) h hl => by
    show ((b_same (f_same (k + 1))).run [some (.pu (.tuple ds)), some (.pu (.tuple ds)), none, none, none] S).bind fin = _
    have lp := loop_same (d := k + 1) (en := [some (.pu (.tuple ds)), some (.pu (.tuple ds)), none, none, none]) (S := S) rfl ds [] fun x hx => same_ok k (h x hx)
    have hz : (zipD ds ds).length ≤ 100000 := by rw [zipD_len]; omega
    have hi : (iZipS (sVar 0) (sVar 1)).run [some (.pu (.tuple ds)), some (.pu (.tuple ds)), none, none, none] S = some (zipD ds ds, S) := rfl
    unfold b_same
    simp [isK, kindW, oEq, look, SeqAt.shaped, PyData.canLay0, PyData.depth, PyData.eqv, hi, hz, lp, oAll, all_rep]

/-! ### the law's frame: by hand, then from up to three numbers of the script -/
def b_law1 (hand right : FS) (k0 : Int) : SS :=
  (gSeq (gIf (sNot (sCall hand aNil)) (gRet (sC (.bool false))) gNop)
    (gSeq (gSet 1 (sCall f_cells (aCons (sVar 0) (aCons (sC (.int 3)) aNil))))
    (gRet (sB (oAll fun bs => bs.all id) (aCons (sLc false [2] (iRng (sC (.int 0)) (sB oLen (aCons (sVar 1) aNil))) (tgName 2) sYes (sCall right (aCons (sCall (f_box k0) (aCons (sVar 1) (aCons (sVar 2) aNil))) aNil))) aNil)))))
/-- what the law asks of one source of draws -/
def RightOk (right : FS) : Prop := ∀ (S : Sto) (b : Nat) (ds : List PyData), S[b]? = some (true, ds) → Box 0 ds → ∃ S', right.run [.mu b] S = some (.pu (.bool true), S') ∧ Fr b S S'
theorem r_rng {en : En} {S : Sto} {f g : SE} : (iRng f g).run en S = (f.run en S).bind fun p => (g.run en p.2).bind fun q => match p.1, q.1 with
  | .pu (.int i), .pu (.int j) => if (smallI i && smallI j) = true then some (rngD i j, q.2) else none
  | _, _ => none := rfl
theorem law_loop {right : FS} {k0 : Int} (hk0 : 0 ≤ k0) (hk1 : k0 ≤ 1000000) (hr : RightOk right) {c : Nat} {cs : List Int} (hc : cs.length ≤ 3) {e0 e2 : Option W} : ∀ (ks : List Nat) (T : Sto) (acc : List PyData), (∀ k ∈ ks, k < cs.length) → T[c]? = some (true, cs.map .int) →
    ∃ T', lcR [2] (tgName 2) sYes (sCall right (aCons (sCall (f_box k0) (aCons (sVar 1) (aCons (sVar 2) aNil))) aNil)) [e0, some (.mu c), e2] (ks.map fun (k : Nat) => .int (k : Int)) T acc = some (acc ++ List.replicate ks.length (.bool true), T')
  | [], T, acc, _, _ => ⟨T, by show some (acc, T) = _; simp⟩
  | k :: ks, T, acc, hks, hT => by
    have hcl : c < T.length := (List.getElem?_eq_some_iff.mp hT).1
    obtain ⟨ds, h1, h2⟩ := box_ok (k0 := k0) hT (hks k List.mem_cons_self) (by omega) hk0 hk1
    obtain ⟨T1, h3, h4⟩ := hr (T ++ [(true, ds)]) T.length ds get_app h2
    have hT1 : T1[c]? = some (true, cs.map .int) := by
      rw [h4.at' c (by simp; omega) (by omega), List.getElem?_append_left hcl]
      exact hT
    obtain ⟨T2, h5⟩ := law_loop hk0 hk1 hr hc (e0 := e0) (e2 := e2) ks T1 (acc ++ [.bool true]) (fun j hj => hks j (List.mem_cons_of_mem _ hj)) hT1
    refine ⟨T2, ?_⟩
    rw [List.map_cons, lcR_cons]
    rw [show (tgName 2).run (.int (k : Int)) (wipeE [e0, some (.mu c), e2] [2]) = some [e0, some (.mu c), some (.pu (.int (k : Int)))] from rfl]
    simp [h1, h3]
    rw [h5]
    simp [List.replicate_succ]
theorem law1_ok {hand right : FS} {k0 : Int} (hk0 : 0 ≤ k0) (hk1 : k0 ≤ 1000000) (hh : ∃ S', hand.run [] [] = some (.pu (.bool true), S')) (hr : RightOk right) (ns : List Int) (hn : ns.length ≤ 63) :
    ∃ S', (mkF 1 3 (b_law1 hand right k0)).run [.sq ns] [] = some (.pu (.bool true), S') := by
  obtain ⟨S0, h0⟩ := hh
  obtain ⟨cs, c, T, h1, h2, h3, h4, h5⟩ := cells_ok (ns := ns) (S := S0) hn
  obtain ⟨T', h6⟩ := law_loop hk0 hk1 hr h2 (c := c) (e0 := some (.sq ns)) (e2 := none) (List.range cs.length) T [] (fun k hk => List.mem_range.mp hk) h4
  refine ⟨T', ?_⟩
  have hi : (iRng (sC (.int 0)) (sB oLen (aCons (sVar 1) aNil))).run [some (.sq ns), some (.mu c), none] T = some ((List.range cs.length).map fun (k : Nat) => .int (k : Int), T) := by
    rw [r_rng, r_c, Option.bind_some]
    have e : (sB oLen (aCons (sVar 1) aNil)).run [some (.sq ns), some (.mu c), none] T = some (.pu (.int (cs.length : Nat)), T) := by
      simp [len_mu h4]
    rw [e, Option.bind_some]
    show (if (smallI 0 && smallI ((cs.length : Nat) : Int)) = true then some (rngD 0 ((cs.length : Nat) : Int), T) else none) = _
    have hs : (smallI 0 && smallI ((cs.length : Nat) : Int)) = true := by
      rw [Bool.and_eq_true]
      exact ⟨Nat.ble_eq_true_of_le (by omega), Nat.ble_eq_true_of_le (by omega)⟩
    rw [if_pos hs]
    unfold rngD
    rw [Int.sub_zero, Int.toNat_natCast]
    simp
  show ((b_law1 hand right k0).run [some (.sq ns), none, none] []).bind fin = _
  unfold b_law1
  have hl : cs.length ≤ 100000 := by omega
  rw [r_seq, r_gif, r_not, r_call]
  simp [h0, h3, hi, h6, oAll, look, all_rep, hl]

/-! ### draws, the state told -/
def BS (b : Nat) (B : Int) (S : Sto) : Prop := ∃ ds, S[b]? = some (true, ds) ∧ Box B ds
theorem BS.mono {b : Nat} {B B' : Int} {S : Sto} (h : BS b B S) (e : B ≤ B') : BS b B' S := let ⟨ds, h1, h2⟩ := h; ⟨ds, h1, h2.mono e⟩
theorem take_st {b : Nat} {B top : Int} {S : Sto} (h : BS b B S) (hB : B ≤ 2 ^ 60) (ht : dvs top) :
    ∃ x S', f_take.run [.mu b, .pu (.int top)] S = some (.pu (.int x), S') ∧ 0 ≤ x ∧ x < top ∧ BS b (B + 1) S' ∧ Fr b S S' := by
  obtain ⟨ds, h1, h2⟩ := h
  obtain ⟨x, ds', e, x0, x1, hb⟩ := take_ok h1 h2 hB ht
  exact ⟨x, _, e, x0, x1, ⟨ds', get_set h1, hb⟩, Fr.set _ _ _⟩
theorem of_st {b : Nat} {B : Int} {S : Sto} (h : BS b B S) (hB : B ≤ 2 ^ 60) {xs : List PyData} (h0 : 0 < xs.length) (h1 : xs.length ≤ 1000000) :
    ∃ x S', f_of.run [.mu b, .pu (.list xs)] S = some (.pu x, S') ∧ x ∈ xs ∧ BS b (B + 1) S' ∧ Fr b S S' := by
  obtain ⟨ds, g1, g2⟩ := h
  obtain ⟨x, ds', e, hx, hb⟩ := of_ok g1 g2 hB h0 h1
  exact ⟨x, _, e, hx, ⟨ds', get_set g1, hb⟩, Fr.set _ _ _⟩
def b_rule : SS :=
  (gSeq (gSet 2 (sAdd (sC (.int 1)) (sCall f_take (aCons (sVar 0) (aCons (sVar 1) aNil)))))
    (gRet (sTup (aCons (sSub (sCall f_take (aCons (sVar 0) (aCons (sAdd (sMul (sC (.int 2)) (sVar 1)) (sC (.int 1))) aNil))) (sVar 1)) (aCons (sSub (sCall f_take (aCons (sVar 0) (aCons (sAdd (sMul (sC (.int 2)) (sVar 1)) (sC (.int 1))) aNil))) (sVar 1)) (aCons (sVar 2) aNil))))))
def f_rule : FS := mkF 2 3 b_rule
theorem rule_st {b : Nat} {B wide : Int} {S : Sto} (h : BS b B S) (hB : B ≤ 2 ^ 59) (h0 : 0 < wide) (h1 : wide ≤ 10 ^ 100) :
    ∃ x y d S', f_rule.run [.mu b, .pu (.int wide)] S = some (.pu (.tuple [.int x, .int y, .int d]), S') ∧ -wide ≤ x ∧ x ≤ wide ∧ -wide ≤ y ∧ y ≤ wide ∧ 1 ≤ d ∧ d ≤ wide ∧ BS b (B + 3) S' ∧ Fr b S S' := by
  have hw : dvs wide := dvs_of h0 (by omega)
  have hw2 : dvs (2 * wide + 1) := dvs_of (by omega) (by omega)
  obtain ⟨d, S1, e1, d0, d1, b1, f1⟩ := take_st h (by omega) hw
  obtain ⟨x, S2, e2, x0, x1, b2, f2⟩ := take_st b1 (by omega) hw2
  obtain ⟨y, S3, e3, y0, y1, b3, f3⟩ := take_st b2 (by omega) hw2
  refine ⟨x - wide, y - wide, 1 + d, S3, ?_, by omega, by omega, by omega, by omega, by omega, by omega, b3.mono (by omega), (f1.trans f2).trans f3⟩
  show (b_rule.run [some (.mu b), some (.pu (.int wide)), none] S).bind fin = _
  unfold b_rule
  have m1 : mulOk 2 wide = true := mulOk_l (by decide) (by decide)
  simp [e1, e2, e3, m1]
/-- a for whose turns all go on -/
theorem loopR_inv {t : SG} {b : SS} (N : Nat) (I : Nat → En → Sto → Prop) : ∀ (ds : List PyData) (i : Nat) (en : En) (S : Sto), i + ds.length ≤ N → I i en S → (∀ i d en S, i < N → I i en S → d ∈ ds → ∃ en1 en2 S2, t.run d en = some en1 ∧ b.run en1 S = some (.nx, en2, S2) ∧ I (i + 1) en2 S2) →
    ∃ en' S', loopR t b ds en S = some (.nx, en', S') ∧ I (i + ds.length) en' S'
  | [], i, en, S, _, h, _ => ⟨en, S, rfl, h⟩
  | d :: ds, i, en, S, hN, h, hs => by
    rw [List.length_cons] at hN
    obtain ⟨en1, en2, S2, h1, h2, h3⟩ := hs i d en S (by omega) h List.mem_cons_self
    obtain ⟨en', S', h4, h5⟩ := loopR_inv N I ds (i + 1) en2 S2 (by omega) h3 fun i d en S hi' hi hd => hs i d en S hi' hi (List.mem_cons_of_mem _ hd)
    refine ⟨en', S', ?_, by rw [List.length_cons, show i + (ds.length + 1) = i + 1 + ds.length by omega]; exact h5⟩
    show (t.run d en).bind _ = _
    rw [h1, Option.bind_some]
    show (b.run en1 S).bind _ = _
    rw [h2, Option.bind_some]
    exact h4
end Z

namespace Z
open PySem L2 PyProof.Rows
/-! ### in, not in: a list of data -/
def oIn (neg : Bool) : W → W → Sto → Option W := fun x y S => match look x S, look y S with
  | some d, some (.list ds) => if (SeqAt.shaped d && SeqAt.shaped (.list ds)) = true then some (.pu (.bool (neg != ds.any fun z => PyData.eqv z d))) else none
  | _, _ => none
theorem os_in {K : PySem.W.Frag} : OpS K (rInD K) (oIn false) := by
  intro F m S P H x y v u z Q rl w1 w2 e q
  unfold oIn at e
  split at e
  · rename_i d ds h1 h2
    split at e
    · rename_i hs
      cases e
      rw [Bool.and_eq_true] at hs
      refine ⟨d, ds, (look_ok rl w1 h1).dp rl.ex, (look_ok rl w2 h2).dp rl.ex, hs.1, hs.2, q F H _ (Same.refl F) rl ?_⟩
      rw [Bool.false_bne]
      exact .bl _
    · cases e
  · cases e
theorem os_notIn {K : PySem.W.Frag} : OpS K (rNotInD K) (oIn true) := by
  intro F m S P H x y v u z Q rl w1 w2 e q
  unfold oIn at e
  split at e
  · rename_i d ds h1 h2
    split at e
    · rename_i hs
      cases e
      rw [Bool.and_eq_true] at hs
      refine ⟨d, ds, (look_ok rl w1 h1).dp rl.ex, (look_ok rl w2 h2).dp rl.ex, hs.1, hs.2, q F H _ (Same.refl F) rl ?_⟩
      rw [Bool.true_bne]
      exact .bl _
    · cases e
  · cases e
theorem in_bl {n : Bool} : ∀ x y S z, oIn n x y S = some z → ∃ b, z = .pu (.bool b) := by
  intro x y S z h
  unfold oIn at h
  split at h
  · split at h
    · cases h
      exact ⟨_, rfl⟩
    · cases h
  · cases h
def sIn : SE → SE → SE := op2 (oIn false)
def sNin : SE → SE → SE := op2 (oIn true)
section
variable {X : Cx} {a b : Expr} {pos : Pos} {f g : SE}
theorem z_in (hu : X.A.units + 65 < cLine) (hm : behindInMarks .In b = false) (ha : PE X a (tI X.K f)) (hb : PE X b (tI X.K g)) : PE X (.Compare a [.In] [b] pos) (tI X.K (sIn f g)) := z_cmp (op_inD hu) os_in ha hb hm
theorem z_nin (hu : X.A.units + 65 < cLine) (hm : behindInMarks .NotIn b = false) (ha : PE X a (tI X.K f)) (hb : PE X b (tI X.K g)) : PE X (.Compare a [.NotIn] [b] pos) (tI X.K (sNin f g)) := z_cmp (op_notInD hu) os_notIn ha hb hm
theorem zt_in (hu : X.A.units + 65 < cLine) (hm : behindInMarks .In b = false) (ha : PE X a (tI X.K f)) (hb : PE X b (tI X.K g)) : PT X (.Compare a [.In] [b] pos) (tIT X.K (sIn f g)) := zt_cmp (op_inD hu) os_in in_bl ha hb hm
theorem zt_nin (hu : X.A.units + 65 < cLine) (hm : behindInMarks .NotIn b = false) (ha : PE X a (tI X.K f)) (hb : PE X b (tI X.K g)) : PT X (.Compare a [.NotIn] [b] pos) (tIT X.K (sNin f g)) := zt_cmp (op_notInD hu) os_notIn in_bl ha hb hm
theorem room65 {k : Nat} {A : Around} (r : Room k A) : A.units + 65 < cLine := by have := r.un; omega
end
/-! ### xs[::-1] -/
def sRev (mt : Bool) (f : SE) : SE := ⟨fun en S => (f.run en S).bind fun p => match look p.1 p.2 with
  | some (.list ds) => some (mkL mt ds.reverse p.2)
  | _ => none, fun {en S w S'} e => by
  obtain ⟨p, h1, e⟩ := bind_some_of e
  split at e
  · rename_i ds _
    have h := mkL_len (mt := mt) (ds := ds.reverse) (S := p.2)
    rw [Option.some.inj e] at h
    exact Nat.le_trans (f.mono h1) h
  · cases e⟩
theorem z_rev {X : Cx} {e : Expr} {f : SE} {k : Nat} {p1 p2 p3 pos : Pos} (mt : Bool) (he : PE X e (tI X.K f)) : PE X (.Subscript e (.Slice none none (some (.UnaryOp .USub (.Constant (.int 1) k p1) p2)) p3) pos) (tI X.K (sRev mt f)) := by
  refine pe_imp (pe_revL he) fun σ H Q ⟨F, m, S, P, en, w, S', rl, er, run, q⟩ => ?_
  obtain ⟨⟨x, S1⟩, h1, e⟩ := bind_some_of run
  split at e
  · rename_i ds hx
    refine ⟨F, m, S, P, en, x, S1, rl, er, h1, fun F1 m1 H1 v u1 rl1 wr1 => ?_⟩
    obtain ⟨a, vs, rfl, g1, g2⟩ := (look_ok rl1 wr1 hx).lst rl1.ex
    refine ⟨a, vs, rfl, SqL.of g1, mkL_ok (K := X.K) (mt := mt) rl1 g2.reverse fun F4 m4 H4 v4 u4 rl4 wr4 => ?_⟩
    have e' : mkL mt ds.reverse S1 = (w, S') := Option.some.inj e
    rw [e'] at rl4 wr4
    exact q F4 m4 H4 v4 (u1.trans u4 (f.mono h1)) rl4 wr4
  · cases e
/-! ### x.pop() -/
def sPop (i : Nat) : SE := ⟨fun en S => match en[i]? with
  | some (some (.mu j)) => match S[j]? with
    | some (true, ds) => (ds[ds.length - 1]?).map fun d => (.pu d, S.set j (true, ds.dropLast))
    | _ => none
  | _ => none, fun {en S w S'} e => by
  split at e
  · split at e
    · obtain ⟨d, _, e⟩ := Option.map_eq_some_iff.mp e
      cases e
      rw [List.length_set]
      exact Nat.le_refl _
    · cases e
  · cases e⟩
theorem z_pop {X : Cx} {x : Str} {i : Nat} {px apos cpos : Pos} (hv : PE X (.Name x px) (tVar i))
    (hp : ∀ {to}, PE X (.Name x px) to → PE X (.Call (.Attribute (.Name x px) "pop" apos) [] [] cpos) (tBM0 X.K "list" rPop to)) : PE X (.Call (.Attribute (.Name x px) "pop" apos) [] [] cpos) (tI X.K (sPop i)) := by
  refine pe_imp (hp hv) fun σ H Q ⟨F, m, S, P, en, w, S', rl, er, run, q⟩ => ?_
  have run : (match en[i]? with
    | some (some (.mu j)) => match S[j]? with
      | some (true, ds) => (ds[ds.length - 1]?).map fun d => (W.pu d, S.set j (true, ds.dropLast))
      | _ => none
    | _ => none) = some (w, S') := run
  split at run
  · rename_i j hj
    split at run
    · rename_i ds hds
      obtain ⟨d, hd, e⟩ := Option.map_eq_some_iff.mp run
      cases e
      obtain ⟨vs, g1, g2, g3⟩ := rl.mt j ds hds (er_mu er hj).2.2
      obtain ⟨v, k1, k2⟩ := g1.get hd
      refine ⟨.ref (m j).1, (er_mu er hj).1, .inl ⟨rfl, vs, SqL.of g3⟩, (m j).1, vs, v, rfl, rfl, g3, by rw [g1.length]; exact k1, ?_⟩
      exact q F m _ v (Up.refl _ _ _) (rl.write hds (er_mu er hj).2.2 g1.dropLast) k2
    · cases run
  · cases run
/-! ### a op b op c op d -/
section
variable {X : Cx} {a b c d : Expr} {pos : Pos} {ta tb tc td : TE}
def tChain3 (r r' r2 : R2) (ta tb tc td : TE) : TE := fun σ H Q => ta σ H fun x H1 => tb σ H1 fun y H2 => r x y H2 fun z H3 => ∃ k, z = .bl k ∧
  (if k = true then tc σ H3 fun w H4 => r' y w H4 fun z' H5 => ∃ k', z' = .bl k' ∧ (if k' = true then td σ H5 fun v H6 => r2 w v H6 Q else Q (.bl false) H5) else Q (.bl false) H3)
theorem pe_chain3 {op op' op2 : CmpOp} {r r' r2 : R2} (ho : OpR X (compareOp op) r) (ho' : OpR X (compareOp op') r') (ho2 : OpR X (compareOp op2) r2) (ha : PE X a ta) (hb : PE X b tb) (hc : PE X c tc) (hd : PE X d td)
    (hm : lastMarks [op, op', op2] [b, c, d] = false := by with_unfolding_all rfl) : PE X (.Compare a [op, op', op2] [b, c, d] pos) (tChain3 r r' r2 ta tb tc td) := by
  refine ⟨fun pins s σ H Q I h => ?_⟩
  refine Compare_chain (thn (ha.run pins s σ H _ I h) fun v s1 ⟨x, H1, I1, r1, q1⟩ => chain_link (thn (hb.run pins s1 σ H1 _ I1 q1) fun u s2 ⟨y, H2, I2, rr2, q2⟩ =>
    thn (ho pins s2 σ H2 x y v u _ I2 r1 rr2 q2) fun e s3 ⟨z, H3, I3, r3, k, e1, q3⟩ => ?_)) hm
  subst e1
  cases r3
  refine wpAny_truthy_bool ?_
  cases k with
  | false => exact ite_ff ⟨.bl false, H3, I3, rfl, q3⟩
  | true =>
    refine ite_tt (chain_link (thn (hc.run pins s3 σ H3 _ I3 q3) fun w' s4 ⟨z', H4, I4, r4, q4⟩ => thn (ho' pins s4 σ H4 y z' u w' _ I4 rr2 r4 q4) fun e2 s5 ⟨z2, H5, I5, r5, k2, e3, q5⟩ => ?_))
    subst e3
    cases r5
    refine wpAny_truthy_bool ?_
    cases k2 with
    | false => exact ite_ff ⟨.bl false, H5, I5, rfl, q5⟩
    | true => exact ite_tt (chain_last (thn (hd.run pins s5 σ H5 _ I5 q5) fun w2 s6 ⟨z3, H6, I6, r6, q6⟩ => ho2 pins s6 σ H6 z' z3 w' w2 Q I6 r4 r6 q6))
theorem pt_chain3 {op op' op2 : CmpOp} {r r' r2 : R2} (ho : OpR X (compareOp op) r) (ho' : OpR X (compareOp op') r') (ho2 : OpR X (compareOp op2) r2) (ha : PE X a ta) (hb : PE X b tb) (hc : PE X c tc) (hd : PE X d td)
    (hm : lastMarks [op, op', op2] [b, c, d] = false := by with_unfolding_all rfl) : PT X (.Compare a [op, op', op2] [b, c, d] pos) (tTest (tChain3 r r' r2 ta tb tc td)) := by
  refine ⟨fun pins s σ H Q I h => ?_⟩
  refine isTrue_chain (thn (ha.run pins s σ H _ I h) fun v s1 ⟨x, H1, I1, r1, q1⟩ => test_link (thn (hb.run pins s1 σ H1 _ I1 q1) fun u s2 ⟨y, H2, I2, rr2, q2⟩ =>
    thn (ho pins s2 σ H2 x y v u _ I2 r1 rr2 q2) fun e s3 ⟨z, H3, I3, r3, k, e1, q3⟩ => ?_)) hm
  subst e1
  cases r3
  refine wpAny_truthy_bool ?_
  cases k with
  | false =>
    obtain ⟨k', e', q'⟩ := q3
    cases e'
    exact ite_ff ⟨H3, I3, q'⟩
  | true =>
    refine ite_tt (test_link (thn (hc.run pins s3 σ H3 _ I3 q3) fun w' s4 ⟨z', H4, I4, r4, q4⟩ => thn (ho' pins s4 σ H4 y z' u w' _ I4 rr2 r4 q4) fun e2 s5 ⟨z2, H5, I5, r5, k2, e3, q5⟩ => ?_))
    subst e3
    cases r5
    refine wpAny_truthy_bool ?_
    cases k2 with
    | false =>
      obtain ⟨k', e', q'⟩ := q5
      cases e'
      exact ite_ff ⟨H5, I5, q'⟩
    | true =>
      refine ite_tt (test_last (thn (hd.run pins s5 σ H5 _ I5 q5) fun w2 s6 ⟨z3, H6, I6, r6, q6⟩ => thn (ho2 pins s6 σ H6 z' z3 w' w2 _ I6 r4 r6 q6) fun e4 s7 ⟨z4, H7, I7, r7, k3, e5, q7⟩ => ?_))
      subst e5
      cases r7
      exact wpAny_truthy_bool ⟨H7, I7, q7⟩
end
/-- what is read of a b c d: the first two answers must be True for the next to be read -/
def sChain3 (o o' o2 : W → W → Sto → Option W) (f g h l : SE) : SE := ⟨fun en S => (f.run en S).bind fun p => (g.run en p.2).bind fun q => (o p.1 q.1 q.2).bind fun z => match z with
  | .pu (.bool true) => (h.run en q.2).bind fun r => (o' q.1 r.1 r.2).bind fun z' => match z' with
    | .pu (.bool true) => (l.run en r.2).bind fun t => (o2 r.1 t.1 t.2).map fun y => (y, t.2)
    | .pu (.bool false) => some (.pu (.bool false), r.2)
    | _ => none
  | .pu (.bool false) => some (.pu (.bool false), q.2)
  | _ => none, fun {en S w S'} e => by
  obtain ⟨p, h1, e⟩ := bind_some_of e
  obtain ⟨q, h2, e⟩ := bind_some_of e
  obtain ⟨z, h3, e⟩ := bind_some_of e
  have ll := Nat.le_trans (f.mono h1) (g.mono h2)
  split at e
  · obtain ⟨r, h4, e⟩ := bind_some_of e
    obtain ⟨z', h5, e⟩ := bind_some_of e
    have l3 := Nat.le_trans ll (h.mono h4)
    split at e
    · obtain ⟨t, h6, e⟩ := bind_some_of e
      obtain ⟨y, h7, e⟩ := Option.map_eq_some_iff.mp e
      cases e
      exact Nat.le_trans l3 (l.mono h6)
    · cases e; exact l3
    · cases e
  · cases e; exact ll
  · cases e⟩
theorem chain3_imp {K : PySem.W.Frag} {r r' r2 : R2} {o o' o2 : W → W → Sto → Option W} {f g h l : SE} (ho : OpS K r o) (ho' : OpS K r' o') (ho2 : OpS K r2 o2) : ∀ σ H Q, tI K (sChain3 o o' o2 f g h l) σ H Q → tChain3 r r' r2 (tI K f) (tI K g) (tI K h) (tI K l) σ H Q := by
  intro σ H Q ⟨F, m, S, P, en, w, S', rl, er, run, q⟩
  obtain ⟨⟨x, S1⟩, h1, e⟩ := bind_some_of run
  obtain ⟨⟨y, S2⟩, h2, e⟩ := bind_some_of e
  obtain ⟨z, h3, e⟩ := bind_some_of e
  refine ⟨F, m, S, P, en, x, S1, rl, er, h1, fun F1 m1 H1 v u1 rl1 wr1 => ⟨F1, m1, S1, P, en, y, S2, rl1, er.up u1 (f.mono h1), h2, fun F2 m2 H2 u u2 rl2 wr2 => ?_⟩⟩
  have er2 := (er.up u1 (f.mono h1)).up u2 (g.mono h2)
  have ll := Nat.le_trans (f.mono h1) (g.mono h2)
  refine ho F2 m2 S2 P H2 x y v u z _ rl2 (wr1.up u2 (g.mono h2)) wr2 h3 fun F3 H3 t e3 rl3 wr3 => ?_
  have u3 : Up F2 m2 S2.length F3 m2 := ⟨e3, fun _ _ => rfl⟩
  have uu : Up F m S.length F3 m2 := (u1.trans u2 (f.mono h1)).trans u3 ll
  split at e
  · cases wr3
    refine ⟨true, rfl, iteT ?_⟩
    obtain ⟨⟨y', S4⟩, h4, e⟩ := bind_some_of e
    obtain ⟨z', h5, e⟩ := bind_some_of e
    refine ⟨F3, m2, S2, P, en, y', S4, rl3, er2.up u3 (Nat.le_refl _), h4, fun F5 m5 H5 v5 u5 rl5 wr5 => ?_⟩
    have l3 := Nat.le_trans ll (h.mono h4)
    refine ho' F5 m5 S4 P H5 y y' u v5 z' _ rl5 ((wr2.up u3 (Nat.le_refl _)).up u5 (h.mono h4)) wr5 h5 fun F6 H6 t6 e6 rl6 wr6 => ?_
    have u6 : Up F5 m5 S4.length F6 m5 := ⟨e6, fun _ _ => rfl⟩
    have uv : Up F m S.length F6 m5 := (uu.trans u5 ll).trans u6 l3
    split at e
    · cases wr6
      refine ⟨true, rfl, iteT ?_⟩
      obtain ⟨⟨y2, S7⟩, h6, e⟩ := bind_some_of e
      obtain ⟨t', h7, e⟩ := Option.map_eq_some_iff.mp e
      cases e
      refine ⟨F6, m5, S4, P, en, y2, S7, rl6, ((er2.up u3 (Nat.le_refl _)).up u5 (h.mono h4)).up u6 (Nat.le_refl _), h6, fun F7 m7 H7 v7 u7 rl7 wr7 => ?_⟩
      refine ho2 F7 m7 S7 P H7 y' y2 v5 v7 w _ rl7 ((wr5.up u6 (Nat.le_refl _)).up u7 (l.mono h6)) wr7 h7 fun F8 H8 t8 e8 rl8 wr8 => ?_
      exact q F8 m7 H8 t8 ((uv.trans u7 l3).trans ⟨e8, fun _ _ => rfl⟩ (Nat.le_trans l3 (l.mono h6))) rl8 wr8
    · cases wr6
      cases e
      exact ⟨false, rfl, iteF (q F6 m5 H6 _ uv rl6 (.bl _))⟩
    · cases e
  · cases wr3
    cases e
    exact ⟨false, rfl, iteF (q F3 m2 H3 _ uu rl3 (.bl _))⟩
  · cases e
theorem z_chain3 {X : Cx} {a b c d : Expr} {pos : Pos} {op op' op2 : CmpOp} {r r' r2 : R2} {o o' o2 : W → W → Sto → Option W} {f g h l : SE} (hr : OpR X (compareOp op) r) (hr' : OpR X (compareOp op') r') (hr2 : OpR X (compareOp op2) r2) (ho : OpS X.K r o) (ho' : OpS X.K r' o') (ho2 : OpS X.K r2 o2) (ha : PE X a (tI X.K f)) (hb : PE X b (tI X.K g)) (hc : PE X c (tI X.K h)) (hd : PE X d (tI X.K l))
    (hm : lastMarks [op, op', op2] [b, c, d] = false := by with_unfolding_all rfl) : PE X (.Compare a [op, op', op2] [b, c, d] pos) (tI X.K (sChain3 o o' o2 f g h l)) := pe_imp (pe_chain3 hr hr' hr2 ha hb hc hd hm) (chain3_imp ho ho' ho2)
theorem zt_chain3 {X : Cx} {a b c d : Expr} {pos : Pos} {op op' op2 : CmpOp} {r r' r2 : R2} {o o' o2 : W → W → Sto → Option W} {f g h l : SE} (hr : OpR X (compareOp op) r) (hr' : OpR X (compareOp op') r') (hr2 : OpR X (compareOp op2) r2) (ho : OpS X.K r o) (ho' : OpS X.K r' o') (ho2 : OpS X.K r2 o2)
    (hbl : ∀ x y S z, o2 x y S = some z → ∃ b, z = .pu (.bool b)) (ha : PE X a (tI X.K f)) (hb : PE X b (tI X.K g)) (hc : PE X c (tI X.K h)) (hd : PE X d (tI X.K l))
    (hm : lastMarks [op, op', op2] [b, c, d] = false := by with_unfolding_all rfl) : PT X (.Compare a [op, op', op2] [b, c, d] pos) (tIT X.K (sChain3 o o' o2 f g h l)) := by
  refine pt_imp (pt_chain3 hr hr' hr2 ha hb hc hd hm) fun σ H Q ⟨F, m, S, P, en, w, S', k, rl, er, run, tr, q⟩ => ?_
  refine chain3_imp ho ho' ho2 σ H _ ⟨F, m, S, P, en, w, S', rl, er, run, fun F1 m1 H1 v u1 rl1 wr1 => ?_⟩
  have hw : ∃ b, w = .pu (.bool b) := by
    obtain ⟨⟨x, S1⟩, h1, e⟩ := bind_some_of run
    obtain ⟨⟨y, S2⟩, h2, e⟩ := bind_some_of e
    obtain ⟨z, h3, e⟩ := bind_some_of e
    split at e
    · obtain ⟨⟨y', S4⟩, h4, e⟩ := bind_some_of e
      obtain ⟨z', h5, e⟩ := bind_some_of e
      split at e
      · obtain ⟨⟨y2, S7⟩, h6, e⟩ := bind_some_of e
        obtain ⟨t', h7, e⟩ := Option.map_eq_some_iff.mp e
        cases e
        exact hbl _ _ _ _ h7
      · cases e
        exact ⟨false, rfl⟩
      · cases e
    · cases e
      exact ⟨false, rfl⟩
    · cases e
  obtain ⟨b, rfl⟩ := hw
  cases tr
  cases wr1
  exact ⟨k, rfl, q F1 m1 H1 u1 rl1⟩
/-! ### range(lo, hi, step) -/
def rngC (lo c : Int) (n : Nat) : List PyData := (List.range n).map fun (i : Nat) => .int (lo + (i : Int) * c)
theorem yld_rngC {F : Hp} {lo c : Int} {n : Nat} : Yld ((List.range n).map fun (i : Nat) => PyData.int (lo + (i : Int) * c)) F (YFn fun i => .int (lo + (i : Nat) * c)) := by
  rintro i F1 m S P H x H' e rl hi ⟨rfl, rfl⟩
  rw [List.length_map, List.length_range] at hi
  exact ⟨F1, .int (lo + i * c), Same.refl F1, rl, by rw [List.getElem?_map, List.getElem?_range hi]; rfl, .int _⟩
def rgN (i j c : Int) : Nat := (Builtin.Range.rangeSize i j c).toNat
def okC (i j c : Int) : Bool := (decide (c ≠ 0) && decide (c.natAbs < 1073741824)) && (Builtin.Range.small i j c && decide (0 ≤ Builtin.Range.rangeSize i j c))
def iRngC (f g h : SE) : SI := ⟨fun en S => (f.run en S).bind fun p => (g.run en p.2).bind fun q => (h.run en q.2).bind fun t => match p.1, q.1, t.1 with
  | .pu (.int i), .pu (.int j), .pu (.int c) => if okC i j c = true then some (rngC i c (rgN i j c), t.2) else none
  | _, _, _ => none, fun {en S r} e => by
  obtain ⟨p, h1, e⟩ := bind_some_of e
  obtain ⟨q, h2, e⟩ := bind_some_of e
  obtain ⟨t, h3, e⟩ := bind_some_of e
  split at e
  · split at e
    · cases e
      exact Nat.le_trans (Nat.le_trans (f.mono h1) (g.mono h2)) (h.mono h3)
    · cases e
  · cases e⟩
theorem i_rng3 {X : Cx} {tg : Expr} {pos : Pos} {f g h : SE} {a b c : Expr} {p : Pos} (hg : Gl X "range") (hm : X.mg "range" = none) (ha : PA X [a, b, c] (tIA X.K (aCons f (aCons g (aCons h aNil)))))
    (hs : starEach [a, b, c] X.env = (false, eval a X.env) :: starEach [b, c] X.env := by rfl) (hpl : (backTo pos (starEach [b, c] X.env)).any (·.1) = false := by rfl) :
    ZI X tg (.Call (.Name "range" p) [a, b, c] [] pos) (iRngC f g h) := by
  refine ⟨_, pi_range3 hg hm ha hs hpl, fun σ H R F m S P en ds S' rl er run q => ?_⟩
  obtain ⟨⟨x, S1⟩, h1, e⟩ := bind_some_of run
  obtain ⟨⟨y, S2⟩, h2, e⟩ := bind_some_of e
  obtain ⟨⟨z, S3⟩, h3, e⟩ := bind_some_of e
  split at e
  · rename_i i j c z1 z2 z3
    cases z1
    cases z2
    cases z3
    split at e
    · rename_i hc
      cases e
      unfold okC at hc
      rw [Bool.and_eq_true, Bool.and_eq_true, Bool.and_eq_true, decide_eq_true_eq, decide_eq_true_eq, decide_eq_true_eq] at hc
      refine ⟨F, m, S, P, en, [.pu (.int i), .pu (.int j), .pu (.int c)], S3, rl, er, ?_, fun F1 m1 H1 vs u1 rl1 wr1 => ?_⟩
      · show (f.run en S).bind _ = _
        rw [h1]
        show ((g.run en S1).bind _).map _ = _
        rw [h2]
        show (((h.run en S2).bind _).map _).map _ = _
        rw [h3]
        rfl
      · cases wr1 with
        | cons w1 wr =>
          cases wr with
          | cons w2 wr =>
            cases wr with
            | cons w3 wr =>
              cases wr
              cases w1
              cases w2
              cases w3
              refine ⟨i, j, c, rgN i j c, rfl, ⟨hc.1.1, hc.1.2, hc.2.1, (Int.toNat_of_nonneg hc.2.2).symm⟩, ?_⟩
              have wk : Walk (Itc i c (rgN i j c)) (rngC i c (rgN i j c)).length (fun _ => True) (YFn fun k => .int (i + (k : Nat) * c)) := by
                have hl : (rngC i c (rgN i j c)).length = rgN i j c := by unfold rngC; rw [List.length_map, List.length_range]
                rw [hl]
                exact walk_rangeC
              exact q F1 m1 H1 _ _ _ u1 rl1 wk (fun _ _ _ _ => trivial) yld_rngC
    · cases e
  · cases e
end Z

namespace Z
open PySem L2
/-! ### reversed(a list) -/
def iRevS (f : SE) : SI := ⟨fun en S => (f.run en S).bind fun p => (fz p.1 p.2).bind fun q => match q.1 with
  | .list ds => some (ds.reverse, q.2)
  | _ => none, fun {en S r} e => by
  obtain ⟨p, h1, e⟩ := bind_some_of e
  obtain ⟨q, h2, e⟩ := bind_some_of e
  split at e
  · cases e
    rw [← fz_len h2]
    exact f.mono h1
  · cases e⟩
section
variable {X : Cx} {e tg : Expr} {pos : Pos} {f : SE}
theorem i_rev {a : Expr} {p : Pos} (hg : Gl X "reversed") (hm : X.mg "reversed" = none) (ha : PA X [a] (tIA X.K (aCons f aNil))) (hs : starEach [a] X.env = [(false, eval a X.env)] := by rfl) :
    ZI X tg (.Call (.Name "reversed" p) [a] [] pos) (iRevS f) := by
  refine ⟨_, pi_reversed hg hm ha hs, fun σ H R F m S P en ds S' rl er run q => ?_⟩
  obtain ⟨⟨x, S1⟩, h1, e⟩ := bind_some_of run
  obtain ⟨⟨d, S2⟩, h2, e⟩ := bind_some_of e
  cases d with
  | list ds' =>
    cases e
    refine ⟨F, m, S, P, en, [x], S1, rl, er, ?_, fun F1 m1 H1 vs u1 rl1 wr1 => ?_⟩
    · show (f.run en S).bind _ = _
      rw [h1]
      rfl
    cases wr1 with
    | cons w1 wr =>
      cases wr
      obtain ⟨F2, s2, rl2, at2⟩ := fz_ok rl1 w1 h2
      cases at2 with
      | @lst a vs _ g1 g2 =>
        refine ⟨a, vs, rfl, SqL.of (rl2.ex _ _ g1), ?_⟩
        have wk : Walk (Itv X.K a vs.length) ds'.reverse.length (fun H => SqL X.K H a vs) (YAt vs.reverse) := by
          rw [List.length_reverse, ← g2.length]
          refine ⟨walk_rev.goes, walk_rev.stops, fun i H x H' hi q y => ?_⟩
          obtain ⟨y1, y2⟩ := walk_rev.yields i H x H' hi q y
          exact ⟨y1, by rw [List.getElem?_reverse (by omega)]; exact y2⟩
        exact q F2 m1 H1 _ _ _ (u1.trans ⟨s2, fun _ _ => rfl⟩ (f.mono h1)) rl2 wk (fun F3 H3 e1 e2 => SqL.of (e2 _ _ (e1 _ _ g1))) (yld_at g2.reverse)
  | _ => cases e
theorem r_rev {en : En} {S : Sto} : (iRevS f).run en S = (f.run en S).bind fun p => (fz p.1 p.2).bind fun q => match q.1 with
  | .list ds => some (ds.reverse, q.2)
  | _ => none := rfl
end
/-! ### a product, or a list so many times -/
def oMulA : W → W → Sto → Option W := fun x y S => match look x S, look y S with
  | some (.int i), some (.int j) => if mulOk i j = true then some (.pu (.int (i * j))) else none
  | some (.list xs), some (.int k) => if Nat.ble k.natAbs 10000000 = true ∧ xs.length * k.toNat ≤ sizeLine then some (.pu (.list (List.replicate k.toNat xs).flatten)) else none
  | _, _ => none
theorem AtAll.rep {F : Hp} {vs : List V} {ds : List PyData} (h : AtAll F vs ds) : ∀ n : Nat, AtAll F (List.replicate n vs).flatten (List.replicate n ds).flatten
  | 0 => .nil
  | n + 1 => by
    rw [List.replicate_succ, List.replicate_succ, List.flatten_cons, List.flatten_cons]
    exact h.append (AtAll.rep h n)
def rMulA : R2 := fun x y H Q => rMulZ x y H Q ∨ rRep x y H Q
theorem os_mulA {K : PySem.W.Frag} : OpS K rMulA oMulA := by
  intro F m S P H x y v u z Q rl w1 w2 e q
  unfold oMulA at e
  split at e
  · rename_i i j h1 h2
    refine .inl (os_mul F m S P H x y v u z Q rl w1 w2 ?_ q)
    unfold i2c
    rw [h1, h2]
    exact e
  · rename_i xs k h1 h2
    split at e
    · rename_i hl
      cases e
      obtain ⟨p, vs, rfl, g1, g2⟩ := (look_ok rl w1 h1).lst rl.ex
      refine .inr ⟨p, k, vs, rfl, (look_ok rl w2 h2).int, g1, (by have := Nat.le_of_ble_eq_true hl.1; omega), (by have := Nat.le_of_ble_eq_true hl.1; omega), by rw [g2.length]; exact hl.2, fun a ha => ?_⟩
      exact q (upd F a (.lst (List.replicate k.toNat vs).flatten)) _ _ (same_upd (rl.ex.free ha)) (rl.new ha) (.lst upd_same ((g2.rep _).mono (same_upd (rl.ex.free ha))))
    · cases e
  · cases e
section
variable {X : Cx} {a b : Expr} {pos : Pos} {f g : SE}
def sMulA : SE → SE → SE := op2 oMulA
theorem z_mulA (ha : PE X a (tI X.K f)) (hb : PE X b (tI X.K g)) : PE X (.BinOp a .Mult b pos) (tI X.K (sMulA f g)) := z_op (OpR.or (OpR.or op_mul op_mulW) op_rep) os_mulA ha hb
variable {en : En} {S : Sto}
@[simp] theorem r_mulA : (sMulA f g).run en S = (f.run en S).bind fun p => (g.run en p.2).bind fun q => (oMulA p.1 q.1 q.2).map fun z => (z, q.2) := rfl
@[simp] theorem mulA_int {i j : Int} : oMulA (.pu (.int i)) (.pu (.int j)) S = if mulOk i j = true then some (.pu (.int (i * j))) else none := rfl
theorem mulA_list {xs : List PyData} {k : Int} : oMulA (.pu (.list xs)) (.pu (.int k)) S = if Nat.ble k.natAbs 10000000 = true ∧ xs.length * k.toNat ≤ sizeLine then some (.pu (.list (List.replicate k.toNat xs).flatten)) else none := rfl
end
/-! ### several targets at once: a tuple or a list -/
def gTS (K : PySem.W.Frag) (n : Nat) (t : TGs) : TG := fun v σ H Q => gTup K n t v σ H Q ∨ gLst K n t v σ H Q
theorem pg_ts {X : Cx} {es : List Expr} {k : Nat} {t : TGs} {n : Nat} {pos : Pos} (h1 : PG X (.Tuple es k pos) (gTup X.K n t)) (h2 : PG X (.Tuple es k pos) (gLst X.K n t)) : PG X (.Tuple es k pos) (gTS X.K n t) :=
  ⟨fun pins s σ H v u Q I r hw => hw.elim (h1.run pins s σ H v u Q I r) (h2.run pins s σ H v u Q I r)⟩
def tgSeq (n : Nat) (r : SGs) : SG := ⟨fun d en => match d with
  | .tuple ds => if ds.length = n then r.run ds en else none
  | .list ds => if ds.length = n then r.run ds en else none
  | _ => none, r.ts⟩
theorem kg_seq {K : PySem.W.Frag} {g : TGs} {n : Nat} {r : SGs} (k : KGs K g r) : KG K (gTS K n g) (tgSeq n r) := by
  intro F H m n' en en' σ v d Q ex er at' run q
  cases at' with
  | @tup a xs ds h1 h2 =>
    have run : (if ds.length = n then r.run ds en else none) = some en' := run
    split at run
    · rename_i hl
      exact .inl ⟨a, xs, rfl, SqT.of (ex _ _ h1), by rw [h2.length]; exact hl, k F H m n' en en' σ xs ds Q ex er h2 run q⟩
    · cases run
  | @lst a xs ds h1 h2 =>
    have run : (if ds.length = n then r.run ds en else none) = some en' := run
    split at run
    · rename_i hl
      exact .inr ⟨a, xs, rfl, SqL.of (ex _ _ h1), by rw [h2.length]; exact hl, k F H m n' en en' σ xs ds Q ex er h2 run q⟩
    · cases run
  | _ => cases run
theorem g_seq {X : Cx} {es : List Expr} {x : _} {pos : Pos} {n : Nat} {r : SGs} (h : ZGs X es r) (hp : ∀ {t}, PGs X es t → PG X (.Tuple es x pos) (gTup X.K n t)) (hp2 : ∀ {t}, PGs X es t → PG X (.Tuple es x pos) (gLst X.K n t)) : ZG X (.Tuple es x pos) (tgSeq n r) := by
  obtain ⟨g, p, k⟩ := h
  exact ⟨gTS X.K n g, pg_ts (hp p) (hp2 p), fun F H m n' en en' σ v d Q ex er at' run q => kg_seq (K := X.K) (g := g) (r := r) k F H m n' en en' σ v d Q ex er at' run q⟩
/-! ### a list that may change, made of two lists, or of a list so many times -/
def oCatL : W → W → Sto → Option (List PyData) := fun x y S => match look x S, look y S with
  | some (.list xs), some (.list ys) => if xs.length + ys.length ≤ sizeLine then some (xs ++ ys) else none
  | _, _ => none
def oRepL : W → W → Sto → Option (List PyData) := fun x y S => match look x S, look y S with
  | some (.list xs), some (.int k) => if Nat.ble k.natAbs 10000000 = true ∧ xs.length * k.toNat ≤ sizeLine then some (List.replicate k.toNat xs).flatten else none
  | _, _ => none
def op2M (o : W → W → Sto → Option (List PyData)) (f g : SE) : SE := ⟨fun en S => (f.run en S).bind fun p => (g.run en p.2).bind fun q => (o p.1 q.1 q.2).map fun ds => mkL true ds q.2, fun {en S w S'} e => by
  obtain ⟨p, h1, e⟩ := bind_some_of e
  obtain ⟨q, h2, e⟩ := bind_some_of e
  obtain ⟨z, h3, e⟩ := Option.map_eq_some_iff.mp e
  have := mkL_len (mt := true) (ds := z) (S := q.2)
  rw [e] at this
  exact Nat.le_trans (f.mono h1) (Nat.le_trans (g.mono h2) this)⟩
def OpM (K : PySem.W.Frag) (r : R2) (o : W → W → Sto → Option (List PyData)) : Prop := ∀ F m S P H x y v u ds (Q : VK), Rl F m S P H → WR K F m S.length v x → WR K F m S.length u y → o x y S = some ds →
  (∀ vs, AtAll F vs ds → ∀ p, H p = none → Q (.ref p) (upd H p (.lst vs))) → r v u H Q
theorem opm_cat {K : PySem.W.Frag} : OpM K rCat oCatL := by
  intro F m S P H x y v u ds Q rl w1 w2 e q
  unfold oCatL at e
  split at e
  · rename_i xs ys h1 h2
    split at e
    · rename_i hl
      cases e
      obtain ⟨p, vs, rfl, g1, g2⟩ := (look_ok rl w1 h1).lst rl.ex
      obtain ⟨p', vs', rfl, g1', g2'⟩ := (look_ok rl w2 h2).lst rl.ex
      exact ⟨p, p', vs, vs', rfl, rfl, g1, g1', by rw [g2.length, g2'.length]; exact hl, q _ (g2.append g2')⟩
    · cases e
  · cases e
theorem opm_rep {K : PySem.W.Frag} : OpM K rRep oRepL := by
  intro F m S P H x y v u ds Q rl w1 w2 e q
  unfold oRepL at e
  split at e
  · rename_i xs k h1 h2
    split at e
    · rename_i hl
      cases e
      obtain ⟨p, vs, rfl, g1, g2⟩ := (look_ok rl w1 h1).lst rl.ex
      exact ⟨p, k, vs, rfl, (look_ok rl w2 h2).int, g1, (by have := Nat.le_of_ble_eq_true hl.1; omega), (by have := Nat.le_of_ble_eq_true hl.1; omega), by rw [g2.length]; exact hl.2, q _ (g2.rep _)⟩
    · cases e
  · cases e
section
variable {X : Cx} {a b : Expr} {pos : Pos} {f g : SE}
theorem z_opM {op : Operator} {r : R2} {o : W → W → Sto → Option (List PyData)} (hr : OpR X (binaryOp op) r) (ho : OpM X.K r o) (ha : PE X a (tI X.K f)) (hb : PE X b (tI X.K g)) : PE X (.BinOp a op b pos) (tI X.K (op2M o f g)) := by
  refine pe_imp (pe_op hr ha hb) fun σ H Q ⟨F, m, S, P, en, w, S', rl, er, run, q⟩ => ?_
  obtain ⟨⟨x, S1⟩, h1, h⟩ := bind_some_of run
  obtain ⟨⟨y, S2⟩, h2, h⟩ := bind_some_of h
  obtain ⟨ds, h3, h⟩ := Option.map_eq_some_iff.mp h
  refine ⟨F, m, S, P, en, x, S1, rl, er, h1, fun F1 m1 H1 v u1 rl1 wr1 => ⟨F1, m1, S1, P, en, y, S2, rl1, er.up u1 (f.mono h1), h2, fun F2 m2 H2 u u2 rl2 wr2 => ?_⟩⟩
  refine ho F2 m2 S2 P H2 x y v u ds Q rl2 (wr1.up u2 (g.mono h2)) wr2 h3 fun vs hv => mkL_ok (K := X.K) (mt := true) rl2 hv fun F4 m4 H4 v4 u4 rl4 wr4 => ?_
  have e' : mkL true ds S2 = (w, S') := h
  rw [e'] at rl4 wr4
  exact q F4 m4 H4 v4 ((u1.trans u2 (f.mono h1)).trans u4 (Nat.le_trans (f.mono h1) (g.mono h2))) rl4 wr4
def sCatM : SE → SE → SE := op2M oCatL
def sRepM : SE → SE → SE := op2M oRepL
theorem z_catM (ha : PE X a (tI X.K f)) (hb : PE X b (tI X.K g)) : PE X (.BinOp a .Add b pos) (tI X.K (sCatM f g)) := z_opM op_cat opm_cat ha hb
theorem z_repM (ha : PE X a (tI X.K f)) (hb : PE X b (tI X.K g)) : PE X (.BinOp a .Mult b pos) (tI X.K (sRepM f g)) := z_opM op_rep opm_rep ha hb
variable {en : En} {S : Sto}
@[simp] theorem r_catM : (sCatM f g).run en S = (f.run en S).bind fun p => (g.run en p.2).bind fun q => (oCatL p.1 q.1 q.2).map fun ds => mkL true ds q.2 := rfl
@[simp] theorem r_repM : (sRepM f g).run en S = (f.run en S).bind fun p => (g.run en p.2).bind fun q => (oRepL p.1 q.1 q.2).map fun ds => mkL true ds q.2 := rfl
end
end Z

namespace Z
open PySem L2
/-! ### min(xs, default=d), max(xs, default=d) of a list of ints -/
theorem reads_ints {h : Heap} : ∀ {its : List Value} {ns : List Int}, PyProof.Rows.IntsAre its ns → ReadsAll h its (ns.map PyData.int) []
  | _, _, .nil => .nil
  | _, _, .cons n t r => by
    have := ReadsAll.cons (h := h) (Reads.int n t) (reads_ints r)
    exact this
theorem depth_ints : ∀ ns : List Int, PyData.depthAll (ns.map PyData.int) = 0
  | [] => rfl
  | n :: ns => by
    show max (PyData.depth (.int n)) (PyData.depthAll (ns.map PyData.int)) = 0
    rw [depth_ints ns]
    simp [PyData.depth]
theorem alike_ii (i j : Int) : PySem.W.alike (.int i) (.int j) = true := by simp [PySem.W.alike]
theorem alikeAll_ints (ns : List Int) : PySem.W.AlikeAll (ns.map PyData.int) := by
  refine ⟨fun x hx y hy => ?_, fun x hx => ?_⟩
  · obtain ⟨i, _, rfl⟩ := List.mem_map.mp hx
    obtain ⟨j, _, rfl⟩ := List.mem_map.mp hy
    exact alike_ii i j
  · obtain ⟨i, _, rfl⟩ := List.mem_map.mp hx
    exact fun h => by cases h
theorem foldl_min_spec : ∀ (ns : List Int) (n : Int), ns.foldl min n ∈ n :: ns ∧ ∀ y ∈ n :: ns, ns.foldl min n ≤ y
  | [], n => ⟨by simp, by simp⟩
  | k :: ns, n => by
    obtain ⟨h1, h2⟩ := foldl_min_spec ns (min n k)
    rw [List.foldl_cons]
    refine ⟨?_, fun y hy => ?_⟩
    · rcases List.mem_cons.mp h1 with h | h
      · rw [h]
        by_cases hk : n ≤ k
        · rw [Int.min_eq_left hk]; simp
        · rw [Int.min_eq_right (by omega)]; simp
      · exact List.mem_cons_of_mem _ (List.mem_cons_of_mem _ h)
    · have h0 := h2 (min n k) List.mem_cons_self
      rcases List.mem_cons.mp hy with rfl | hy
      · omega
      · rcases List.mem_cons.mp hy with rfl | hy
        · omega
        · exact h2 y (List.mem_cons_of_mem _ hy)
theorem foldl_max_spec : ∀ (ns : List Int) (n : Int), ns.foldl max n ∈ n :: ns ∧ ∀ y ∈ n :: ns, y ≤ ns.foldl max n
  | [], n => ⟨by simp, by simp⟩
  | k :: ns, n => by
    obtain ⟨h1, h2⟩ := foldl_max_spec ns (max n k)
    rw [List.foldl_cons]
    refine ⟨?_, fun y hy => ?_⟩
    · rcases List.mem_cons.mp h1 with h | h
      · rw [h]
        by_cases hk : n ≤ k
        · rw [Int.max_eq_right hk]; simp
        · rw [Int.max_eq_left (by omega)]; simp
      · exact List.mem_cons_of_mem _ (List.mem_cons_of_mem _ h)
    · have h0 := h2 (max n k) List.mem_cons_self
      rcases List.mem_cons.mp hy with rfl | hy
      · omega
      · rcases List.mem_cons.mp hy with rfl | hy
        · omega
        · exact h2 y (List.mem_cons_of_mem _ hy)
def rDf (K : PySem.W.Frag) (le : Int → Int → Prop) : List V → List V → Hp → VK → Prop := fun vs zs H Q => ∃ (a : Addr) (ns : List Int) (d : V), vs = [V.ref a] ∧ zs = [d] ∧ SqL K H a (ns.map V.int) ∧ (ns = [] → Q d H) ∧ ∀ m, m ∈ ns → (∀ y ∈ ns, le m y) → Q (.int m) H
theorem crk_min {X : Cx} (hc : X.calm = true) (hu : X.A.units + 65 < cLine) : CallRK X (.builtin "min") [Str.ofString "default"] (rDf X.K fun m y => m ≤ y) := by
  intro pins s σ H vs zs us ws Q I r rz h
  obtain ⟨a, ns, d, rfl, rfl, hs, q0, q1⟩ := h
  obtain ⟨its, rv, hl, _⟩ := I.list hs
  obtain rfl := Vals.ref1 r
  obtain ⟨w1, rfl, e1⟩ := vals1 rz
  have hi := rv.ints
  refine PySem.W.min_list_default (I.ok.hd hc) hl.isList (by simpa using reads_ints hi) (alikeAll_ints ns) (by rw [depth_ints]; omega) (fun h0 h' tk hk => ?_) fun y ys i v h' tk bs e hv hr hk => ?_
  · exact ⟨d, H, I.kept hk, e1, q0 (List.map_eq_nil_iff.mp h0)⟩
  · cases ns with
    | nil => cases e
    | cons n ns =>
      injection e with e2 e3
      subst e2 e3
      rw [PySem.W.minD_ints] at hr
      cases hr
      have sp := foldl_min_spec ns n
      exact ⟨.int _, H, I.kept hk, ⟨_, rfl⟩, q1 _ sp.1 sp.2⟩
theorem crk_max {X : Cx} (hc : X.calm = true) (hu : X.A.units + 65 < cLine) : CallRK X (.builtin "max") [Str.ofString "default"] (rDf X.K fun m y => y ≤ m) := by
  intro pins s σ H vs zs us ws Q I r rz h
  obtain ⟨a, ns, d, rfl, rfl, hs, q0, q1⟩ := h
  obtain ⟨its, rv, hl, _⟩ := I.list hs
  obtain rfl := Vals.ref1 r
  obtain ⟨w1, rfl, e1⟩ := vals1 rz
  have hi := rv.ints
  refine PySem.W.max_list_default (I.ok.hd hc) hl.isList (by simpa using reads_ints hi) (alikeAll_ints ns) (by rw [depth_ints]; omega) (fun h0 h' tk hk => ?_) fun y ys i v h' tk bs e hv hr hk => ?_
  · exact ⟨d, H, I.kept hk, e1, q0 (List.map_eq_nil_iff.mp h0)⟩
  · cases ns with
    | nil => cases e
    | cons n ns =>
      injection e with e2 e3
      subst e2 e3
      rw [PySem.W.maxD_ints] at hr
      cases hr
      have sp := foldl_max_spec ns n
      exact ⟨.int _, H, I.kept hk, ⟨_, rfl⟩, q1 _ sp.1 sp.2⟩
def oDf (pick : Int → List Int → Int) : W → W → Sto → Option W := fun x d S => match look x S with
  | some (.list ds) => match intsOf ds with
    | some [] => some d
    | some (n :: ns) => some (.pu (.int (pick n ns)))
    | none => none
  | _ => none
section
variable {X : Cx} {x : Str} {p pos : Pos} {e : Expr} {f g : SE} {kws : List Keyword}
theorem z_dflt {id : String} {ks : List Str} {le : Int → Int → Prop} {pick : Int → List Int → Int} (hc : CallRK X (.builtin id) ks (rDf X.K le)) (hp : ∀ n ns, pick n ns ∈ n :: ns ∧ ∀ y ∈ n :: ns, le (pick n ns) y) (ha : ∀ m k, le m k → le k m → m = k) (hg : Gl X x) (hm : X.mg x = none) (hv : bootBuiltins x = some (.builtin id)) (he : PA X [e] (tIA X.K (aCons f aNil))) (hk : PK X kws (tIA X.K (aCons g aNil))) (hn : x ≠ "__name__" := by decide) (hdb : (x == ("__debug__" : Str)) = false := by decide)
    (he1 : backTo pos (starEach [e] X.env) = (false, eval e X.env) :: backTo pos (starEach [] X.env) := by rfl) (hpl : (backTo pos (starEach [e] X.env)).any (·.1) = false := by rfl)
    (hall : (backToKw pos (keywordEach kws X.env)).all (·.1.isSome) = true := by rfl) (hnone : (backToKw pos (keywordEach kws X.env)).any (·.1.isNone) = false := by rfl) (hks : (backToKw pos (keywordEach kws X.env)).filterMap (·.1) = ks := by rfl) :
    PE X (.Call (.Name x p) [e] kws pos) (tI X.K (op2 (oDf pick) f g)) := by
  refine pe_imp (pe_callBK hc hg hm hv he hk hn hdb he1 hpl hall hnone hks) fun σ H Q ⟨F, m, S, P, en, w, S', rl, er, run, q⟩ => ?_
  obtain ⟨⟨a, S1⟩, h1, h⟩ := bind_some_of run
  obtain ⟨⟨d, S2⟩, h2, h⟩ := bind_some_of h
  obtain ⟨z, h3, h⟩ := Option.map_eq_some_iff.mp h
  cases h
  refine ⟨F, m, S, P, en, [a], S1, rl, er, ?_, fun F1 m1 H1 vs u1 rl1 wr1 => ⟨F1, m1, S1, P, en, [d], S2, rl1, er.up u1 (f.mono h1), ?_, fun F2 m2 H2 zs u2 rl2 wr2 => ?_⟩⟩
  · show (f.run en S).bind _ = _
    rw [h1]
    rfl
  · show (g.run en S1).bind _ = _
    rw [h2]
    rfl
  cases wr1 with
  | cons wa wr =>
    cases wr
    cases wr2 with
    | cons wd wr =>
      cases wr
      have wa := wa.up u2 (g.mono h2)
      have h3 : (match look a S2 with
        | some (.list ds) => match intsOf ds with
          | some [] => some d
          | some (n :: ns) => some (W.pu (.int (pick n ns)))
          | none => none
        | _ => none) = some w := h3
      split at h3
      · rename_i ds k1
        split at h3
        · rename_i k2
          cases h3
          obtain ⟨ad, rfl, gs⟩ := look_ints rl2 wa k1 k2
          exact ⟨ad, [], _, rfl, rfl, gs, fun _ => q F2 m2 H2 _ (u1.trans u2 (f.mono h1)) rl2 wd, fun m hm => by cases hm⟩
        · rename_i n ns k2
          cases h3
          obtain ⟨ad, rfl, gs⟩ := look_ints rl2 wa k1 k2
          refine ⟨ad, n :: ns, _, rfl, rfl, gs, (fun z => by cases z), fun k hk hle => ?_⟩
          have sp := hp n ns
          rw [ha k (pick n ns) (hle _ sp.1) (sp.2 k hk)]
          exact q F2 m2 H2 _ (u1.trans u2 (f.mono h1)) rl2 (.int _)
        · cases h3
      · cases h3
def sMinD : SE → SE → SE := op2 (oDf minL)
def sMaxD : SE → SE → SE := op2 (oDf maxL)
theorem z_minD (hc : X.calm = true) (hu : X.A.units + 65 < cLine) (hg : Gl X "min") (hm : X.mg "min" = none) (he : PA X [e] (tIA X.K (aCons f aNil))) (hk : PK X kws (tIA X.K (aCons g aNil)))
    (he1 : backTo pos (starEach [e] X.env) = (false, eval e X.env) :: backTo pos (starEach [] X.env) := by rfl) (hpl : (backTo pos (starEach [e] X.env)).any (·.1) = false := by rfl)
    (hall : (backToKw pos (keywordEach kws X.env)).all (·.1.isSome) = true := by rfl) (hnone : (backToKw pos (keywordEach kws X.env)).any (·.1.isNone) = false := by rfl) (hks : (backToKw pos (keywordEach kws X.env)).filterMap (·.1) = [Str.ofString "default"] := by rfl) : PE X (.Call (.Name "min" p) [e] kws pos) (tI X.K (sMinD f g)) :=
  z_dflt (crk_min hc hu) (fun n ns => minL_spec ns n) (fun m k h1 h2 => Int.le_antisymm h1 h2) hg hm (by rfl) he hk (by decide) (by decide) he1 hpl hall hnone hks
theorem z_maxD (hc : X.calm = true) (hu : X.A.units + 65 < cLine) (hg : Gl X "max") (hm : X.mg "max" = none) (he : PA X [e] (tIA X.K (aCons f aNil))) (hk : PK X kws (tIA X.K (aCons g aNil)))
    (he1 : backTo pos (starEach [e] X.env) = (false, eval e X.env) :: backTo pos (starEach [] X.env) := by rfl) (hpl : (backTo pos (starEach [e] X.env)).any (·.1) = false := by rfl)
    (hall : (backToKw pos (keywordEach kws X.env)).all (·.1.isSome) = true := by rfl) (hnone : (backToKw pos (keywordEach kws X.env)).any (·.1.isNone) = false := by rfl) (hks : (backToKw pos (keywordEach kws X.env)).filterMap (·.1) = [Str.ofString "default"] := by rfl) : PE X (.Call (.Name "max" p) [e] kws pos) (tI X.K (sMaxD f g)) :=
  z_dflt (crk_max hc hu) (fun n ns => maxL_spec ns n) (fun m k h1 h2 => Int.le_antisymm h2 h1) hg hm (by rfl) he hk (by decide) (by decide) he1 hpl hall hnone hks
variable {en : En} {S : Sto}
@[simp] theorem r_minD : (sMinD f g).run en S = (f.run en S).bind fun p => (g.run en p.2).bind fun q => (oDf minL p.1 q.1 q.2).map fun z => (z, q.2) := rfl
@[simp] theorem r_maxD : (sMaxD f g).run en S = (f.run en S).bind fun p => (g.run en p.2).bind fun q => (oDf maxL p.1 q.1 q.2).map fun z => (z, q.2) := rfl
end
end Z

namespace Z
open PySem L2
/-! ### xs.index(i), ints -/
def idxOf : List Int → Int → Option Nat
  | [], _ => none
  | x :: xs, i => if x = i then some 0 else (idxOf xs i).map (· + 1)
theorem idxOf_spec : ∀ {xs : List Int} {i : Int} {j : Nat}, idxOf xs i = some j → xs[j]? = some i ∧ ∀ k z, k < j → xs[k]? = some z → z ≠ i
  | x :: xs, i, j, h => by
    unfold idxOf at h
    by_cases c : x = i
    · rw [if_pos c] at h
      cases h
      exact ⟨by rw [c]; rfl, fun k z hk => by omega⟩
    · rw [if_neg c] at h
      obtain ⟨j', h1, rfl⟩ := Option.map_eq_some_iff.mp h
      obtain ⟨h2, h3⟩ := idxOf_spec h1
      refine ⟨h2, fun k z hk hz => ?_⟩
      cases k with
      | zero => cases hz; exact c
      | succ k => exact h3 k z (by omega) hz
def isLst : Option PyData → Bool
  | some (.list _) => true
  | _ => false
def oIndex : W → W → Sto → Option W := fun x y S => match look x S, look y S with
  | some (.list ds), some (.int i) => (intsOf ds).bind fun ns => (idxOf ns i).map fun (j : Nat) => W.pu (.int (j : Int))
  | _, _ => none
def sIndex (f g : SE) : SE := ⟨fun en S => (f.run en S).bind fun p => if isLst (look p.1 p.2) = true then (g.run en p.2).bind fun q => (oIndex p.1 q.1 q.2).map fun z => (z, q.2) else none, fun {en S w S'} e => by
  obtain ⟨p, h1, e⟩ := bind_some_of e
  split at e
  · obtain ⟨q, h2, e⟩ := bind_some_of e
    obtain ⟨z, h3, e⟩ := Option.map_eq_some_iff.mp e
    cases e
    exact Nat.le_trans (f.mono h1) (g.mono h2)
  · cases e⟩
theorem flat_ints (ns : List Int) : (ns.map V.int).all flatV = true := by
  rw [List.all_map]
  exact List.all_eq_true.mpr fun _ _ => rfl
theorem z_index {X : Cx} {o e : Expr} {f g : SE} {t : Expr} (ho : PE X o (tI X.K f)) (ha : PA X [e] (tIA X.K (aCons g aNil)))
    (hp : ∀ {to ta}, PE X o to → PA X [e] ta → PE X t (tBM X.K "list" (rIndex X.K) to ta)) : PE X t (tI X.K (sIndex f g)) := by
  refine pe_imp (hp ho ha) fun σ H Q ⟨F, m, S, P, en, w, S', rl, er, run, q⟩ => ?_
  obtain ⟨⟨x, S1⟩, h1, h⟩ := bind_some_of run
  split at h
  · rename_i hi
    obtain ⟨⟨y, S2⟩, h2, h⟩ := bind_some_of h
    obtain ⟨z, h3, h⟩ := Option.map_eq_some_iff.mp h
    cases h
    refine ⟨F, m, S, P, en, x, S1, rl, er, h1, fun F1 m1 H1 v u1 rl1 wr1 => ⟨?_, F1, m1, S1, P, en, [y], S2, rl1, er.up u1 (f.mono h1), ?_, fun F2 m2 H2 zs u2 rl2 wr2 => ?_⟩⟩
    · have hi : isLst (look x S1) = true := hi
      cases hl : look x S1 with
      | none => rw [hl] at hi; cases hi
      | some d =>
        rw [hl] at hi
        cases d with
        | list ds =>
          obtain ⟨a, us, rfl, g1, g2⟩ := (look_ok rl1 wr1 hl).lst rl1.ex
          exact .inl ⟨rfl, us, SqL.of g1⟩
        | _ => cases hi
    · show (g.run en S1).bind _ = _
      rw [h2]
      rfl
    cases wr2 with
    | cons wy wr =>
      cases wr
      have wx := wr1.up u2 (g.mono h2)
      unfold oIndex at h3
      split at h3
      · rename_i ds i k1 k2
        obtain ⟨ns, k3, h3⟩ := bind_some_of h3
        obtain ⟨j, k4, rfl⟩ := Option.map_eq_some_iff.mp h3
        obtain ⟨a, rfl, gs⟩ := look_ints rl2 wx k1 k3
        obtain ⟨s1, s2⟩ := idxOf_spec k4
        refine ⟨a, ns.map V.int, .int i, j, .int i, rfl, by rw [(look_ok rl2 wy k2).int], gs, rfl, flat_ints ns, by rw [List.getElem?_map, s1]; rfl, by simp [eqV], fun k z hk hz => ?_, q F2 m2 H2 _ (u1.trans u2 (f.mono h1)) rl2 (.int _)⟩
        rw [List.getElem?_map] at hz
        obtain ⟨n, n1, rfl⟩ := Option.map_eq_some_iff.mp hz
        have := s2 k n hk n1
        simp [eqV, this]
      · cases h3
  · cases h
section
variable {en : En} {S : Sto} {f g : SE}
@[simp] theorem r_index : (sIndex f g).run en S = (f.run en S).bind fun p => if isLst (look p.1 p.2) = true then (g.run en p.2).bind fun q => (oIndex p.1 q.1 q.2).map fun z => (z, q.2) else none := rfl
end
end Z

namespace Z
open PySem L2 PyProof.Rows
/-! ### how great an int is -/
def Sz (e : Nat) (x : Int) : Prop := -(2 ^ e) ≤ x ∧ x ≤ 2 ^ e
theorem two_pos (e : Nat) : (0 : Int) < 2 ^ e := Int.pow_pos (by decide)
theorem two_le {e f : Nat} (h : e ≤ f) : (2 : Int) ^ e ≤ 2 ^ f := by
  obtain ⟨k, rfl⟩ := Nat.exists_eq_add_of_le h
  rw [Int.pow_add]
  have h1 := Int.mul_le_mul_of_nonneg_left (show (1 : Int) ≤ 2 ^ k by have := two_pos k; omega) (Int.le_of_lt (two_pos e))
  omega
theorem two_succ (e : Nat) : (2 : Int) ^ (e + 1) = 2 ^ e + 2 ^ e := by rw [Int.pow_succ]; omega
theorem two_add (e f : Nat) : (2 : Int) ^ (e + f) = 2 ^ e * 2 ^ f := Int.pow_add _ _ _
theorem Sz.mono {e f : Nat} {x : Int} (h : Sz e x) (k : e ≤ f) : Sz f x := by
  have := two_le k
  have := h.1
  have := h.2
  exact ⟨by omega, by omega⟩
theorem Sz.neg {e : Nat} {x : Int} (h : Sz e x) : Sz e (-x) := ⟨by have := h.2; omega, by have := h.1; omega⟩
theorem Sz.add {e : Nat} {x y : Int} (h : Sz e x) (k : Sz e y) : Sz (e + 1) (x + y) := by
  have := two_succ e
  have := h.1
  have := h.2
  have := k.1
  have := k.2
  exact ⟨by omega, by omega⟩
theorem Sz.sub {e : Nat} {x y : Int} (h : Sz e x) (k : Sz e y) : Sz (e + 1) (x - y) := h.add k.neg
theorem Sz.abs {e : Nat} {x : Int} (h : Sz e x) : (x.natAbs : Int) ≤ 2 ^ e := by have := h.1; have := h.2; omega
theorem Sz.of_abs {e : Nat} {x : Int} (h : (x.natAbs : Int) ≤ 2 ^ e) : Sz e x := ⟨by omega, by omega⟩
theorem Sz.mul {e f : Nat} {x y : Int} (h : Sz e x) (k : Sz f y) : Sz (e + f) (x * y) := by
  apply Sz.of_abs
  rw [Int.natAbs_mul, two_add, Int.natCast_mul]
  have h1 := h.abs
  have h2 := k.abs
  exact Int.le_trans (Int.mul_le_mul_of_nonneg_right h1 (by omega)) (Int.mul_le_mul_of_nonneg_left h2 (Int.le_of_lt (two_pos e)))
theorem Sz.div {e : Nat} {x y : Int} (h : Sz e x) (hy : 0 < y) : Sz e (x / y) := by
  have h1 := h.1
  have h2 := h.2
  have hp := two_pos e
  have a1 : x / y * y ≤ x := Int.ediv_mul_le _ (by omega)
  have a2 : x < (x / y + 1) * y := Int.lt_ediv_add_one_mul_self _ hy
  constructor
  · by_cases hx : 0 ≤ x
    · have := Int.ediv_nonneg hx (show 0 ≤ y by omega)
      omega
    · have : (x : Int) ≤ x / y := by
        apply (Int.le_ediv_iff_mul_le hy).mpr
        have := Int.mul_le_mul_of_nonpos_left (a := x) (b := y) (c := 1) (by omega) (by omega)
        omega
      omega
  · by_cases hx : 0 ≤ x
    · have := Int.ediv_le_self y hx
      omega
    · have : x / y < 0 := Int.ediv_neg_of_neg_of_pos (by omega) hy
      omega
theorem Sz.of_le {e : Nat} {x : Int} (h0 : 0 ≤ x) (h1 : x ≤ 2 ^ e) : Sz e x := ⟨by have := two_pos e; omega, h1⟩
theorem Sz.le {e : Nat} {x y : Int} (h : Sz e y) (h0 : 0 ≤ x) (h1 : x ≤ y) : Sz e x := ⟨by have := two_pos e; omega, by have := h.2; omega⟩
theorem Sz.zero {e : Nat} : Sz e 0 := ⟨by have := two_pos e; omega, by have := two_pos e; omega⟩
theorem log2_le {e : Nat} {n : Nat} (h : n ≤ 2 ^ e) : n.log2 ≤ e := by
  by_cases h0 : n = 0
  · subst h0
    exact Nat.zero_le _
  · exact (Nat.pow_le_pow_iff_right (by decide : 1 < 2)).mp (Nat.le_trans (Nat.log2_self_le h0) h)
theorem Sz.log2 {e : Nat} {x : Int} (h : Sz e x) : x.natAbs.log2 ≤ e := by
  apply log2_le
  have := h.abs
  have e1 : ((2 ^ e : Nat) : Int) = 2 ^ e := by rw [Int.natCast_pow]; rfl
  omega
theorem mulOk_sz {e f : Nat} {x y : Int} (h : Sz e x) (k : Sz f y) (l : e + f < 1000000) : mulOk x y = true := by
  unfold mulOk
  have h1 := h.log2
  have h2 := k.log2
  rw [Nat.ble_eq_true_of_le (n := x.natAbs.log2 + y.natAbs.log2) (m := 999999) (by omega)]
  simp
theorem divOk_sz {e : Nat} {x y : Int} (h : Sz e y) (h0 : 0 < y) (l : e < 9000) : divOk x y = true := divOk_of ⟨h0, by have := h.log2; omega⟩
/-! ### arguments that may be lists -/
inductive Sq2 : PyData → List PyData → Prop where
  | tup (ds) : Sq2 (.tuple ds) ds
  | lst (ds) : Sq2 (.list ds) ds
abbrev Lin (v : PyData) (a b d : Int) : Prop := Sq2 v [.int a, .int b, .int d]
abbrev Stre (v : PyData) (x y : Int) : Prop := Sq2 v [.int x, .int y]
section
variable {S : Sto} {ds : List PyData} {d : PyData} {i : Int}
theorem Sq2.ix (h : Sq2 d ds) : oIx (.pu d) (.pu (.int i)) S = (atI ds i).map .pu := by cases h <;> rfl
theorem Sq2.tg {n : Nat} {r : SGs} {en : En} (h : Sq2 d ds) : (tgSeq n r).run d en = if ds.length = n then r.run ds en else none := by cases h <;> rfl
@[simp] theorem tgSeq_tup {n : Nat} {r : SGs} {en : En} : (tgSeq n r).run (.tuple ds) en = if ds.length = n then r.run ds en else none := rfl
@[simp] theorem tgSeq_list {n : Nat} {r : SGs} {en : En} : (tgSeq n r).run (.list ds) en = if ds.length = n then r.run ds en else none := rfl
@[simp] theorem tgCons_run {a : SG} {r : SGs} {en : En} : (tgCons a r).run (d :: ds) en = (a.run d en).bind fun en1 => r.run ds en1 := rfl
@[simp] theorem tgNil_run {en : En} : tgNil.run [] en = some en := rfl
@[simp] theorem eq_int {j : Int} {b : Bool} : oEq b (.pu (.int i)) (.pu (.int j)) S = some (.pu (.bool (b != (i == j)))) := by
  unfold oEq
  simp [look, SeqAt.shaped, PyData.canLay0, PyData.depth, PyData.eqv]
@[simp] theorem min2 {j : Int} : oMin [.pu (.int i), .pu (.int j)] S = some (.pu (.int (min i j))) := by
  show some (W.pu (.int (if j < i then j else i))) = _
  congr 3
  split <;> omega
@[simp] theorem max2 {j : Int} : oMax [.pu (.int i), .pu (.int j)] S = some (.pu (.int (max i j))) := by
  show some (W.pu (.int (if j > i then j else i))) = _
  congr 3
  split <;> omega
theorem r_app {en : En} {i : Nat} {f : SE} : (gApp i f).run en S = (f.run en S).bind fun p => (fz p.1 p.2).bind fun r => match en[i]? with
  | some (some (.mu j)) => match r.2[j]? with
    | some (true, ds) => if few ds = true then some (.nx, en, r.2.set j (true, ds ++ [r.1])) else none
    | _ => none
  | _ => none := rfl
@[simp] theorem r_wh {en : En} {n : Nat} {c : SE} {b : SS} : (gWh n c b).run en S = whR c b n en S := rfl
@[simp] theorem r_brk {en : En} : gBrk.run en S = some (.bk, en, S) := rfl
@[simp] theorem r_cnt {en : En} : gCnt.run en S = some (.ct, en, S) := rfl
end
end Z

namespace Z
open PySem L2 PyProof.Rows
/-! ### lists of numbers -/
abbrev dI (xs : List Int) : List PyData := xs.map PyData.int
theorem atI_get {ds : List PyData} {i : Nat} (h : i < ds.length) : atI ds (i : Int) = some ds[i] := by
  unfold atI ixN
  rw [if_pos (by omega), if_pos (by omega)]
  simp [h]
theorem max_ints {xs : List Int} {S : Sto} (h : xs ≠ []) : ∃ m, oMax [.pu (.list (dI xs))] S = some (.pu (.int m)) ∧ m ∈ xs ∧ ∀ y ∈ xs, y ≤ m := by
  cases xs with
  | nil => exact absurd rfl h
  | cons x xs =>
    have sp := maxL_spec xs x
    refine ⟨maxL x xs, ?_, sp.1, sp.2⟩
    show (match intsOf (dI (x :: xs)) with | some (n :: ns) => some (W.pu (PyData.int (maxL n ns))) | _ => none) = _
    rw [intsOf_map]
theorem min_ints {xs : List Int} {S : Sto} (h : xs ≠ []) : ∃ m, oMin [.pu (.list (dI xs))] S = some (.pu (.int m)) ∧ m ∈ xs ∧ ∀ y ∈ xs, m ≤ y := by
  cases xs with
  | nil => exact absurd rfl h
  | cons x xs =>
    have sp := minL_spec xs x
    refine ⟨minL x xs, ?_, sp.1, sp.2⟩
    show (match intsOf (dI (x :: xs)) with | some (n :: ns) => some (W.pu (PyData.int (minL n ns))) | _ => none) = _
    rw [intsOf_map]
theorem eqvAll_ints : ∀ (xs ys : List Int), PyData.eqvAll (dI xs) (dI ys) = decide (xs = ys)
  | [], [] => rfl
  | [], y :: ys => rfl
  | x :: xs, [] => rfl
  | x :: xs, y :: ys => by
    show ((PyData.eqv (.int x) (.int y)) && PyData.eqvAll (dI xs) (dI ys)) = _
    rw [eqvAll_ints xs ys]
    show ((x == y) && _) = _
    by_cases h : x = y <;> simp [h]
theorem eqv_ints (xs ys : List Int) : PyData.eqv (.list (dI xs)) (.list (dI ys)) = decide (xs = ys) := by
  rw [← eqvAll_ints]
  simp [PyData.eqv]
theorem shp_ints : ∀ xs : List Int, PyData.canLayAll0 (dI xs) = true ∧ PyData.depthAll (dI xs) ≤ 60
  | [] => ⟨rfl, Nat.zero_le _⟩
  | x :: xs => by
    obtain ⟨h1, h2⟩ := shp_ints xs
    exact ⟨by show (true && PyData.canLayAll0 (dI xs)) = true; rw [h1]; rfl, by
      show max (PyData.depth (.int x)) (PyData.depthAll (dI xs)) ≤ 60
      have : PyData.depth (.int x) = 0 := by simp [PyData.depth]
      omega⟩
theorem shaped_ints (xs : List Int) : SeqAt.shaped (.list (dI xs)) = true := by
  obtain ⟨h1, h2⟩ := shp_ints xs
  show (PyData.canLayAll0 (dI xs) && decide (PyData.depthAll (dI xs) + 1 ≤ 64)) = true
  rw [h1, decide_eq_true (by omega)]
  rfl
theorem eq_ints {xs ys : List Int} {b : Bool} {S : Sto} : oEq b (.pu (.list (dI xs))) (.pu (.list (dI ys))) S = some (.pu (.bool (b != decide (xs = ys)))) := by
  unfold oEq
  simp [look, shaped_ints, eqv_ints]
/-- range(lo, hi) as numbers -/
def rngI (lo hi : Int) : List Int := (List.range (hi - lo).toNat).map fun (i : Nat) => lo + (i : Int)
theorem rngD_eq (lo hi : Int) : rngD lo hi = dI (rngI lo hi) := by
  unfold rngD rngI dI
  rw [List.map_map]
  rfl
theorem mem_rngI {lo hi n : Int} : n ∈ rngI lo hi ↔ lo ≤ n ∧ n < hi := by
  unfold rngI
  rw [List.mem_map]
  constructor
  · rintro ⟨i, h, rfl⟩
    have := List.mem_range.mp h
    omega
  · rintro ⟨h1, h2⟩
    exact ⟨(n - lo).toNat, List.mem_range.mpr (by omega), by omega⟩
theorem rngI_len (lo hi : Int) : (rngI lo hi).length = (hi - lo).toNat := by unfold rngI; simp
theorem rngI_ne {lo hi : Int} (h : lo < hi) : rngI lo hi ≠ [] := by
  intro e
  have := rngI_len lo hi
  rw [e] at this
  simp at this
  omega
theorem smallI_of {i : Int} (h1 : -(2 ^ 61) ≤ i) (h2 : i ≤ 2 ^ 61) : smallI i = true := Nat.ble_eq_true_of_le (by omega)
theorem rng_run {en : En} {S S1 S2 : Sto} {f g : SE} {i j : Int} (h1 : f.run en S = some (.pu (.int i), S1)) (h2 : g.run en S1 = some (.pu (.int j), S2)) (k1 : smallI i = true) (k2 : smallI j = true) : (iRng f g).run en S = some (dI (rngI i j), S2) := by
  rw [r_rng, h1, Option.bind_some, h2, Option.bind_some]
  show (if (smallI i && smallI j) = true then some (rngD i j, S2) else none) = _
  rw [k1, k2, ← rngD_eq]
  rfl
theorem flat_rep (x : PyData) : ∀ n : Nat, (List.replicate n [x]).flatten = List.replicate n x
  | 0 => rfl
  | n + 1 => by rw [List.replicate_succ, List.flatten_cons, flat_rep x n]; rfl
theorem rep_one {x : PyData} {k : Nat} {S : Sto} (h : k ≤ 100000) : oMulA (.pu (.list [x])) (.pu (.int (k : Int))) S = some (.pu (.list (List.replicate k x))) := by
  have hs : 100000 ≤ sizeLine := by decide
  rw [mulA_list, Int.toNat_natCast, flat_rep, if_pos ⟨Nat.ble_eq_true_of_le (by omega), by show 1 * k ≤ sizeLine; omega⟩]
theorem dI_rep (n : Nat) (i : Int) : List.replicate n (PyData.int i) = dI (List.replicate n i) := by
  unfold dI
  rw [List.map_replicate]
/-! ### comprehensions -/
/-- each thing by its own reckoning, the store only grows -/
theorem lcR_map {own : List Nat} {t : SG} {f : SE} {en : En} (g : PyData → PyData) : ∀ (ds : List PyData) (S : Sto) (acc : List PyData), (∀ d ∈ ds, ∀ U, ∃ en1 T, t.run d (wipeE en own) = some en1 ∧ f.run en1 (S ++ U) = some (.pu (g d), S ++ U ++ T)) → ∃ T, lcR own t sYes f en ds S acc = some (acc ++ ds.map g, S ++ T)
  | [], S, acc, _ => ⟨[], by show some (acc, S) = _; simp⟩
  | d :: ds, S, acc, h => by
    obtain ⟨en1, T, h1, h2⟩ := h d List.mem_cons_self []
    rw [List.append_nil] at h2
    obtain ⟨T', h3⟩ := lcR_map (own := own) (t := t) (f := f) (en := en) g ds (S ++ T) (acc ++ [g d]) (fun d' hd' U => by
      obtain ⟨en1, T1, k1, k2⟩ := h d' (List.mem_cons_of_mem _ hd') (T ++ U)
      exact ⟨en1, T1, k1, by rw [← List.append_assoc] at k2; exact k2⟩)
    refine ⟨T ++ T', ?_⟩
    rw [lcR_cons, h1]
    simp [h2]
    rw [h3]
    simp
/-- each thing by its own reckoning, the store stays -/
theorem lcR_pure {own : List Nat} {t : SG} {f : SE} {en : En} (g : PyData → PyData) : ∀ (ds : List PyData) (S : Sto) (acc : List PyData), (∀ d ∈ ds, ∃ en1, t.run d (wipeE en own) = some en1 ∧ f.run en1 S = some (.pu (g d), S)) → lcR own t sYes f en ds S acc = some (acc ++ ds.map g, S)
  | [], S, acc, _ => by show some (acc, S) = _; simp
  | d :: ds, S, acc, h => by
    obtain ⟨en1, h1, h2⟩ := h d List.mem_cons_self
    have ih := lcR_pure (own := own) (t := t) (f := f) (en := en) g ds S (acc ++ [g d]) fun d' hd' => h d' (List.mem_cons_of_mem _ hd')
    rw [lcR_cons, h1]
    simp [h2]
    rw [ih]
    simp
/-- over numbers -/
theorem lcR_ints {own : List Nat} {t : SG} {f : SE} {en : En} (g : Int → Int) {xs : List Int} {S : Sto} (h : ∀ x ∈ xs, ∃ en1, t.run (.int x) (wipeE en own) = some en1 ∧ f.run en1 S = some (.pu (.int (g x)), S)) : lcR own t sYes f en (dI xs) S [] = some (dI (xs.map g), S) := by
  rw [lcR_pure (fun d => match d with | .int x => .int (g x) | d => d) (dI xs) S [] fun d hd => by
    obtain ⟨x, hx, rfl⟩ := List.mem_map.mp hd
    exact h x hx]
  rw [List.nil_append]
  unfold dI
  rw [List.map_map, List.map_map]
  rfl
theorem all_bools {bs : List Bool} {S : Sto} {F : List Bool → Bool} : oAll F [.pu (.list (bs.map PyData.bool))] S = some (.pu (.bool (F bs))) := by
  have := boolsOf_map bs
  simp [oAll, look, this]
/-! ### the frame, growing -/
theorem BS.app {b : Nat} {B : Int} {S : Sto} (h : BS b B S) (T : Sto) : BS b B (S ++ T) := by
  obtain ⟨ds, h1, h2⟩ := h
  exact ⟨ds, by rw [List.getElem?_append_left (List.getElem?_eq_some_iff.mp h1).1]; exact h1, h2⟩
/-- one drawn case of a law -/
def CaseOk (case : FS) (c : Int) : Prop := ∀ (S : Sto) (b : Nat) (B : Int), BS b B S → 0 ≤ B → B ≤ 2 ^ 50 → ∃ S', case.run [.mu b] S = some (.pu (.bool true), S') ∧ BS b (B + c) S' ∧ Fr b S S'
theorem all_cases {case : FS} {c : Int} (hc : CaseOk case c) (c0 : 0 ≤ c) (c1 : c ≤ 2 ^ 30) {b : Nat} {x : Option W} : ∀ (ds : List PyData) (S : Sto) (B : Int) (acc : List PyData), BS b B S → 0 ≤ B → B + ds.length * c ≤ 2 ^ 49 →
    ∃ S', lcR [1] (tgName 1) sYes (sCall case (aCons (sVar 0) aNil)) [some (.mu b), x] ds S acc = some (acc ++ List.replicate ds.length (.bool true), S') ∧ BS b (B + ds.length * c) S' ∧ Fr b S S'
  | [], S, B, acc, h, _, _ => ⟨S, by show some (acc, S) = _; simp, by simpa using h, Fr.refl _ _⟩
  | d :: ds, S, B, acc, h, h0, hB => by
    have e : ((d :: ds).length : Int) * c = c + ds.length * c := by rw [List.length_cons, Int.natCast_add, Int.add_mul]; omega
    have hn : 0 ≤ (ds.length : Int) * c := Int.mul_nonneg (by omega) c0
    rw [e] at hB ⊢
    obtain ⟨S1, e1, b1, f1⟩ := hc S b B h h0 (by omega)
    obtain ⟨S2, e2, b2, f2⟩ := all_cases hc c0 c1 (x := x) ds S1 (B + c) (acc ++ [.bool true]) b1 (by omega) (by omega)
    refine ⟨S2, ?_, b2.mono (by omega), f1.trans f2⟩
    rw [lcR_cons, show (tgName 1).run d (wipeE [some (.mu b), x] [1]) = some [some (.mu b), some (.pu d)] from rfl]
    simp [e1]
    rw [e2]
    simp [List.replicate_succ]
theorem right_all {case : FS} {c : Int} (hc : CaseOk case c) (c0 : 0 ≤ c) (c1 : c ≤ 2 ^ 30) (N : Nat) (hN : N ≤ 1000) : RightOk (mkF 1 2 (gRet (sB (oAll fun bs => bs.all id) (aCons (sLc false [1] (iRng (sC (.int 0)) (sC (.int N))) (tgName 1) sYes (sCall case (aCons (sVar 0) aNil))) aNil)))) := by
  intro S b ds h hb
  have h0 : BS b 0 S := ⟨ds, h, hb⟩
  have hi : (iRng (sC (.int 0)) (sC (.int N))).run [some (.mu b), none] S = some (rngD 0 N, S) := by
    have hs : smallI (N : Int) = true := smallI_of (by omega) (by omega)
    have hz : smallI 0 = true := smallI_of (by omega) (by omega)
    rw [r_rng, r_c, Option.bind_some, r_c, Option.bind_some]
    show (if (smallI 0 && smallI (N : Int)) = true then some (rngD 0 (N : Int), S) else none) = _
    rw [hz, hs]
    rfl
  have hlen : (rngD 0 N).length = N := by rw [rngD_eq, List.length_map, rngI_len]; omega
  obtain ⟨S', e1, b1, f1⟩ := all_cases hc c0 c1 (x := none) (rngD 0 N) S 0 [] h0 (by decide) (by
    rw [hlen]
    have : (N : Int) * c ≤ 1000 * c := Int.mul_le_mul_of_nonneg_right (by omega) c0
    omega)
  refine ⟨S', ?_, f1⟩
  rw [hlen] at e1
  have hf : few (rngD 0 N) = true := by
    show decide ((rngD 0 N).length ≤ 100000) = true
    rw [hlen]
    exact decide_eq_true (by omega)
  have hl : (sLc false [1] (iRng (sC (.int 0)) (sC (.int N))) (tgName 1) sYes (sCall case (aCons (sVar 0) aNil))).run [some (.mu b), none] S = some (.pu (.list (List.replicate N (.bool true))), S') := by
    rw [r_lc, hi, Option.bind_some]
    show (if few (rngD 0 N) = true then _ else none) = _
    rw [if_pos hf]
    rw [e1]
    rfl
  generalize (sLc false [1] (iRng (sC (.int 0)) (sC (.int N))) (tgName 1) sYes (sCall case (aCons (sVar 0) aNil))) = L at hl
  have ha := all_bools (bs := List.replicate N true) (S := S') (F := fun bs => bs.all id)
  rw [List.map_replicate] at ha
  have hr : (List.replicate N true).all id = true := by simp
  rw [hr] at ha
  generalize oAll (fun bs => bs.all id) = O at ha
  rw [run_mkF]
  simp [hl, ha]
/-! ### what more laws share: a stretch, the value of a line -/
def b_runL : SS :=
  (gSeq (gSet 3 (sSub (sCall f_take (aCons (sVar 0) (aCons (sAdd (sMul (sC (.int 2)) (sVar 2)) (sC (.int 1))) aNil))) (sVar 2)))
    (gRet (sTup (aCons (sVar 3) (aCons (sAdd (sVar 3) (sCall f_take (aCons (sVar 0) (aCons (sVar 1) aNil)))) aNil)))))
def f_runL : FS := mkF 3 4 b_runL
theorem run_st {b : Nat} {B most wide : Int} {S : Sto} (h : BS b B S) (hB : B ≤ 2 ^ 59) (h0 : 0 ≤ wide) (h1 : wide ≤ 10 ^ 100) (m0 : 0 < most) (m1 : most ≤ 10 ^ 100) :
    ∃ x y S', f_runL.run [.mu b, .pu (.int most), .pu (.int wide)] S = some (.pu (.tuple [.int x, .int y]), S') ∧ -wide ≤ x ∧ x ≤ wide ∧ x ≤ y ∧ y < x + most ∧ BS b (B + 2) S' ∧ Fr b S S' := by
  obtain ⟨x, S1, e1, x0, x1, b1, f1⟩ := take_st h (by omega) (dvs_of (j := 2 * wide + 1) (by omega) (by omega))
  obtain ⟨y, S2, e2, y0, y1, b2, f2⟩ := take_st b1 (by omega) (dvs_of m0 (by omega))
  refine ⟨x - wide, x - wide + y, S2, ?_, by omega, by omega, by omega, by omega, b2.mono (by omega), f1.trans f2⟩
  have mm : mulOk 2 wide = true := mulOk_l (by decide) (by decide)
  show (b_runL.run [some (.mu b), some (.pu (.int most)), some (.pu (.int wide)), none] S).bind fin = _
  unfold b_runL
  simp [e1, e2, mm]
def b_worthL : SS :=
  (gSeq (gSet 2 (sAdd (sMul (sIx (sVar 0) (sC (.int 0))) (sVar 1)) (sIx (sVar 0) (sC (.int 1)))))
    (gRet (sDiv (sVar 2) (sIx (sVar 0) (sC (.int 2))))))
def f_worthL : FS := mkF 2 3 b_worthL
theorem worth_run {v : PyData} {a b d n : Int} {S : Sto} (h : Lin v a b d) (hm : mulOk a n = true) (hd : dvs d) : f_worthL.run [.pu v, .pu (.int n)] S = some (.pu (.int ((a * n + b) / d)), S) := by
  show (b_worthL.run [some (.pu v), some (.pu (.int n)), none] S).bind fin = _
  unfold b_worthL
  simp [h.ix, atI, ixN, hm, divOk_of hd]
end Z

namespace Z
open PySem L2 PyProof.Rows
/-! ### filtered numbers of a range -/
theorem lcR_ff {own : List Nat} {t : SG} {c f : SE} {en : En} {S : Sto} (p : Int → Bool) (g : Int → Int) : ∀ (xs : List Int) (acc : List PyData), (∀ x ∈ xs, ∃ en1, t.run (.int x) (wipeE en own) = some en1 ∧ c.run en1 S = some (.pu (.bool (p x)), S) ∧ (p x = true → f.run en1 S = some (.pu (.int (g x)), S))) → lcR own t c f en (dI xs) S acc = some (acc ++ dI ((xs.filter p).map g), S)
  | [], acc, _ => by show some (acc, S) = _; simp
  | x :: xs, acc, h => by
    obtain ⟨en1, h1, h2, h3⟩ := h x List.mem_cons_self
    have ih := fun acc => lcR_ff (own := own) (t := t) (c := c) (f := f) (en := en) (S := S) p g xs acc fun d' hd' => h d' (List.mem_cons_of_mem _ hd')
    show lcR own t c f en (.int x :: dI xs) S acc = _
    rw [lcR_cons, h1, Option.bind_some, h2, Option.bind_some, truth_bool, Option.bind_some]
    by_cases hp : p x = true
    · rw [if_pos hp, h3 hp, Option.bind_some, fz_pu, Option.bind_some]
      show lcR own t c f en (dI xs) S (acc ++ [.int (g x)]) = _
      rw [ih, List.filter_cons, if_pos hp, List.map_cons]
      simp
    · rw [if_neg hp]
      show lcR own t c f en (dI xs) S acc = _
      rw [ih, List.filter_cons, if_neg hp]
theorem rngI_shift (s t : Int) : rngI s t = (rngI 0 (t - s)).map (s + ·) := by
  unfold rngI
  rw [List.map_map, show t - s - 0 = t - s by omega]
  apply List.map_congr_left
  intro i hi
  show s + (i : Int) = s + (0 + (i : Int))
  omega
theorem filt_shift (P : Int → Bool) (s t : Int) : ((rngI 0 (t - s)).filter fun k => P (s + k)).map (s + ·) = (rngI s t).filter P := by
  rw [rngI_shift s t, List.filter_map]
  rfl
theorem rngI_pw (s t : Int) : (rngI s t).Pairwise (· < ·) := by
  unfold rngI
  rw [List.pairwise_map]
  exact List.pairwise_lt_range.imp fun {a b} h => by omega
theorem head_min : ∀ {L : List Int}, L.Pairwise (· < ·) → ∀ {x}, L.head? = some x → ∀ y ∈ L, x ≤ y
  | x :: xs, h, _, rfl, y, hy => by
    rcases List.mem_cons.mp hy with rfl | hy
    · exact Int.le_refl _
    · exact Int.le_of_lt ((List.pairwise_cons.mp h).1 y hy)
theorem last_max {L : List Int} (h : L.Pairwise (· < ·)) {x : Int} (hx : L.getLast? = some x) : ∀ y ∈ L, y ≤ x := by
  have e : L.reverse.Pairwise (fun a b => b < a) := List.pairwise_reverse.mpr h
  intro y hy
  have hx' : L.reverse.head? = some x := by rw [List.head?_reverse]; exact hx
  have hy' : y ∈ L.reverse := List.mem_reverse.mpr hy
  cases hL : L.reverse with
  | nil => rw [hL] at hx'; cases hx'
  | cons z zs =>
    rw [hL] at hx' hy' e
    cases hx'
    rcases List.mem_cons.mp hy' with rfl | hy'
    · exact Int.le_refl _
    · exact Int.le_of_lt ((List.pairwise_cons.mp e).1 y hy')
theorem head_mem {L : List Int} {x : Int} (h : L.head? = some x) : x ∈ L := by
  cases L with
  | nil => cases h
  | cons y ys => cases h; exact List.mem_cons_self
theorem last_mem {L : List Int} {x : Int} (h : L.getLast? = some x) : x ∈ L := List.mem_of_getLast? h
theorem head_none {L : List Int} (h : L.head? = none) : L = [] := by
  cases L with
  | nil => rfl
  | cons y ys => cases h
theorem last_none {L : List Int} (h : L.getLast? = none) : L = [] := List.getLast?_eq_none_iff.mp h
theorem lcR_enc {own : List Nat} {t : SG} {f : SE} {en : En} {S : Sto} (enc : Int → PyData) (g : Int → Int) : ∀ (xs : List Int) (acc : List PyData), (∀ x ∈ xs, ∃ en1, t.run (enc x) (wipeE en own) = some en1 ∧ f.run en1 S = some (.pu (.int (g x)), S)) → lcR own t sYes f en (xs.map enc) S acc = some (acc ++ dI (xs.map g), S)
  | [], acc, _ => by show some (acc, S) = _; simp
  | x :: xs, acc, h => by
    obtain ⟨en1, h1, h2⟩ := h x List.mem_cons_self
    have ih := lcR_enc (own := own) (t := t) (f := f) (en := en) (S := S) enc g xs (acc ++ [.int (g x)]) fun d' hd' => h d' (List.mem_cons_of_mem _ hd')
    rw [List.map_cons, lcR_cons, h1]
    simp [h2]
    rw [ih]
    simp
theorem lcR_fenc {own : List Nat} {t : SG} {c f : SE} {en : En} {S : Sto} (enc : Int → PyData) (p : Int → Bool) (g : Int → Int) : ∀ (xs : List Int) (acc : List PyData), (∀ x ∈ xs, ∃ en1, t.run (enc x) (wipeE en own) = some en1 ∧ c.run en1 S = some (.pu (.bool (p x)), S) ∧ f.run en1 S = some (.pu (.int (g x)), S)) → lcR own t c f en (xs.map enc) S acc = some (acc ++ dI ((xs.filter p).map g), S)
  | [], acc, _ => by show some (acc, S) = _; simp
  | x :: xs, acc, h => by
    obtain ⟨en1, h1, h2, h3⟩ := h x List.mem_cons_self
    have ih := fun acc => lcR_fenc (own := own) (t := t) (c := c) (f := f) (en := en) (S := S) enc p g xs acc fun d' hd' => h d' (List.mem_cons_of_mem _ hd')
    rw [List.map_cons, lcR_cons, h1, Option.bind_some, h2, Option.bind_some, truth_bool, Option.bind_some]
    by_cases hp : p x = true
    · rw [if_pos hp, h3, Option.bind_some, fz_pu, Option.bind_some]
      show lcR own t c f en (xs.map enc) S (acc ++ [.int (g x)]) = _
      rw [ih, List.filter_cons, if_pos hp, List.map_cons]
      simp
    · rw [if_neg hp]
      show lcR own t c f en (xs.map enc) S acc = _
      rw [ih, List.filter_cons, if_neg hp]
theorem zipD_maps {α : Type} (f g : α → PyData) : ∀ xs : List α, zipD (xs.map f) (xs.map g) = xs.map fun x => .tuple [f x, g x]
  | [] => rfl
  | x :: xs => by
    show PyData.tuple [f x, g x] :: zipD (xs.map f) (xs.map g) = _
    rw [zipD_maps f g xs]
    rfl
theorem head_or {L : List Int} (h : L ≠ []) : ∃ x y : Int, L.head? = some x ∧ L.getLast? = some y := by
  cases hx : L.head? with
  | none => exact absurd (head_none hx) h
  | some x =>
    cases hl : L.getLast? with
    | none => exact absurd (last_none hl) h
    | some y => exact ⟨x, y, rfl, rfl⟩
theorem atI_head {L : List Int} {x : Int} (h : L.head? = some x) : atI (dI L) 0 = some (.int x) := by
  cases L with
  | nil => cases h
  | cons y ys =>
    have e : y = x := Option.some.inj h
    subst e
    exact atI_get (ds := dI (y :: ys)) (i := 0) (by simp)
end Z

namespace Z
open PySem L2 PyProof.Rows
/-! ### comprehensions as wholes -/
theorem lcR_gen {α : Type} {own : List Nat} {t : SG} {c f : SE} {en : En} {S : Sto} (enc : α → PyData) (p : α → Bool) (g : α → PyData) : ∀ (xs : List α) (acc : List PyData), (∀ x ∈ xs, ∃ en1, t.run (enc x) (wipeE en own) = some en1 ∧ c.run en1 S = some (.pu (.bool (p x)), S) ∧ (p x = true → f.run en1 S = some (.pu (g x), S))) → lcR own t c f en (xs.map enc) S acc = some (acc ++ (xs.filter p).map g, S)
  | [], acc, _ => by show some (acc, S) = _; simp
  | x :: xs, acc, h => by
    obtain ⟨en1, h1, h2, h3⟩ := h x List.mem_cons_self
    have ih := fun acc => lcR_gen enc p g xs acc fun y hy => h y (List.mem_cons_of_mem _ hy)
    rw [List.map_cons, lcR_cons, h1]
    by_cases hp : p x = true
    · simp [h2, hp, h3 hp]
      rw [ih]
      simp
    · simp [h2, hp]
      rw [ih]
theorem lc_run {α : Type} {own : List Nat} {t : SG} {c f : SE} {it : SI} {en : En} {S S' : Sto} {xs : List α} (enc : α → PyData) (p : α → Bool) (g : α → PyData) (hi : it.run en S = some (xs.map enc, S')) (hn : xs.length ≤ 100000) (h : ∀ x ∈ xs, ∃ en1, t.run (enc x) (wipeE en own) = some en1 ∧ c.run en1 S' = some (.pu (.bool (p x)), S') ∧ (p x = true → f.run en1 S' = some (.pu (g x), S'))) : (sLc false own it t c f).run en S = some (.pu (.list ((xs.filter p).map g)), S') := by
  rw [r_lc, hi, Option.bind_some]
  show (if few (xs.map enc) = true then _ else none) = _
  have hf : few (xs.map enc) = true := decide_eq_true (by rw [List.length_map]; exact hn)
  rw [if_pos hf]
  show Option.map _ (lcR own t c f en (xs.map enc) S' []) = _
  rw [lcR_gen enc p g xs [] h]
  rfl
theorem lc_all {α : Type} {own : List Nat} {t : SG} {f : SE} {it : SI} {en : En} {S S' : Sto} {xs : List α} (enc g : α → PyData) (hi : it.run en S = some (xs.map enc, S')) (hn : xs.length ≤ 100000) (h : ∀ x ∈ xs, ∃ en1, t.run (enc x) (wipeE en own) = some en1 ∧ f.run en1 S' = some (.pu (g x), S')) : (sLc false own it t sYes f).run en S = some (.pu (.list (xs.map g)), S') := by
  have := lc_run (c := sYes) (t := t) (f := f) (own := own) enc (fun _ => true) g hi hn fun x hx => by
    obtain ⟨en1, h1, h2⟩ := h x hx
    exact ⟨en1, h1, rfl, fun _ => h2⟩
  rw [this, List.filter_eq_self.mpr fun _ _ => rfl]
theorem lcR_grow {α : Type} {own : List Nat} {t : SG} {f : SE} {en : En} (enc g : α → PyData) : ∀ (xs : List α) (S : Sto) (acc : List PyData), (∀ x ∈ xs, ∀ U, ∃ en1 T, t.run (enc x) (wipeE en own) = some en1 ∧ f.run en1 (S ++ U) = some (.pu (g x), S ++ U ++ T)) → ∃ T, lcR own t sYes f en (xs.map enc) S acc = some (acc ++ xs.map g, S ++ T)
  | [], S, acc, _ => ⟨[], by show some (acc, S) = _; simp⟩
  | d :: ds, S, acc, h => by
    obtain ⟨en1, T, h1, h2⟩ := h d List.mem_cons_self []
    rw [List.append_nil] at h2
    obtain ⟨T', h3⟩ := lcR_grow (own := own) (t := t) (f := f) (en := en) enc g ds (S ++ T) (acc ++ [g d]) (fun d' hd' U => by
      obtain ⟨en1, T1, k1, k2⟩ := h d' (List.mem_cons_of_mem _ hd') (T ++ U)
      exact ⟨en1, T1, k1, by rw [← List.append_assoc] at k2; exact k2⟩)
    refine ⟨T ++ T', ?_⟩
    rw [List.map_cons, lcR_cons, h1]
    simp [h2]
    rw [h3]
    simp
theorem lc_grow {α : Type} {own : List Nat} {t : SG} {f : SE} {it : SI} {en : En} {S S' : Sto} {xs : List α} (enc g : α → PyData) (hi : it.run en S = some (xs.map enc, S')) (hn : xs.length ≤ 100000) (h : ∀ x ∈ xs, ∀ U, ∃ en1 T, t.run (enc x) (wipeE en own) = some en1 ∧ f.run en1 (S' ++ U) = some (.pu (g x), S' ++ U ++ T)) : ∃ T, (sLc false own it t sYes f).run en S = some (.pu (.list (xs.map g)), S' ++ T) := by
  obtain ⟨T, e⟩ := lcR_grow (own := own) (t := t) (f := f) (en := en) enc g xs S' [] h
  refine ⟨T, ?_⟩
  rw [r_lc, hi, Option.bind_some]
  show (if few (xs.map enc) = true then _ else none) = _
  have hf : few (xs.map enc) = true := decide_eq_true (by rw [List.length_map]; exact hn)
  rw [if_pos hf]
  show Option.map _ (lcR own t sYes f en (xs.map enc) S' []) = _
  rw [e]
  rfl
theorem any_run {en : En} {S S' : Sto} {f : SE} {ds : List PyData} (h : f.run en S = some (.pu (.list ds), S')) : (iAny f).run en S = some (ds, S') := by
  show (f.run en S).bind _ = _
  rw [h]
  rfl
theorem any_tup {en : En} {S S' : Sto} {f : SE} {ds : List PyData} (h : f.run en S = some (.pu (.tuple ds), S')) : (iAny f).run en S = some (ds, S') := by
  show (f.run en S).bind _ = _
  rw [h]
  rfl
theorem seq_nx {A B : SS} {en en1 : En} {S S1 : Sto} (h : A.run en S = some (.nx, en1, S1)) : (gSeq A B).run en S = B.run en1 S1 := by
  rw [r_seq, h, Option.bind_some, after_nx]
/-! ### ranges cut -/
theorem rngI_app {x y z : Int} (h : x ≤ y) (k : y ≤ z) : rngI x z = rngI x y ++ rngI y z := by
  unfold rngI
  rw [show (z - x).toNat = (y - x).toNat + (z - y).toNat by omega, List.range_add, List.map_append, List.map_map]
  congr 1
  apply List.map_congr_left
  intro i _
  show x + (((y - x).toNat + i : Nat) : Int) = y + (i : Int)
  omega
theorem filt_mid {P : Int → Bool} {lo l h hi : Int} (h1 : lo ≤ l) (h2 : l ≤ h) (h3 : h ≤ hi) (hP : ∀ n, lo ≤ n → n < hi → (P n = true ↔ l ≤ n ∧ n < h)) : (rngI lo hi).filter P = rngI l h := by
  rw [rngI_app h1 (Int.le_trans h2 h3), rngI_app h2 h3, List.filter_append, List.filter_append]
  have e1 : (rngI lo l).filter P = [] := List.filter_eq_nil_iff.mpr fun n hn hp => by
    obtain ⟨n0, n1⟩ := mem_rngI.mp hn
    have := (hP n n0 (by omega)).mp hp
    omega
  have e2 : (rngI l h).filter P = rngI l h := List.filter_eq_self.mpr fun n hn => by
    obtain ⟨n0, n1⟩ := mem_rngI.mp hn
    exact (hP n (by omega) (by omega)).mpr ⟨n0, n1⟩
  have e3 : (rngI h hi).filter P = [] := List.filter_eq_nil_iff.mpr fun n hn hp => by
    obtain ⟨n0, n1⟩ := mem_rngI.mp hn
    have := (hP n (by omega) n1).mp hp
    omega
  rw [e1, e2, e3]
  simp
theorem rngI_at0 {l h : Int} (k : l < h) : atI (dI (rngI l h)) 0 = some (.int l) := by
  have hl : 0 < (dI (rngI l h)).length := by rw [List.length_map, rngI_len]; omega
  have := atI_get hl
  rw [show ((0 : Nat) : Int) = 0 from rfl] at this
  rw [this]
  unfold rngI
  simp
theorem rngI_atm {l h : Int} (k : l < h) : atI (dI (rngI l h)) (-1) = some (.int (h - 1)) := by
  have hl : (dI (rngI l h)).length = (h - l).toNat := by rw [List.length_map, rngI_len]
  unfold atI ixN
  rw [if_neg (by decide), if_pos (by omega), Option.bind_some, hl, show (-1 + (((h - l).toNat : Nat) : Int)).toNat = (h - l).toNat - 1 by omega]
  rw [List.getElem?_eq_getElem (by rw [hl]; omega)]
  unfold rngI
  simp
  omega
/-! ### a right of turns -/
def TurnOk (body : SS) (L : Nat) (c : Int) : Prop := ∀ (en : En) (S : Sto) (b : Nat) (B : Int), en.length = L → en[0]? = some (some (.mu b)) → BS b B S → 0 ≤ B → B ≤ 2 ^ 55 → ∃ en' S', body.run en S = some (.nx, en', S') ∧ en'.length = L ∧ en'[0]? = some (some (.mu b)) ∧ BS b (B + c) S' ∧ Fr b S S'
theorem turns_run {body : SS} {L k : Nat} {c : Int} (h : TurnOk body L c) (c0 : 0 ≤ c) (c1 : c ≤ 2 ^ 30) (hk : k ≠ 0) {b : Nat} : ∀ (ds : List PyData) (en : En) (S : Sto) (B : Int), en.length = L → en[0]? = some (some (.mu b)) → BS b B S → 0 ≤ B → B + ds.length * c ≤ 2 ^ 54 →
    ∃ en' S', loopR (tgName k) body ds en S = some (.nx, en', S') ∧ en'.length = L ∧ en'[0]? = some (some (.mu b)) ∧ BS b (B + ds.length * c) S' ∧ Fr b S S'
  | [], en, S, B, hl, h0, hb, _, _ => ⟨en, S, rfl, hl, h0, by simpa using hb, Fr.refl _ _⟩
  | d :: ds, en, S, B, hl, h0, hb, b0, hB => by
    have e : ((d :: ds).length : Int) * c = c + ds.length * c := by rw [List.length_cons, Int.natCast_add, Int.add_mul]; omega
    have hn : 0 ≤ (ds.length : Int) * c := Int.mul_nonneg (by omega) c0
    rw [e] at hB ⊢
    obtain ⟨en1, S1, e1, l1, z1, b1, f1⟩ := h (en.set k (some (.pu d))) S b B (by rw [List.length_set]; exact hl) (by rw [List.getElem?_set_ne hk]; exact h0) hb b0 (by omega)
    obtain ⟨en2, S2, e2, l2, z2, b2, f2⟩ := turns_run h c0 c1 hk ds en1 S1 (B + c) l1 z1 b1 (by omega) (by omega)
    refine ⟨en2, S2, ?_, l2, z2, b2.mono (by omega), f1.trans f2⟩
    show (body.run (en.set k (some (.pu d))) S).bind _ = _
    rw [e1]
    exact e2
theorem rng_c {en : En} {S : Sto} {N : Nat} (hN : N ≤ 1000) : (iRng (sC (.int 0)) (sC (.int N))).run en S = some (dI (rngI 0 N), S) := rng_run rfl rfl (smallI_of (by omega) (by omega)) (smallI_of (by omega) (by omega))
theorem right_turns {body : SS} {L : Nat} {c : Int} (h : TurnOk body (L + 1) c) (c0 : 0 ≤ c) (c1 : c ≤ 2 ^ 30) {N : Nat} (hN : N ≤ 1000) : CaseOk (mkF 1 (L + 1) (gSeq (gFor (iRng (sC (.int 0)) (sC (.int N))) (tgName 1) body) (gRet (sC (.bool true))))) (N * c) := by
  intro S b B hb b0 hB
  have hlen : (dI (rngI 0 N)).length = N := by rw [List.length_map, rngI_len]; omega
  have hNc : (N : Int) * c ≤ 1000 * c := Int.mul_le_mul_of_nonneg_right (by omega) c0
  obtain ⟨en', S', e1, l1, z1, b1, f1⟩ := turns_run h c0 c1 (show 1 ≠ 0 by decide) (b := b) (dI (rngI 0 N)) (some (.mu b) :: List.replicate L none) S B (by simp) rfl hb b0 (by rw [hlen]; omega)
  rw [hlen] at b1
  refine ⟨S', ?_, b1, f1⟩
  rw [run_mkF]
  have hl : ([W.mu b] : List W).length = 1 := rfl
  rw [if_pos hl]
  show ((((iRng (sC (.int 0)) (sC (.int N))).run (some (.mu b) :: List.replicate L none) S).bind _).bind _).bind fin = _
  rw [rng_c hN, Option.bind_some]
  show ((loopR (tgName 1) body (dI (rngI 0 N)) (some (.mu b) :: List.replicate L none) S).bind _).bind fin = _
  rw [e1]
  rfl
/-! ### the other frame: each source of draws is used twice -/
def b_law2 (hand right : FS) (k0 : Int) : SS :=
  (gSeq (gIf (sNot (sCall hand aNil)) (gRet (sC (.bool false))) gNop)
    (gSeq (gSet 1 (sCall f_cells (aCons (sVar 0) (aCons (sC (.int 3)) aNil))))
    (gSeq (gFor (iRng (sC (.int 0)) (sB oLen (aCons (sVar 1) aNil))) (tgName 2) (gSeq (gSet 3 (sCall (f_box k0) (aCons (sVar 1) (aCons (sVar 2) aNil))))
    (gIf (sOr (sNot (sCall right (aCons (sVar 3) aNil))) (sNot (sCall right (aCons (sVar 3) aNil)))) (gRet (sC (.bool false))) gNop)))
    (gRet (sC (.bool true))))))
theorem law2_loop {right : FS} {k0 c2 : Int} (hk0 : 0 ≤ k0) (hk1 : k0 ≤ 1000000) (hr : CaseOk right c2) (c0 : 0 ≤ c2) (c1 : c2 ≤ 2 ^ 45) {c : Nat} {cs : List Int} (hc : cs.length ≤ 3) {e0 : Option W} : ∀ (ks : List Nat) (T : Sto) (e2 e3 : Option W), (∀ k ∈ ks, k < cs.length) → T[c]? = some (true, cs.map .int) →
    ∃ T' x2 x3, loopR (tgName 2) (gSeq (gSet 3 (sCall (f_box k0) (aCons (sVar 1) (aCons (sVar 2) aNil)))) (gIf (sOr (sNot (sCall right (aCons (sVar 3) aNil))) (sNot (sCall right (aCons (sVar 3) aNil)))) (gRet (sC (.bool false))) gNop)) (ks.map fun (k : Nat) => .int (k : Int)) [e0, some (.mu c), e2, e3] T = some (.nx, [e0, some (.mu c), x2, x3], T')
  | [], T, e2, e3, _, _ => ⟨T, e2, e3, rfl⟩
  | k :: ks, T, e2, e3, hks, hT => by
    have hcl : c < T.length := (List.getElem?_eq_some_iff.mp hT).1
    obtain ⟨ds, h1, h2⟩ := box_ok (k0 := k0) hT (hks k List.mem_cons_self) (by omega) hk0 hk1
    obtain ⟨T1, h3, b3, f3⟩ := hr (T ++ [(true, ds)]) T.length 0 ⟨ds, get_app, h2⟩ (by decide) (by decide)
    obtain ⟨T2, h4, b4, f4⟩ := hr T1 T.length (0 + c2) b3 (by omega) (by omega)
    have f := f3.trans f4
    have hT2 : T2[c]? = some (true, cs.map .int) := by
      rw [f.at' c (by simp; omega) (by omega), List.getElem?_append_left hcl]
      exact hT
    obtain ⟨T', x2, x3, h5⟩ := law2_loop hk0 hk1 hr c0 c1 hc (e0 := e0) ks T2 (some (.pu (.int (k : Nat)))) (some (.mu T.length)) (fun j hj => hks j (List.mem_cons_of_mem _ hj)) hT2
    refine ⟨T', x2, x3, ?_⟩
    rw [List.map_cons]
    show ((tgName 2).run (.int (k : Int)) [e0, some (.mu c), e2, e3]).bind _ = _
    rw [show (tgName 2).run (.int (k : Int)) [e0, some (.mu c), e2, e3] = some [e0, some (.mu c), some (.pu (.int (k : Int))), e3] from rfl, Option.bind_some]
    rw [← h5]
    have hb : (gSeq (gSet 3 (sCall (f_box k0) (aCons (sVar 1) (aCons (sVar 2) aNil)))) (gIf (sOr (sNot (sCall right (aCons (sVar 3) aNil))) (sNot (sCall right (aCons (sVar 3) aNil)))) (gRet (sC (.bool false))) gNop)).run [e0, some (.mu c), some (.pu (.int (k : Int))), e3] T = some (.nx, [e0, some (.mu c), some (.pu (.int (k : Int))), some (.mu T.length)], T2) := by
      simp [h1, h3, h4]
    rw [hb]
    rfl
theorem law2_ok {hand right : FS} {k0 c2 : Int} (hk0 : 0 ≤ k0) (hk1 : k0 ≤ 1000000) (hh : ∃ S', hand.run [] [] = some (.pu (.bool true), S')) (hr : CaseOk right c2) (c0 : 0 ≤ c2) (c1 : c2 ≤ 2 ^ 45) (ns : List Int) (hn : ns.length ≤ 63) :
    ∃ S', (mkF 1 4 (b_law2 hand right k0)).run [.sq ns] [] = some (.pu (.bool true), S') := by
  obtain ⟨S0, h0⟩ := hh
  obtain ⟨cs, c, T, h1, h2, h3, h4, h5⟩ := cells_ok (ns := ns) (S := S0) hn
  obtain ⟨T', x2, x3, h6⟩ := law2_loop hk0 hk1 hr c0 c1 h2 (c := c) (e0 := some (.sq ns)) (List.range cs.length) T none none (fun k hk => List.mem_range.mp hk) h4
  refine ⟨T', ?_⟩
  have hi : (iRng (sC (.int 0)) (sB oLen (aCons (sVar 1) aNil))).run [some (.sq ns), some (.mu c), none, none] T = some ((List.range cs.length).map fun (k : Nat) => .int (k : Int), T) := by
    have e : (sB oLen (aCons (sVar 1) aNil)).run [some (.sq ns), some (.mu c), none, none] T = some (.pu (.int (cs.length : Nat)), T) := by
      simp [len_mu h4]
    rw [rng_run (S1 := T) rfl e (smallI_of (by omega) (by omega)) (smallI_of (by omega) (by omega))]
    unfold rngI dI
    rw [List.map_map, Int.sub_zero, Int.toNat_natCast]
    simp
  show ((b_law2 hand right k0).run [some (.sq ns), none, none, none] []).bind fin = _
  unfold b_law2
  have hf : ∀ (x : SS), (gFor (iRng (sC (.int 0)) (sB oLen (aCons (sVar 1) aNil))) (tgName 2) x).run [some (.sq ns), some (.mu c), none, none] T = loopR (tgName 2) x ((List.range cs.length).map fun (k : Nat) => .int (k : Int)) [some (.sq ns), some (.mu c), none, none] T := fun x => by
    rw [r_for, hi]
    rfl
  rw [r_seq, r_gif, r_not, r_call]
  simp [h0, h3]
  rw [hi]
  show ((loopR _ _ _ _ _).bind _).bind fin = _
  rw [h6]
  rfl
/-! ### the law's frame with fewer numbers of the script -/
theorem cells_okm {ns : List Int} {S : Sto} {most : Nat} (hm0 : 0 < most) (hm3 : most ≤ 3) (hn : ns.length ≤ 63) : ∃ (cs : List Int) (c : Nat) (T : Sto), 1 ≤ cs.length ∧ cs.length ≤ 3 ∧ f_cells.run [.sq ns, .pu (.int (most : Nat))] S = some (.mu c, T) ∧ T[c]? = some (true, cs.map .int) ∧ S.length ≤ c := by
  unfold f_cells b_cells
  rw [run_mkF]
  have la : (cutG ns none (some (most : Int))).length = min most ns.length := cutG_lt (m := most)
  have lb : (cutG ns (some (most : Int)) (some 63)).length = min 63 ns.length - min most ns.length := cutG_ft (m := most) (k := 63)
  have ea : cutG (ns.map PyData.int) none (some (most : Int)) = (cutG ns none (some (most : Int))).map PyData.int := cutG_map
  have eb : cutG (ns.map PyData.int) (some (most : Int)) (some 63) = (cutG ns (some (most : Int)) (some 63)).map PyData.int := cutG_map
  generalize hA : cutG ns none (some (most : Int)) = as at la ea
  generalize hB : cutG ns (some (most : Int)) (some 63) = bs at lb eb
  have sl1 : ∀ (x1 x2 x3 x4 x5 : Option W) (S : Sto), (sListOf true (sSl false (sVar 0) oNone (oSome (sVar 1)))).run [some (.sq ns), some (.pu (.int (most : Nat))), x2, x3, x4, x5] S = some (.mu S.length, S ++ [(true, as.map .int)]) := fun x1 x2 x3 x4 x5 S => by
    rw [← ea]
    rfl
  have sl2 : ∀ (x2 x3 x4 x5 : Option W) (S : Sto), (iEnumS (sSl false (sVar 0) (oSome (sVar 1)) (oSome (sC (.int 63))))).run [some (.sq ns), some (.pu (.int (most : Nat))), x2, x3, x4, x5] S = some (enumD 0 (bs.map .int), S) := fun x2 x3 x4 x5 S => by
    rw [← eb]
    rfl
  have first : ∃ (cs : List Int) (c : Nat) (T : Sto), (gSet 2 (sOr (sListOf true (sSl false (sVar 0) oNone (oSome (sVar 1)))) (sLst true (aCons (sC (.int 0)) aNil)))).run [some (.sq ns), some (.pu (.int (most : Nat))), none, none, none, none] S = some (.nx, [some (.sq ns), some (.pu (.int (most : Nat))), some (.mu c), none, none, none], T) ∧
      T[c]? = some (true, cs.map .int) ∧ 1 ≤ cs.length ∧ cs.length ≤ 3 ∧ (0 < bs.length → most ≤ cs.length) ∧ S.length ≤ c := by
    cases as with
    | nil =>
      have h0 : ns.length = 0 := by simp at la; omega
      refine ⟨[0], S.length + 1, S ++ [(true, [])] ++ [(true, [.int 0])], ?_, ?_, by simp, by simp, (fun h => by omega), by omega⟩
      · rw [r_set, r_or, sl1 none]
        simp [truth]
      · simp
    | cons a as' =>
      refine ⟨a :: as', S.length, S ++ [(true, (a :: as').map .int)], ?_, by simp, by simp, by omega, by omega, Nat.le_refl _⟩
      rw [r_set, r_or, sl1 none]
      simp [truth]
  obtain ⟨cs, c, T, h1, h2, h3, h4, h5, h6⟩ := first
  obtain ⟨cs', y3, y4, y5, g1, g2⟩ := cells_loop (x0 := some (.sq ns)) (most := most) hm0 (by omega) bs 0 T cs none none none h2 h5 (by omega)
  refine ⟨cs', c, T.set c (true, cs'.map .int), by omega, by omega, ?_, get_set h2, h6⟩
  have hlen : ([W.sq ns, .pu (.int (most : Nat))] : List W).length = 2 := rfl
  rw [if_pos hlen]
  show (((gSet 2 (sOr (sListOf true (sSl false (sVar 0) oNone (oSome (sVar 1)))) (sLst true (aCons (sC (.int 0)) aNil)))).run [some (.sq ns), some (.pu (.int (most : Nat))), none, none, none, none] S).bind (after (gSeq (gFor (iEnumS (sSl false (sVar 0) (oSome (sVar 1)) (oSome (sC (.int 63))))) cellsTg cellsBody) (gRet (sVar 2))))).bind fin = _
  rw [h1]
  show (((gFor (iEnumS (sSl false (sVar 0) (oSome (sVar 1)) (oSome (sC (.int 63))))) cellsTg cellsBody).run _ T).bind (after (gRet (sVar 2)))).bind fin = _
  rw [r_for, sl2]
  show ((loopR cellsTg cellsBody (enumD 0 (bs.map .int)) _ T).bind (after (gRet (sVar 2)))).bind fin = _
  have g2' : loopR cellsTg cellsBody (enumD 0 (bs.map .int)) [some (.sq ns), some (.pu (.int (most : Nat))), some (.mu c), none, none, none] T = some (.nx, [some (.sq ns), some (.pu (.int (most : Nat))), some (.mu c), y3, y4, y5], T.set c (true, cs'.map .int)) := g2
  rw [g2']
  rfl

def b_law1m (most : Int) (hand right : FS) (k0 : Int) : SS :=
  (gSeq (gIf (sNot (sCall hand aNil)) (gRet (sC (.bool false))) gNop)
    (gSeq (gSet 1 (sCall f_cells (aCons (sVar 0) (aCons (sC (.int most)) aNil))))
    (gRet (sB (oAll fun bs => bs.all id) (aCons (sLc false [2] (iRng (sC (.int 0)) (sB oLen (aCons (sVar 1) aNil))) (tgName 2) sYes (sCall right (aCons (sCall (f_box k0) (aCons (sVar 1) (aCons (sVar 2) aNil))) aNil))) aNil)))))
theorem law1m_ok {most : Nat} (hm0 : 0 < most) (hm3 : most ≤ 3) {hand right : FS} {k0 : Int} (hk0 : 0 ≤ k0) (hk1 : k0 ≤ 1000000) (hh : ∃ S', hand.run [] [] = some (.pu (.bool true), S')) (hr : RightOk right) (ns : List Int) (hn : ns.length ≤ 63) :
    ∃ S', (mkF 1 3 (b_law1m (most : Int) hand right k0)).run [.sq ns] [] = some (.pu (.bool true), S') := by
  obtain ⟨S0, h0⟩ := hh
  obtain ⟨cs, c, T, h1, h2, h3, h4, h5⟩ := cells_okm (ns := ns) (S := S0) hm0 hm3 hn
  obtain ⟨T', h6⟩ := law_loop hk0 hk1 hr h2 (c := c) (e0 := some (.sq ns)) (e2 := none) (List.range cs.length) T [] (fun k hk => List.mem_range.mp hk) h4
  refine ⟨T', ?_⟩
  have hi : (iRng (sC (.int 0)) (sB oLen (aCons (sVar 1) aNil))).run [some (.sq ns), some (.mu c), none] T = some ((List.range cs.length).map fun (k : Nat) => .int (k : Int), T) := by
    rw [r_rng, r_c, Option.bind_some]
    have e : (sB oLen (aCons (sVar 1) aNil)).run [some (.sq ns), some (.mu c), none] T = some (.pu (.int (cs.length : Nat)), T) := by
      simp [len_mu h4]
    rw [e, Option.bind_some]
    show (if (smallI 0 && smallI ((cs.length : Nat) : Int)) = true then some (rngD 0 ((cs.length : Nat) : Int), T) else none) = _
    have hs : (smallI 0 && smallI ((cs.length : Nat) : Int)) = true := by
      rw [Bool.and_eq_true]
      exact ⟨Nat.ble_eq_true_of_le (by omega), Nat.ble_eq_true_of_le (by omega)⟩
    rw [if_pos hs]
    unfold rngD
    rw [Int.sub_zero, Int.toNat_natCast]
    simp
  show ((b_law1m (most : Int) hand right k0).run [some (.sq ns), none, none] []).bind fin = _
  unfold b_law1m
  have hl : cs.length ≤ 100000 := by omega
  rw [r_seq, r_gif, r_not, r_call]
  simp [h0, h3, hi, h6, oAll, look, all_rep, hl]

end Z

namespace Z
open PySem PySem.Spec PyProof.Rows L2
/-! ### len(set(xs)) of a list of ints, doubles and all -/
def distN (ns : List Int) : Nat := (PyProof.Rows.firstMet (fun i => ns.getD i 0) ns.length).length
section
variable {X : Cx}
def tLenSetD (K : PySem.W.Frag) (ta : TE) : TE := fun σ H Q => ta σ H fun x H1 => ∃ (l : Addr) (ns : List Int), x = V.ref l ∧ SqL K H1 l (ns.map V.int) ∧ ns.length < 64 ∧ Q (.int (distN ns : Nat)) H1
theorem pe_lenSetD {a : Expr} {ta : TE} {p p2 q pos : Pos} (hc : X.calm = true) (hg : Gl X "len") (hm : X.mg "len" = none) (hg2 : Gl X "set") (hm2 : X.mg "set" = none) (ha : PE X a ta)
    (na : starEach [a] X.env = (false, eval a X.env) :: starEach [] X.env := by rfl) : PE X (.Call (.Name "len" p) [.Call (.Name "set" p2) [a] [] q] [] pos) (tLenSetD X.K ta) := by
  refine ⟨fun pins s σ H Q I h => ?_⟩
  refine Call_ (ld_blt I hg hm PySem.boot_len ?_)
  refine PyProof.Rows.callWith_builtin1 (PyProof.Rows.args_cons ?_ rfl) rfl rfl
  refine Call_ (ld_blt I hg2 hm2 PyProof.Rows.boot_set ?_)
  refine PyProof.Rows.callWith_type1 (PyProof.Rows.args_cons (thn (ha.run pins s σ H _ I h) fun v s1 ⟨x, H1, I1, r1, q1⟩ => PyProof.Rows.args_nil ?_) na) na rfl
  obtain ⟨l, ns, rfl, hq, h1, q1⟩ := q1
  cases r1
  obtain ⟨its, r, pl, hz⟩ := I1.list hq
  have hl : its.toArray.size = ns.length := by rw [List.size_toArray, ← r.length, List.length_map]
  refine call_set_list (I1.ok.hd hc) pl.isList (ns := ns) (by simpa using r.ints) (by unfold scanBound; omega) fun h' tk hS hk => ?_
  rw [hl] at hS
  refine PyProof.Rows.args_nil ?_
  obtain ⟨o, es, ep, t, ho, hex, hd, _, _, _, hf, hn⟩ := hS
  have hle := PyProof.Rows.firstMet_length_le (fun i => ns.getD i 0) ns.length
  have I2 : Inv X pins σ H1 { s1 with heap := h', toks := tk } := I1.kept fun b o e => hk b o (Heap.lt_size e) e
  refine call_len_set ho hex hd hf (by rw [hn] <;> omega) ⟨.int (distN ns : Nat), H1, I2.tok _, ⟨_, by rw [hn] <;> rfl⟩, q1⟩
end
def sLenSet (f : SE) : SE := ⟨fun en S => (f.run en S).bind fun p => match look p.1 p.2 with
  | some (.list ds) => match intsOf ds with
    | some ns => if ns.length < 64 then some (.pu (.int (distN ns : Nat)), p.2) else none
    | none => none
  | _ => none, fun {en S w S'} e => by
  obtain ⟨p, h1, e⟩ := bind_some_of e
  split at e
  · split at e
    · split at e
      · cases e
        exact f.mono h1
      · cases e
    · cases e
  · cases e⟩
theorem z_lenSet {X : Cx} {e : Expr} {f : SE} {p p2 q pos : Pos} (hc : X.calm = true) (hg : Gl X "len") (hm : X.mg "len" = none) (hg2 : Gl X "set") (hm2 : X.mg "set" = none) (he : PE X e (tI X.K f))
    (na : starEach [e] X.env = (false, eval e X.env) :: starEach [] X.env := by rfl) : PE X (.Call (.Name "len" p) [.Call (.Name "set" p2) [e] [] q] [] pos) (tI X.K (sLenSet f)) := by
  refine pe_imp (pe_lenSetD hc hg hm hg2 hm2 he na) fun σ H Q ⟨F, m, S, P, en, w, S', rl, er, run, q⟩ => ?_
  obtain ⟨⟨x, S1⟩, h1, e⟩ := bind_some_of run
  split at e
  · rename_i ds hx
    split at e
    · rename_i ns hn
      split at e
      · rename_i hl
        cases e
        refine ⟨F, m, S, P, en, x, S1, rl, er, h1, fun F1 m1 H1 v u1 rl1 wr1 => ?_⟩
        obtain ⟨a, rfl, g⟩ := look_ints rl1 wr1 hx hn
        exact ⟨a, ns, rfl, g, hl, q F1 m1 H1 _ u1 rl1 (.int _)⟩
      · cases e
    · cases e
  · cases e
theorem r_lenSet {f : SE} {en : En} {S : Sto} : (sLenSet f).run en S = (f.run en S).bind fun p => match look p.1 p.2 with
  | some (.list ds) => match intsOf ds with
    | some ns => if ns.length < 64 then some (.pu (.int (distN ns : Nat)), p.2) else none
    | none => none
  | _ => none := rfl
end Z

namespace Z
open PySem L2 PyProof.Rows
/-! ### tuples put together, also empty ones -/
def oAddA : W → W → Sto → Option W := fun x y S => match look x S, look y S with
  | some (.tuple xs), some (.tuple ys) => if xs.length + ys.length ≤ sizeLine then some (.pu (.tuple (xs ++ ys))) else none
  | _, _ => oAdd x y S
def rAddA (K : PySem.W.Frag) : R2 := fun x y H Q => rCatA K x y H Q ∨ rAddZ K x y H Q
theorem os_addA {K : PySem.W.Frag} : OpS K (rAddA K) oAddA := by
  intro F m S P H x y v u z Q rl w1 w2 e q
  unfold oAddA at e
  split at e
  · rename_i xs ys h1 h2
    split at e
    · rename_i hl
      cases e
      obtain ⟨p, vs, rfl, g1, k1, g2⟩ := (look_ok rl w1 h1).tup rl.ex
      obtain ⟨p', vs', rfl, g1', k1', g2'⟩ := (look_ok rl w2 h2).tup rl.ex
      refine .inl ⟨p, p', vs, vs', rfl, rfl, SqT.of g1, SqT.of g1', by rw [g2.length, g2'.length]; exact hl, fun z => ?_, fun _ z => ?_, fun _ _ a ha => ?_⟩
      · subst z
        cases g2
        exact q F H _ (Same.refl F) rl (.tup k1' g2')
      · subst z
        cases g2'
        rw [List.append_nil] at q
        exact q F H _ (Same.refl F) rl (.tup k1 g2)
      · exact q (upd F a (.tup (vs ++ vs'))) _ _ (same_upd (rl.ex.free ha)) (rl.new ha) (.tup upd_same ((g2.append g2').mono (same_upd (rl.ex.free ha))))
    · cases e
  · exact .inr (os_add F m S P H x y v u z Q rl w1 w2 e q)
def sAddA : SE → SE → SE := op2 oAddA
theorem z_addA {X : Cx} {a b : Expr} {pos : Pos} {f g : SE} (ha : PE X a (tI X.K f)) (hb : PE X b (tI X.K g)) : PE X (.BinOp a .Add b pos) (tI X.K (sAddA f g)) := z_op (OpR.or op_catA opr_add) os_addA ha hb
@[simp] theorem r_addA {en : En} {S : Sto} {f g : SE} : (sAddA f g).run en S = (f.run en S).bind fun p => (g.run en p.2).bind fun q => (oAddA p.1 q.1 q.2).map fun z => (z, q.2) := rfl
@[simp] theorem addA_tup {S : Sto} {xs ys : List PyData} : oAddA (.pu (.tuple xs)) (.pu (.tuple ys)) S = if xs.length + ys.length ≤ sizeLine then some (.pu (.tuple (xs ++ ys))) else none := rfl
@[simp] theorem addA_list {S : Sto} {xs ys : List PyData} : oAddA (.pu (.list xs)) (.pu (.list ys)) S = oAdd (.pu (.list xs)) (.pu (.list ys)) S := rfl
@[simp] theorem addA_int {S : Sto} {i j : Int} : oAddA (.pu (.int i)) (.pu (.int j)) S = some (.pu (.int (i + j))) := rfl

/-! ### t[::-1] of a tuple, of a list -/
section
variable {prog : Program} {w : World} {A : Around} {E : Value → Shared → Prop} {s : Shared}
theorem applied_rev {sl : Addr} {vs : Value} {n : Nat} {Q : Int × Int × Nat → Shared → Prop} (hs : s.heap.IsSliceOf sl .none .none vs) (ps : IsPart vs (some (-1)))
    (h : Q ((n : Int) - 1, -1, n) s) : wpAny (model prog w) A (Builtin.Slice.sliceApplied (.ref sl) (pure (n : Int))) Q E s := by
  obtain ⟨o, o1, o2, o3⟩ := id hs
  unfold Builtin.Slice.sliceApplied Builtin.Slice.sliceFields
  refine wpAny_bind (wpAny_bind (wpAny_field o1 o3 (x := .none) rfl (wpAny_bind (wpAny_field o1 o3 (x := .none) rfl (wpAny_bind (wpAny_field o1 o3 (x := vs) rfl (wpAny_pure ?_)))))))
  refine wpAny_bind (HT.slicePart_ ps ?_)
  show wpAny _ _ (if ((-1 : Int) == 0) = true then _ else _) _ _ s
  rw [if_neg (by decide)]
  refine wpAny_bind (slicePart_none (wpAny_bind (slicePart_none (wpAny_bind (wpAny_pure ?_)))))
  have e : Builtin.Slice.slicePlaces ((n : Int) - 1) (-1) (-1) = n := by
    unfold Builtin.Slice.slicePlaces
    rw [if_neg (by decide)]
    split
    · rw [show -(-1 : Int) = 1 from rfl, Int.ediv_one]
      omega
    · omega
  show wpAny _ _ (pure ((n : Int) - 1, (-1 : Int), Builtin.Slice.slicePlaces ((n : Int) - 1) (-1) (-1))) _ _ s
  rw [e]
  exact wpAny_pure h
theorem pick_rev (xs : Array Value) : ((List.range xs.size).filterMap fun (k : Nat) => xs[(((xs.size : Nat) : Int) - 1 + (k : Int) * (-1)).toNat]?).toArray = xs.toList.reverse.toArray := by
  have e : ((List.range xs.size).filterMap fun (k : Nat) => xs[(((xs.size : Nat) : Int) - 1 + (k : Int) * (-1)).toNat]?) = ((List.range xs.size).map fun k => xs.size - 1 - k).filterMap (xs[·]?) := by
    have go : ∀ l : List Nat, (∀ k ∈ l, k < xs.size) → (l.filterMap fun (k : Nat) => xs[(((xs.size : Nat) : Int) - 1 + (k : Int) * (-1)).toNat]?) = (l.map fun k => xs.size - 1 - k).filterMap (xs[·]?) := fun l hl => by
      induction l with
      | nil => rfl
      | cons k l ih =>
        have hk := hl k List.mem_cons_self
        rw [List.filterMap_cons, List.map_cons, List.filterMap_cons, ih fun k hk => hl k (List.mem_cons_of_mem _ hk), show (((xs.size : Nat) : Int) - 1 + (k : Int) * (-1)).toNat = xs.size - 1 - k by omega]
    exact go _ fun k hk => List.mem_range.mp hk
  rw [e, PySem.W.krv_range, List.filterMap_reverse, PySem.W.krv_all]
theorem getItem_rev {t sl : Addr} {items : Array Value} {vs : Value} {Q : Value → Shared → Prop} (ht : IsTup s.heap t items) (hs : s.heap.IsSliceOf sl .none .none vs) (ps : IsPart vs (some (-1)))
    (hz : items.size ≤ sizeLine) (h : Q (.ref s.heap.objs.size) { s with heap := s.heap.push { cls := .type "tuple", data := .seq items.toList.reverse.toArray } }) : wpAny (model prog w) A (getItem (.ref t) (.ref sl)) Q E s := by
  have hfit : sizeOk (.seq items.toList.reverse.toArray) := by
    show items.toList.reverse.toArray.size ≤ sizeLine
    rw [List.size_toArray, List.length_reverse, Array.length_toList]
    exact hz
  have hT : s.TypeIs (.ref sl) "slice" := by
    obtain ⟨o, o1, o2, _⟩ := id hs
    exact ⟨o, o1, o2⟩
  unfold getItem
  try with_reducible refine wpAny_holding ?_
  first | refine wpAny_bind (wpAny_pure ?_) | skip
  refine wpAny_bind (wpAny_sequenceKey ht.typeIs (by decide) ?_)
  refine wpAny_bind (wpAny_callSpecial?_slot (name := Str.ofString "__getitem__") ht.typeIs PyProof.Rows.slot_tuple_getitem (wpAny_call_entry PyProof.Rows.slot_tuple_getitem ht.typeIs entry_tuple_getitem ?_ (args_tuple_getitem _ _)))
  show wpAny _ _ (Builtin.Tuple.tupleItemsOf (.ref t) >>= _) _ _ s
  refine wpAny_bind (tupleItemsOf_ ht (wpAny_bind (wpAny_typeOf hT ?_)))
  rw [if_pos (by decide)]
  refine wpAny_bind (applied_rev hs ps ?_)
  have hno : ((((items.size : Nat) : Int) - 1 == 0 && (-1 : Int) == 1 && items.size == items.size) = true) → False := by
    intro q
    rw [Bool.and_eq_true, Bool.and_eq_true] at q
    exact absurd q.1.2 (by decide)
  show wpAny _ _ (if (((items.size : Nat) : Int) - 1 == 0 && (-1 : Int) == 1 && items.size == items.size) = true then _ else _) _ _ s
  rw [if_neg hno, pick_rev]
  first
    | exact wpAny_bind (m := Builtin.Tuple.tupleExact _) (wpAny_newObj_type (wpAny_pure ⟨_, rfl, wpAny_pure h⟩) hfit)
    | exact wpAny_bind (m := Builtin.Tuple.tupleExact _) (wpAny_newObj_type (wpAny_bind (wpAny_pure (wpAny_pure ⟨_, rfl, wpAny_pure h⟩))) hfit)
    | exact wpAny_bind (wpAny_bind (m := Builtin.Tuple.tupleExact _) (wpAny_newObj_type (wpAny_pure (wpAny_pure ⟨_, rfl, wpAny_pure h⟩)) hfit))
    | exact wpAny_bind (wpAny_bind (m := Builtin.Tuple.tupleExact _) (wpAny_newObj_type (wpAny_pure ⟨_, rfl, wpAny_pure h⟩) hfit))
end
section
variable {X : Cx}
def tRevT (K : PySem.W.Frag) (te : TE) : TE := fun σ H Q => te σ H fun x H1 => ∃ a xs, x = .ref a ∧ SqT K H1 a xs ∧ ∀ p, H1 p = none → Q (.ref p) (upd H1 p (.tup xs.reverse))
theorem pe_revT {e : Expr} {te : TE} {k : Nat} {p1 p2 p3 pos : Pos} (he : PE X e te) : PE X (.Subscript e (.Slice none none (some (.UnaryOp .USub (.Constant (.int 1) k p1) p2)) p3) pos) (tRevT X.K te) := by
  refine ⟨fun pins s σ H Q I h => Subscript_ (thn (he.run pins s σ H _ I h) fun v s1 ⟨x, H1, I1, r1, q1⟩ => ?_)⟩
  obtain ⟨a, xs, rfl, hx, q⟩ := q1
  cases r1
  have hst : PO X (some (.UnaryOp .USub (.Constant (.int 1) k p1) p2)) (tPart (tUn (rU fun i => .int (-i)) (tC (.int 1)))) := po_some (pe_un un_neg pe_int)
  refine wpAny_Slice (thn (po_none.run pins s1 σ H1 (fun o H2 => o = none ∧ H2 = H1) I1 ⟨rfl, rfl⟩) fun vl s2 ⟨l, H2, I2, pl, el, e2⟩ => ?_)
  subst el e2
  cases pl
  refine thn (po_none.run pins s2 σ H2 (fun o H3 => o = none ∧ H3 = H2) I2 ⟨rfl, rfl⟩) fun vu s3 ⟨u, H3, I3, pu, eu, e3⟩ => ?_
  subst eu e3
  cases pu
  refine thn (hst.run pins s3 σ H3 (fun o H4 => o = some (-1) ∧ H4 = H3) I3 ⟨1, rfl, -1, rfl, rfl, rfl⟩) fun vz s4 ⟨o, H4, I4, pz, eo, e4⟩ => ?_
  subst eo e4
  have I5 : Inv X pins σ H4 { s4 with heap := s4.heap.push { cls := .type "slice", data := .fields #[.none, .none, vz] } } := I4.kept (t' := s4.toks) fun _ _ q => Heap.get?_push_of_some _ q
  obtain ⟨its, r, ht, hz⟩ := I5.tuple hx
  have hlen := r.length
  show wpAny (model X.prog X.w) X.A (subscriptTail e (.Slice none none (some (.UnaryOp .USub (.Constant (.int 1) k p1) p2)) p3) (.ref a) (.ref s4.heap.objs.size)) (EP X pins σ Q) X.xe { s4 with heap := s4.heap.push { cls := .type "slice", data := .fields #[.none, .none, vz] } }
  refine tail_any (ops := [.ref a, .ref s4.heap.objs.size]) ht.typeIs (PyProof.Rows.slot_tuple_getitem.lookup) ?_ (by with_unfolding_all rfl)
  refine getItem_rev ht (Heap.IsSliceOf.new _ .none .none vz) pz (by rw [List.size_toArray]; omega) ?_
  refine ⟨.ref _, _, I5.laid (t' := s4.toks) (o := .tup xs.reverse) (fun _ _ q => Heap.get?_push_of_some _ q) (Nat.le_refl _) ?_, rfl, q _ (I5.hok.fresh (Nat.le_refl _))⟩
  exact ⟨by rw [List.length_reverse]; exact hz, _, r.reverse, IsTup.new _ _⟩
end
def sRevT (f : SE) : SE := ⟨fun en S => (f.run en S).bind fun p => match look p.1 p.2 with
  | some (.tuple ds) => some (.pu (.tuple ds.reverse), p.2)
  | _ => none, fun {en S w S'} e => by
  obtain ⟨p, h1, e⟩ := bind_some_of e
  split at e
  · cases e
    exact f.mono h1
  · cases e⟩
theorem z_revT {X : Cx} {e : Expr} {f : SE} {k : Nat} {p1 p2 p3 pos : Pos} (he : PE X e (tI X.K f)) : PE X (.Subscript e (.Slice none none (some (.UnaryOp .USub (.Constant (.int 1) k p1) p2)) p3) pos) (tI X.K (sRevT f)) := by
  refine pe_imp (pe_revT he) fun σ H Q ⟨F, m, S, P, en, w, S', rl, er, run, q⟩ => ?_
  obtain ⟨⟨x, S1⟩, h1, e⟩ := bind_some_of run
  split at e
  · rename_i ds hx
    cases e
    refine ⟨F, m, S, P, en, x, S1, rl, er, h1, fun F1 m1 H1 v u1 rl1 wr1 => ?_⟩
    obtain ⟨a, vs, rfl, g1, _, g2⟩ := (look_ok rl1 wr1 hx).tup rl1.ex
    refine ⟨a, vs, rfl, SqT.of g1, fun p hp => ?_⟩
    have s := same_upd (o := HO.tup vs.reverse) (rl1.ex.free hp)
    exact q (upd F1 p (.tup vs.reverse)) m1 _ _ (u1.trans ⟨s, fun _ _ => rfl⟩ (f.mono h1)) (rl1.new hp) (.tup upd_same (g2.reverse.mono s))
  · cases e
@[simp] theorem r_revT {en : En} {S : Sto} {f : SE} : (sRevT f).run en S = (f.run en S).bind fun p => match look p.1 p.2 with
  | some (.tuple ds) => some (.pu (.tuple ds.reverse), p.2)
  | _ => none := rfl
end Z

namespace Z
open PySem L2 PyProof.Rows
/-! ### a body, statement by statement -/
section
variable {A B : SS} {c f : SE} {en en1 : En} {S S1 : Sto} {w : W} {r : Option (W × Sto)}
theorem fseq (h : A.run en S = some (.nx, en1, S1)) (k : (B.run en1 S1).bind fin = r) : ((gSeq A B).run en S).bind fin = r := by rw [seq_nx h, k]
theorem fset {i : Nat} (h : f.run en S = some (w, S1)) (e : en.set i (some w) = en1) (k : (B.run en1 S1).bind fin = r) : ((gSeq (gSet i f) B).run en S).bind fin = r := by
  rw [seq_nx (en1 := en1) (S1 := S1) (by rw [r_set, h, ← e]; rfl), k]
theorem frt (h : A.run en S = some (.rt w, en1, S1)) : ((gSeq A B).run en S).bind fin = some (w, S1) := by rw [r_seq, h]; rfl
theorem fret (h : f.run en S = some (w, S1)) : ((gRet f).run en S).bind fin = some (w, S1) := by rw [r_ret, h]; rfl
theorem fend (h : A.run en S = some (.rt w, en1, S1)) : (A.run en S).bind fin = some (w, S1) := by rw [h]; rfl
theorem fif_t {a b : SS} (h : c.run en S = some (w, S1)) (t : truth w S1 = some true) (k : ((gSeq a B).run en S1).bind fin = r) : ((gSeq (gIf c a b) B).run en S).bind fin = r := by
  rw [← k, r_seq, r_seq, r_gif, h, Option.bind_some, t]
  rfl
theorem fif_f {a b : SS} (h : c.run en S = some (w, S1)) (t : truth w S1 = some false) (k : ((gSeq b B).run en S1).bind fin = r) : ((gSeq (gIf c a b) B).run en S).bind fin = r := by
  rw [← k, r_seq, r_seq, r_gif, h, Option.bind_some, t]
  rfl
theorem fnop (k : (B.run en S).bind fin = r) : ((gSeq gNop B).run en S).bind fin = r := k
end
@[simp] theorem size_line : sizeLine = 16777216 := rfl
@[simp] theorem add_list {S : Sto} {xs ys : List PyData} : oAdd (.pu (.list xs)) (.pu (.list ys)) S = if xs.length + ys.length ≤ sizeLine then some (.pu (.list (xs ++ ys))) else none := rfl
/-! ### chains of comparisons, slices -/
def chK (z : W) (x y : Option (W × Sto)) : Option (W × Sto) := match z with
  | .pu (.bool true) => x
  | .pu (.bool false) => y
  | _ => none
@[simp] theorem chK_b {b : Bool} {x y : Option (W × Sto)} : chK (.pu (.bool b)) x y = if b = true then x else y := by cases b <;> rfl
section
variable {en : En} {S : Sto}
@[simp] theorem r_chain {o o' : W → W → Sto → Option W} {f g h : SE} : (sChain o o' f g h).run en S = (f.run en S).bind fun p => (g.run en p.2).bind fun q => (o p.1 q.1 q.2).bind fun z => chK z ((h.run en q.2).bind fun r => (o' q.1 r.1 r.2).map fun t => (t, r.2)) (some (.pu (.bool false), q.2)) := rfl
@[simp] theorem r_chain3 {o o' o2 : W → W → Sto → Option W} {f g h l : SE} : (sChain3 o o' o2 f g h l).run en S = (f.run en S).bind fun p => (g.run en p.2).bind fun q => (o p.1 q.1 q.2).bind fun z => chK z ((h.run en q.2).bind fun r => (o' q.1 r.1 r.2).bind fun z' => chK z' ((l.run en r.2).bind fun t => (o2 r.1 t.1 t.2).map fun y => (y, t.2)) (some (.pu (.bool false), r.2))) (some (.pu (.bool false), q.2)) := rfl
def slK (mt : Bool) (x : W) (l h : Option Int) (S : Sto) : Option (W × Sto) := match x with
  | .pu (.tuple ds) => if HT.sIx ds.length 0 l = 0 ∧ HT.sIx ds.length ds.length h = ds.length then none else some (.pu (.tuple (cutG ds l h)), S)
  | .pu (.list ds) => some (mkL mt (cutG ds l h) S)
  | .mu i => (S[i]?).map fun x => mkL mt (cutG x.2 l h) S
  | .sq ns => some (mkL mt (cutG (ns.map .int) l h) S)
  | _ => none
@[simp] theorem r_slK {mt : Bool} {f : SE} {a b : SO} : (sSl mt f a b).run en S = (f.run en S).bind fun p => (a.run en p.2).bind fun l => (b.run en l.2).bind fun h => slK mt p.1 l.1 h.1 h.2 := rfl
@[simp] theorem slK_tup {mt : Bool} {ds : List PyData} {l h : Option Int} : slK mt (.pu (.tuple ds)) l h S = if HT.sIx ds.length 0 l = 0 ∧ HT.sIx ds.length ds.length h = ds.length then none else some (.pu (.tuple (cutG ds l h)), S) := rfl
@[simp] theorem slK_list {mt : Bool} {ds : List PyData} {l h : Option Int} : slK mt (.pu (.list ds)) l h S = some (mkL mt (cutG ds l h) S) := rfl
@[simp] theorem ro_none : oNone.run en S = some (none, S) := rfl
@[simp] theorem ro_some {f : SE} : (oSome f).run en S = (f.run en S).bind fun p => match look p.1 p.2 with
  | some (.int i) => some (some i, p.2)
  | _ => none := rfl
def anyK (d : PyData) (S : Sto) : Option (List PyData × Sto) := match d with
  | .list ds => some (ds, S)
  | .tuple ds => some (ds, S)
  | _ => none
@[simp] theorem anyK_l {ds : List PyData} : anyK (.list ds) S = some (ds, S) := rfl
@[simp] theorem anyK_t {ds : List PyData} : anyK (.tuple ds) S = some (ds, S) := rfl
@[simp] theorem ri_any {f : SE} : (iAny f).run en S = (f.run en S).bind fun p => (fz p.1 p.2).bind fun q => anyK q.1 q.2 := rfl
@[simp] theorem lookL_l {ds : List PyData} : lookL (.pu (.list ds)) S = some ds := rfl
@[simp] theorem lookL_t {ds : List PyData} : lookL (.pu (.tuple ds)) S = some ds := rfl
@[simp] theorem look_pu {d : PyData} : look (.pu d) S = some d := rfl
end
/-! ### plain data, as rows for simp -/
theorem pl_none {k : Nat} : Pl k .none ↔ True := ⟨fun _ => trivial, fun _ => .none k⟩
theorem pl_bool {k : Nat} {b : Bool} : Pl k (.bool b) ↔ True := ⟨fun _ => trivial, fun _ => .bl k b⟩
theorem pl_int {k : Nat} {i : Int} : Pl k (.int i) ↔ True := ⟨fun _ => trivial, fun _ => .int k i⟩
theorem pl_list {k : Nat} {ds : List PyData} : Pl (k + 1) (.list ds) ↔ ds.length ≤ 100000 ∧ ∀ d ∈ ds, Pl k d := ⟨fun h => by cases h with | lst a b => exact ⟨b, a⟩, fun h => .lst h.2 h.1⟩
theorem pl_tup {k : Nat} {ds : List PyData} : Pl (k + 1) (.tuple ds) ↔ ds.length ≤ 100000 ∧ ∀ d ∈ ds, Pl k d := ⟨fun h => by cases h with | tup a b => exact ⟨b, a⟩, fun h => .tup h.2 h.1⟩
theorem pl_ints {k : Nat} {xs : List Int} (h : xs.length ≤ 100000) : Pl (k + 1) (.list (dI xs)) := .lst (fun d hd => by
  obtain ⟨x, _, rfl⟩ := List.mem_map.mp hd
  exact .int k x) (by rw [List.length_map]; exact h)
theorem pl_bools {k : Nat} {α : Type} {xs : List α} {f : α → Bool} (h : xs.length ≤ 100000) : Pl (k + 1) (.list (xs.map fun x => .bool (f x))) := .lst (fun d hd => by
  obtain ⟨x, _, rfl⟩ := List.mem_map.mp hd
  exact .bl k (f x)) (by rw [List.length_map]; exact h)
/-- the law's comparison of a thing with itself -/
theorem same_self {d : PyData} {S : Sto} (h : Pl 11 d) : (f_same 12).run [.pu d, .pu d] S = some (.pu (.bool true), S) := same_ok 11 h
end Z

namespace Z
open PySem L2 PyProof.Rows
/-! ### 1 << k; a = b = c = e of a number -/
def shlOk (i j : Int) : Bool := decide (i = 1) && (decide (0 ≤ j) && Nat.ble j.natAbs 1000000)
def rShl : R2 := fun x y H Q => ∃ k : Nat, x = .int 1 ∧ y = .int (k : Int) ∧ k ≤ 134217727 ∧ Q (.int (2 ^ k)) H
theorem os_shl {K : PySem.W.Frag} : OpS K rShl (i2c shlOk fun _ j => .int (2 ^ j.toNat)) := by
  intro F m S P H x y v u z Q rl w1 w2 e q
  unfold i2c at e
  split at e
  · rename_i i j h1 h2
    split at e
    · rename_i hc
      cases e
      unfold shlOk at hc
      rw [Bool.and_eq_true, Bool.and_eq_true, decide_eq_true_eq, decide_eq_true_eq] at hc
      obtain ⟨rfl, hj, hb⟩ := hc
      have hb := Nat.le_of_ble_eq_true hb
      have v1 := (look_ok rl w1 h1).int
      have v2 := (look_ok rl w2 h2).int
      refine ⟨j.toNat, v1, by rw [v2]; congr 1; omega, by omega, q F H _ (Same.refl F) rl (.int _)⟩
    · cases e
  · cases e
def sShl : SE → SE → SE := op2 (i2c shlOk fun _ j => .int (2 ^ j.toNat))
theorem z_shl {X : Cx} {a b : Expr} {pos : Pos} {f g : SE} (ha : PE X a (tI X.K f)) (hb : PE X b (tI X.K g)) : PE X (.BinOp a .LShift b pos) (tI X.K (sShl f g)) := z_op op_oneShl os_shl ha hb
@[simp] theorem r_shl {en : En} {S : Sto} {f g : SE} : (sShl f g).run en S = (f.run en S).bind fun p => (g.run en p.2).bind fun q => (i2c shlOk (fun _ j => .int (2 ^ j.toNat)) p.1 q.1 q.2).map fun z => (z, q.2) := rfl
end Z

namespace Z
open PySem L2 PyProof.Rows
/-! ### stores that only grow; loops as steps; draws -/
def Ext (S U : Sto) : Prop := ∃ T, U = S ++ T
theorem Ext.refl (S : Sto) : Ext S S := ⟨[], by simp⟩
theorem Ext.app {S U : Sto} (h : Ext S U) (T : Sto) : Ext S (U ++ T) := by
  obtain ⟨V, rfl⟩ := h
  exact ⟨V ++ T, by simp⟩
theorem Ext.trans {S U V : Sto} (h : Ext S U) (k : Ext U V) : Ext S V := by
  obtain ⟨T, rfl⟩ := k
  exact h.app T
theorem Ext.len {S U : Sto} (h : Ext S U) : S.length ≤ U.length := by
  obtain ⟨T, rfl⟩ := h
  simp
theorem Ext.set {S U : Sto} (h : Ext S U) {j : Nat} (hj : S.length ≤ j) (x) : Ext S (U.set j x) := by
  obtain ⟨V, rfl⟩ := h
  exact ⟨V.set (j - S.length) x, by rw [List.set_append_right _ _ hj]⟩
theorem Ext.get {S U : Sto} {j : Nat} {x : Bool × List PyData} (h : Ext S U) (k : S[j]? = some x) : U[j]? = some x := by
  obtain ⟨T, rfl⟩ := h
  rw [List.getElem?_append_left (List.getElem?_eq_some_iff.mp k).1]
  exact k
theorem Ext.bs {b : Nat} {B : Int} {S U : Sto} (h : BS b B S) (e : Ext S U) : BS b B U := by
  obtain ⟨T, rfl⟩ := e
  exact h.app T
theorem Ext.fr {b : Nat} {S U : Sto} (e : Ext S U) : Z.Fr b S U := by
  obtain ⟨T, rfl⟩ := e
  exact Fr.app b S T
section
variable {A B : SS} {c f g : SE} {en en1 en2 : En} {S S1 S2 : Sto} {w w1 w2 : W} {r : Option (W × Sto)}
theorem ffor {it : SI} {t : SG} {ds : List PyData} (h : it.run en S = some (ds, S1)) (l : loopR t A ds en S1 = some (.nx, en1, S2)) (k : (B.run en1 S2).bind fin = r) : ((gSeq (gFor it t A) B).run en S).bind fin = r := fseq (by rw [r_for, h]; exact l) k
theorem fwh {n : Nat} (h : whR c A n en S = some (.nx, en1, S1)) (k : (B.run en1 S1).bind fin = r) : ((gSeq (gWh n c A) B).run en S).bind fin = r := fseq (by rw [r_wh]; exact h) k
theorem fpar {i j : Nat} (h1 : f.run en S = some (w1, S1)) (h2 : g.run en S1 = some (w2, S2)) (e : (en.set i (some w1)).set j (some w2) = en1) (k : (B.run en1 S2).bind fin = r) : ((gSeq (gPar i j f g) B).run en S).bind fin = r := fseq (by rw [r_par, h1, Option.bind_some, h2, ← e]; rfl) k
theorem whR_on {b : SS} {n : Nat} {en' : En} {S' : Sto} (hc : c.run en S = some (.pu (.bool true), S)) (h : b.run en S = some (.nx, en', S')) : whR c b (n + 1) en S = whR c b n en' S' := by
  show ((c.run en S).bind _) = _
  rw [hc]
  show ((b.run en S).bind _) = _
  rw [h]
  rfl
theorem whR_off {b : SS} {n : Nat} (hc : c.run en S = some (.pu (.bool false), S)) : whR c b (n + 1) en S = some (.nx, en, S) := by
  show ((c.run en S).bind _) = _
  rw [hc]
  rfl
end
theorem pick_of {b : Nat} {B : Int} {S : Sto} (h : BS b B S) (hB : B ≤ 2 ^ 59) {xs : List Int} (h0 : 0 < xs.length) (h1 : xs.length ≤ 1000) : ∃ x S', f_of.run [.mu b, .pu (.list (dI xs))] S = some (.pu (.int x), S') ∧ x ∈ xs ∧ BS b (B + 1) S' ∧ Z.Fr b S S' := by
  obtain ⟨x, S', e, hx, h2, f2⟩ := of_st h (by omega) (xs := dI xs) (by rw [List.length_map]; exact h0) (by rw [List.length_map]; omega)
  obtain ⟨y, hy, rfl⟩ := List.mem_map.mp hx
  exact ⟨y, S', e, hy, h2, f2⟩
theorem b_iff {x y : Bool} (h : x = true ↔ y = true) : x = y := Bool.eq_iff_iff.mpr h
/-- a right from what a case asks -/
theorem right_of {right : FS} {c : Int} (h : CaseOk right c) : RightOk right := fun S b ds hs hb => by
  obtain ⟨S', e, _, f⟩ := h S b 0 ⟨ds, hs, hb⟩ (by decide) (by decide)
  exact ⟨S', e, f⟩
/-! ### slices of a tuple, the whole of it too -/
def sSlA (f : SE) (a b : SO) : SE := ⟨fun en S => (f.run en S).bind fun p => (a.run en p.2).bind fun l => (b.run en l.2).bind fun h => match p.1 with
  | .pu (.tuple ds) => some (.pu (.tuple (cutG ds l.1 h.1)), h.2)
  | _ => none, fun {en S w S'} e => by
  obtain ⟨p, h1, e⟩ := bind_some_of e
  obtain ⟨l, h2, e⟩ := bind_some_of e
  obtain ⟨h, h3, e⟩ := bind_some_of e
  split at e
  · cases e
    exact Nat.le_trans (f.mono h1) (Nat.le_trans (a.mono h2) (b.mono h3))
  · cases e⟩
theorem whole_cut {α : Type} {xs : List α} {lo hi : Option Int} (h : HT.sIx xs.length 0 lo = 0 ∧ HT.sIx xs.length xs.length hi = xs.length) : cutG xs lo hi = xs := by
  unfold cutG
  rw [h.1, h.2, List.drop_zero, Nat.sub_zero, List.take_length]
theorem z_slA {X : Cx} {e : Expr} {lo hi : Option Expr} {f : SE} {a b : SO} {p2 pos : Pos} (he : PE X e (tI X.K f)) (hl : PO X lo (tIO X.K a)) (hu : PO X hi (tIO X.K b)) : PE X (.Subscript e (.Slice lo hi none p2) pos) (tI X.K (sSlA f a b)) := by
  refine pe_imp (pe_slice sl_tupA he hl hu) fun σ H Q ⟨F, m, S, P, en, w, S', rl, er, run, q⟩ => ?_
  obtain ⟨⟨x, S1⟩, h1, e⟩ := bind_some_of run
  obtain ⟨⟨l, S2⟩, h2, e⟩ := bind_some_of e
  obtain ⟨⟨h, S3⟩, h3, e⟩ := bind_some_of e
  refine ⟨F, m, S, P, en, x, S1, rl, er, h1, fun F1 m1 H1 v u1 rl1 wr1 => ⟨F1, m1, S1, P, en, l, S2, rl1, er.up u1 (f.mono h1), h2, fun F2 m2 H2 u2 rl2 => ?_⟩⟩
  refine ⟨F2, m2, S2, P, en, h, S3, rl2, (er.up u1 (f.mono h1)).up u2 (a.mono h2), h3, fun F3 m3 H3 u3 rl3 => ?_⟩
  have u0 := (u1.trans u2 (f.mono h1)).trans u3 (Nat.le_trans (f.mono h1) (a.mono h2))
  have ll := Nat.le_trans (f.mono h1) (Nat.le_trans (a.mono h2) (b.mono h3))
  have wr3 := (wr1.up u2 (a.mono h2)).up u3 (b.mono h3)
  split at e
  · rename_i ds hx
    cases e
    subst hx
    cases wr3 with
    | @tup p vs _ g1 g2 =>
      refine ⟨p, vs, rfl, SqT.of (rl3.ex _ _ g1), fun hw => ?_, fun _ p' hp' => ?_⟩
      · rw [g2.length] at hw
        rw [whole_cut hw] at q
        exact q F3 m3 H3 _ u0 rl3 (.tup g1 g2)
      · have s := same_upd (o := HO.tup (cutV vs l h)) (rl3.ex.free hp')
        exact q (upd F3 p' (.tup (cutV vs l h))) m3 _ _ (u0.trans ⟨s, fun _ _ => rfl⟩ ll) (rl3.new hp') (.tup upd_same ((g2.cut l h).mono s))
  · cases e
def slT (x : W) (l h : Option Int) (S : Sto) : Option (W × Sto) := match x with
  | .pu (.tuple ds) => some (.pu (.tuple (cutG ds l h)), S)
  | _ => none
@[simp] theorem slT_tup {ds : List PyData} {l h : Option Int} {S : Sto} : slT (.pu (.tuple ds)) l h S = some (.pu (.tuple (cutG ds l h)), S) := rfl
@[simp] theorem r_slA {en : En} {S : Sto} {f : SE} {a b : SO} : (sSlA f a b).run en S = (f.run en S).bind fun p => (a.run en p.2).bind fun l => (b.run en l.2).bind fun h => slT p.1 l.1 h.1 h.2 := rfl
/-! ### x, y = (e, f) where x or y is read by a comprehension: through the tuple -/
theorem y_parU {X : Cx} {a b t1 t2 : Expr} {i j kk k2 : _} {f h : SE} {p1 p2 pos : Pos} (ha : PA X [a, b] (tIA X.K (aCons f (aCons h aNil)))) (hg : PG X (.Tuple [t1, t2] kk p1) (gTup X.K 2 (gCons (gName i) (gCons (gName j) L2.gNil))))
    (hs : swapsWithSole [.Tuple [t1, t2] kk p1] (.Tuple [a, b] k2 p2) pos.line X.env = pure false := by rfl) (hw : swappedStores [.Tuple [t1, t2] kk p1] (.Tuple [a, b] k2 p2) X.env = pure none := by rfl)
    (h1 : (assignEach [.Tuple [t1, t2] kk p1] X.env).map (·.2) = [assign (.Tuple [t1, t2] kk p1) X.env] := by rfl) : PS X (.Assign [.Tuple [t1, t2] kk p1] (.Tuple [a, b] k2 p2) pos) (tS X.K (gPar i j f h)) := by
  refine ps_imp (ps_asg (pe_tup ha) hg hs hw h1) fun D σ H ⟨F, m, S, P, en, r, rl, er, run, q⟩ => ?_
  obtain ⟨⟨x, S1⟩, h1, e⟩ := bind_some_of run
  obtain ⟨⟨y, S2⟩, h2, e⟩ := Option.map_eq_some_iff.mp e
  cases e
  refine ⟨F, m, S, P, en, [x, y], S2, rl, er, ?_, fun F1 m1 H1 vs u1 rl1 wr1 => ?_⟩
  · show (f.run en S).bind _ = _
    rw [h1]
    show ((h.run en S1).bind _).map _ = _
    rw [h2]
    rfl
  · obtain ⟨v1, v2, rfl, w1, w2⟩ := wr2 wr1
    refine ⟨by show 2 ≤ sizeLine; decide, fun p hp => ⟨p, _, rfl, SqT.of upd_same, rfl, v1, [v2], rfl, v2, [], rfl, rfl, ?_⟩⟩
    have s := same_upd (o := HO.tup [v1, v2]) (rl1.ex.free hp)
    have ll := Nat.le_trans (f.mono h1) (h.mono h2)
    have u2 : Up F1 m1 S2.length (upd F1 p (.tup [v1, v2])) m1 := ⟨s, fun _ _ => rfl⟩
    refine q (upd F1 p (.tup [v1, v2])) m1 _ (u1.trans u2 ll) (rl1.new hp) _ ?_
    exact ((er.up (u1.trans u2 ll) ll).set (w1.up u2 (Nat.le_refl _)) i).set (w2.up u2 (Nat.le_refl _)) j
/-! ### comprehensions that draw -/
theorem lcR_draw {own : List Nat} {t : SG} {f : SE} {en : En} {b : Nat} {c : Int} (Q : PyData → Prop) (c0 : 0 ≤ c) (c1 : c ≤ 2 ^ 30) : ∀ (ds : List PyData) (S : Sto) (B : Int) (acc : List PyData), (∀ d ∈ ds, ∀ S B, BS b B S → 0 ≤ B → B ≤ 2 ^ 57 → ∃ en1 x S', t.run d (wipeE en own) = some en1 ∧ f.run en1 S = some (.pu x, S') ∧ Q x ∧ BS b (B + c) S' ∧ Z.Fr b S S') → BS b B S → 0 ≤ B → B + ds.length * c ≤ 2 ^ 57 →
    ∃ xs S', lcR own t sYes f en ds S acc = some (acc ++ xs, S') ∧ xs.length = ds.length ∧ (∀ x ∈ xs, Q x) ∧ BS b (B + ds.length * c) S' ∧ Z.Fr b S S'
  | [], S, B, acc, _, h, _, _ => ⟨[], S, by show some (acc, S) = _; simp, rfl, fun _ hx => (List.not_mem_nil hx).elim, by simpa using h, Fr.refl _ _⟩
  | d :: ds, S, B, acc, hf, h, h0, hB => by
    have e : ((d :: ds).length : Int) * c = c + ds.length * c := by rw [List.length_cons, Int.natCast_add, Int.add_mul]; omega
    have hn : 0 ≤ (ds.length : Int) * c := Int.mul_nonneg (by omega) c0
    rw [e] at hB ⊢
    obtain ⟨en1, x, S1, t1, e1, q1, b1, f1⟩ := hf d List.mem_cons_self S B h h0 (by omega)
    obtain ⟨xs, S2, e2, l2, q2, b2, f2⟩ := lcR_draw Q c0 c1 ds S1 (B + c) (acc ++ [x]) (fun d' hd' => hf d' (List.mem_cons_of_mem _ hd')) b1 (by omega) (by omega)
    refine ⟨x :: xs, S2, ?_, by rw [List.length_cons, List.length_cons, l2], fun y hy => ?_, b2.mono (by omega), f1.trans f2⟩
    · rw [lcR_cons, t1, Option.bind_some, r_yes, Option.bind_some, truth_bool, Option.bind_some, if_pos rfl, e1, Option.bind_some, fz_pu, Option.bind_some, e2]
      simp
    · rcases List.mem_cons.mp hy with rfl | hy
      · exact q1
      · exact q2 y hy
theorem lc_draw {own : List Nat} {t : SG} {f : SE} {it : SI} {en : En} {b : Nat} {c B : Int} {S S0 : Sto} {ds : List PyData} (Q : PyData → Prop) (c0 : 0 ≤ c) (c1 : c ≤ 2 ^ 30) (hi : it.run en S0 = some (ds, S)) (hl : ds.length ≤ 1000) (hf : ∀ d ∈ ds, ∀ S B, BS b B S → 0 ≤ B → B ≤ 2 ^ 57 → ∃ en1 x S', t.run d (wipeE en own) = some en1 ∧ f.run en1 S = some (.pu x, S') ∧ Q x ∧ BS b (B + c) S' ∧ Z.Fr b S S') (h : BS b B S) (h0 : 0 ≤ B) (hB : B ≤ 2 ^ 56) :
    ∃ xs S', (sLc false own it t sYes f).run en S0 = some (.pu (.list xs), S') ∧ xs.length = ds.length ∧ (∀ x ∈ xs, Q x) ∧ BS b (B + ds.length * c) S' ∧ Z.Fr b S S' := by
  have hc : (ds.length : Int) * c ≤ 1000 * c := Int.mul_le_mul_of_nonneg_right (by omega) c0
  obtain ⟨xs, S', e, r⟩ := lcR_draw Q c0 c1 ds S B [] hf h h0 (by omega)
  refine ⟨xs, S', ?_, r⟩
  rw [r_lc, hi, Option.bind_some]
  show (if few ds = true then _ else none) = _
  rw [if_pos (show few ds = true from decide_eq_true (by omega)), e]
  rfl
/-! ### a for, turn by turn -/
section
variable {t : SG} {b : SS} {d : PyData} {ds : List PyData} {en en1 en2 : En} {S S2 : Sto} {w : W}
theorem loop_nx (ht : t.run d en = some en1) (h : b.run en1 S = some (.nx, en2, S2)) : loopR t b (d :: ds) en S = loopR t b ds en2 S2 := by
  show ((t.run d en).bind _) = _
  rw [ht, Option.bind_some]
  show ((b.run en1 S).bind _) = _
  rw [h]
  rfl
theorem loop_rt (ht : t.run d en = some en1) (h : b.run en1 S = some (.rt w, en2, S2)) : loopR t b (d :: ds) en S = some (.rt w, en2, S2) := by
  show ((t.run d en).bind _) = _
  rw [ht, Option.bind_some]
  show ((b.run en1 S).bind _) = _
  rw [h]
  rfl
theorem loop_bk (ht : t.run d en = some en1) (h : b.run en1 S = some (.bk, en2, S2)) : loopR t b (d :: ds) en S = some (.nx, en2, S2) := by
  show ((t.run d en).bind _) = _
  rw [ht, Option.bind_some]
  show ((b.run en1 S).bind _) = _
  rw [h]
  rfl
theorem loop_nil : loopR t b [] en S = some (.nx, en, S) := rfl
end
/-! ### x = y = z = e -/
def gSet3 (i j k : Nat) (f : SE) : SS := ⟨fun en S => (f.run en S).map fun p => (.nx, ((en.set i (some p.1)).set j (some p.1)).set k (some p.1), p.2), fun {en S r} e => by
  obtain ⟨p, h1, e⟩ := Option.map_eq_some_iff.mp e
  cases e
  exact f.mono h1⟩
theorem y_set3 {X : Cx} {t1 t2 t3 e : Expr} {i j k : Nat} {f : SE} {pos : Pos} (he : PE X e (tI X.K f)) (g1 : PG X t1 (gName i)) (g2 : PG X t2 (gName j)) (g3 : PG X t3 (gName k))
    (ha : (assignEach [t1, t2, t3] X.env).map (·.2) = [assign t1 X.env, assign t2 X.env, assign t3 X.env] := by rfl) (hw : swappedStores [t1, t2, t3] e X.env = pure none := by rfl) : PS X (.Assign [t1, t2, t3] e pos) (tS X.K (gSet3 i j k f)) := by
  refine ps_imp (ps_asg3 he g1 g2 g3 ha hw) fun D σ H ⟨F, m, S, P, en, r, rl, er, run, q⟩ => ?_
  obtain ⟨⟨x, S1⟩, h1, e⟩ := Option.map_eq_some_iff.mp run
  cases e
  exact ⟨F, m, S, P, en, x, S1, rl, er, h1, fun F1 m1 H1 v u1 rl1 wr1 => q F1 m1 H1 u1 rl1 _ ((((er.up u1 (f.mono h1)).set wr1 i).set wr1 j).set wr1 k)⟩
@[simp] theorem r_set3 {en : En} {S : Sto} {i j k : Nat} {f : SE} : (gSet3 i j k f).run en S = (f.run en S).map fun p => (.nx, ((en.set i (some p.1)).set j (some p.1)).set k (some p.1), p.2) := rfl
end Z

namespace Z
open PySem L2 PyProof.Rows
/-! ### list(range(a, b)), tuple(range(a, b)) -/
def lrgOk (i j : Int) : Bool := smallI i && (smallI j && Nat.ble (j - i).toNat 100000)
theorem lrg_ok {i j : Int} (h : lrgOk i j = true) : RgOk i j := by
  unfold lrgOk smallI at h
  rw [Bool.and_eq_true, Bool.and_eq_true] at h
  have h1 := Nat.le_of_ble_eq_true h.1
  have h2 := Nat.le_of_ble_eq_true h.2.1
  have h3 := Nat.le_of_ble_eq_true h.2.2
  exact ⟨by omega, by omega, by omega, by omega, by omega⟩
theorem atall_rng {F : Hp} (i j : Int) : AtAll F (rgV i j) (rngD i j) := by
  unfold rgV rngD
  generalize List.range (j - i).toNat = l
  induction l with
  | nil => exact .nil
  | cons k l ih => exact .cons (.int _) ih
def sLrg (mt : Bool) (f g : SE) : SE := ⟨fun en S => (f.run en S).bind fun p => (g.run en p.2).bind fun q => match p.1, q.1 with
  | .pu (.int i), .pu (.int j) => if lrgOk i j = true then some (mkL mt (rngD i j) q.2) else none
  | _, _ => none, fun {en S w S'} e => by
  obtain ⟨p, h1, e⟩ := bind_some_of e
  obtain ⟨q, h2, e⟩ := bind_some_of e
  split at e
  · split at e
    · rename_i i j _ _ _
      have h := mkL_len (mt := mt) (ds := rngD i j) (S := q.2)
      rw [Option.some.inj e] at h
      exact Nat.le_trans (Nat.le_trans (f.mono h1) (g.mono h2)) h
    · cases e
  · cases e⟩
theorem z_listRg {X : Cx} {e : Expr} {mt : Bool} {f g : SE} {p pos : Pos} {ta tb : TE} (hc : X.calm = true) (hg : Gl X "list") (hm : X.mg "list" = none) (he : PRg X e (tRg2 ta tb)) (h1 : ta = tI X.K f) (h2 : tb = tI X.K g)
    (na : starEach [e] X.env = (false, eval e X.env) :: starEach [] X.env := by rfl) : PE X (.Call (.Name "list" p) [e] [] pos) (tI X.K (sLrg mt f g)) := by
  subst h1 h2
  refine pe_imp (pe_listRg hc hg hm he na) fun σ H Q ⟨F, m, S, P, en, w, S', rl, er, run, q⟩ => ?_
  obtain ⟨⟨x, S1⟩, h1, e⟩ := bind_some_of run
  obtain ⟨⟨y, S2⟩, h2, e⟩ := bind_some_of e
  refine ⟨F, m, S, P, en, x, S1, rl, er, h1, fun F1 m1 H1 v u1 rl1 wr1 => ⟨F1, m1, S1, P, en, y, S2, rl1, er.up u1 (f.mono h1), h2, fun F2 m2 H2 v2 u2 rl2 wr2 => ?_⟩⟩
  split at e
  · rename_i i j z1 z2
    split at e
    · rename_i hk
      have z1 : x = .pu (.int i) := z1
      have z2 : y = .pu (.int j) := z2
      subst z1 z2
      cases wr1
      cases wr2
      refine ⟨i, j, rfl, rfl, lrg_ok hk, mkL_ok (K := X.K) (mt := mt) rl2 (atall_rng i j) fun F4 m4 H4 v4 u4 rl4 wr4 => ?_⟩
      have e' : mkL mt (rngD i j) S2 = (w, S') := Option.some.inj e
      rw [e'] at rl4 wr4
      exact q F4 m4 H4 v4 ((u1.trans u2 (f.mono h1)).trans u4 (Nat.le_trans (f.mono h1) (g.mono h2))) rl4 wr4
    · cases e
  · cases e
def sTrg (f g : SE) : SE := ⟨fun en S => (f.run en S).bind fun p => (g.run en p.2).bind fun q => match p.1, q.1 with
  | .pu (.int i), .pu (.int j) => if lrgOk i j = true then some (.pu (.tuple (rngD i j)), q.2) else none
  | _, _ => none, fun {en S w S'} e => by
  obtain ⟨p, h1, e⟩ := bind_some_of e
  obtain ⟨q, h2, e⟩ := bind_some_of e
  split at e
  · split at e
    · cases e
      exact Nat.le_trans (f.mono h1) (g.mono h2)
    · cases e
  · cases e⟩
theorem z_tupRg {X : Cx} {e : Expr} {f g : SE} {p pos : Pos} {ta tb : TE} (hc : X.calm = true) (hg : Gl X "tuple") (hm : X.mg "tuple" = none) (he : PRg X e (tRg2 ta tb)) (h1 : ta = tI X.K f) (h2 : tb = tI X.K g)
    (na : starEach [e] X.env = (false, eval e X.env) :: starEach [] X.env := by rfl) : PE X (.Call (.Name "tuple" p) [e] [] pos) (tI X.K (sTrg f g)) := by
  subst h1 h2
  refine pe_imp (pe_tupRg hc hg hm he na) fun σ H Q ⟨F, m, S, P, en, w, S', rl, er, run, q⟩ => ?_
  obtain ⟨⟨x, S1⟩, h1, e⟩ := bind_some_of run
  obtain ⟨⟨y, S2⟩, h2, e⟩ := bind_some_of e
  refine ⟨F, m, S, P, en, x, S1, rl, er, h1, fun F1 m1 H1 v u1 rl1 wr1 => ⟨F1, m1, S1, P, en, y, S2, rl1, er.up u1 (f.mono h1), h2, fun F2 m2 H2 v2 u2 rl2 wr2 => ?_⟩⟩
  split at e
  · rename_i i j z1 z2
    split at e
    · rename_i hk
      have z1 : x = .pu (.int i) := z1
      have z2 : y = .pu (.int j) := z2
      subst z1 z2
      cases wr1
      cases wr2
      cases e
      refine ⟨i, j, rfl, rfl, lrg_ok hk, fun p' hp' => ?_⟩
      have s := same_upd (o := HO.tup (rgV i j)) (rl2.ex.free hp')
      exact q (upd F2 p' (.tup (rgV i j))) m2 _ _ ((u1.trans u2 (f.mono h1)).trans ⟨s, fun _ _ => rfl⟩ (Nat.le_trans (f.mono h1) (g.mono h2))) (rl2.new hp') (.tup upd_same (atall_rng i j))
    · cases e
  · cases e
/-- range(n) -/
theorem prg1_two {X : Cx} {a : Expr} {f : SE} {p pos : Pos} (h : PRg X (.Call (.Name "range" p) [a] [] pos) (tRg1 (tI X.K f))) : PRg X (.Call (.Name "range" p) [a] [] pos) (tRg2 (tI X.K (sC (.int 0))) (tI X.K f)) := by
  intro pins s σ H Q I ⟨F, m, S, P, en, w, S', rl, er, run, q⟩
  cases run
  obtain q' := q F m H (.int 0) (Up.refl F m S.length) rl (.int 0)
  refine h pins s σ H Q I ?_
  obtain ⟨F1, m1, S1, P1, en1, w1, S1', rl1, er1, run1, q1⟩ := q'
  refine ⟨F1, m1, S1, P1, en1, w1, S1', rl1, er1, run1, fun F2 m2 H2 v2 u2 rl2 wr2 => ?_⟩
  obtain ⟨i, j, e1, e2, r⟩ := q1 F2 m2 H2 v2 u2 rl2 wr2
  cases e1
  exact ⟨j, e2, r⟩
section
variable {en : En} {S : Sto} {f g : SE} {mt : Bool}
def lrgK (mt : Bool) (x y : W) (S : Sto) : Option (W × Sto) := match x, y with
  | .pu (.int i), .pu (.int j) => if lrgOk i j = true then some (mkL mt (rngD i j) S) else none
  | _, _ => none
def trgK (x y : W) (S : Sto) : Option (W × Sto) := match x, y with
  | .pu (.int i), .pu (.int j) => if lrgOk i j = true then some (.pu (.tuple (rngD i j)), S) else none
  | _, _ => none
@[simp] theorem r_lrg : (sLrg mt f g).run en S = (f.run en S).bind fun p => (g.run en p.2).bind fun q => lrgK mt p.1 q.1 q.2 := rfl
@[simp] theorem r_trg : (sTrg f g).run en S = (f.run en S).bind fun p => (g.run en p.2).bind fun q => trgK p.1 q.1 q.2 := rfl
@[simp] theorem lrgK_int {i j : Int} : lrgK mt (.pu (.int i)) (.pu (.int j)) S = if lrgOk i j = true then some (mkL mt (dI (rngI i j)) S) else none := by
  rw [← rngD_eq]
  rfl
@[simp] theorem trgK_int {i j : Int} : trgK (.pu (.int i)) (.pu (.int j)) S = if lrgOk i j = true then some (.pu (.tuple (dI (rngI i j))), S) else none := by
  rw [← rngD_eq]
  rfl
theorem lrg_of {i j : Int} (h1 : -(2 ^ 60) ≤ i) (h2 : i ≤ 2 ^ 60) (h3 : j - i ≤ 100000) (h4 : -(2 ^ 60) ≤ j) : lrgOk i j = true := by
  unfold lrgOk
  rw [smallI_of (by omega) (by omega), smallI_of (by omega) (by omega), Nat.ble_eq_true_of_le (by omega)]
  rfl
end
/-! ### tuple * int -/
def oRepT : W → W → Sto → Option W := fun x y S => match look x S, look y S with
  | some (.tuple xs), some (.int k) => if (xs.isEmpty = false ∧ 2 ≤ k) ∧ (k ≤ 1000 ∧ xs.length ≤ 1000) then some (.pu (.tuple (List.replicate k.toNat xs).flatten)) else none
  | _, _ => none
theorem os_repT {K : PySem.W.Frag} : OpS K (rRepT K) oRepT := by
  intro F m S P H x y v u z Q rl w1 w2 e q
  unfold oRepT at e
  split at e
  · rename_i xs k h1 h2
    split at e
    · rename_i hc
      cases e
      obtain ⟨p, vs, rfl, g1, _, g2⟩ := (look_ok rl w1 h1).tup rl.ex
      have hk := (look_ok rl w2 h2).int
      have nn : vs ≠ [] := fun z => by
        subst z
        cases g2
        exact absurd hc.1.1 (by decide)
      refine ⟨p, k, vs, rfl, hk, SqT.of g1, nn, hc.1.2, hc.2.1, by rw [g2.length]; exact hc.2.2, fun a ha => ?_⟩
      have s := same_upd (o := HO.tup (List.replicate k.toNat vs).flatten) (rl.ex.free ha)
      exact q (upd F a (.tup (List.replicate k.toNat vs).flatten)) _ _ s (rl.new ha) (.tup upd_same ((g2.rep k.toNat).mono s))
    · cases e
  · cases e
def sRepT : SE → SE → SE := op2 oRepT
theorem z_repT {X : Cx} {a b : Expr} {pos : Pos} {f g : SE} (ha : PE X a (tI X.K f)) (hb : PE X b (tI X.K g)) : PE X (.BinOp a .Mult b pos) (tI X.K (sRepT f g)) := z_op op_repT os_repT ha hb
@[simp] theorem r_repT {en : En} {S : Sto} {f g : SE} : (sRepT f g).run en S = (f.run en S).bind fun p => (g.run en p.2).bind fun q => (oRepT p.1 q.1 q.2).map fun z => (z, q.2) := rfl
/-! ### a def with a shorter way for some calls -/
def hyb (f : FS) (g : List W → Sto → Option (W × Sto)) (ws : List W) (S : Sto) : Option (W × Sto) := match g ws S with
  | some r => some r
  | none => f.run ws S
theorem hyb_eq {f : FS} {g : List W → Sto → Option (W × Sto)} (h : ∀ ws S r, g ws S = some r → f.run ws S = some r) : hyb f g = f.run := by
  funext ws S
  unfold hyb
  cases e : g ws S with
  | none => rfl
  | some r => exact (h ws S r e).symm
/-- the def with that way -/
def hybF (f : FS) (g : List W → Sto → Option (W × Sto)) (h : ∀ ws S r, g ws S = some r → f.run ws S = some r) : FS := ⟨f.ar, hyb f g, fun {ws S w S'} e => f.mono (by rw [hyb_eq h] at e; exact e), fun {ws S r} e => f.arity (by rw [hyb_eq h] at e; exact e)⟩
theorem hybF_eq {f : FS} {g : List W → Sto → Option (W × Sto)} (h : ∀ ws S r, g ws S = some r → f.run ws S = some r) : f = hybF f g h := by
  obtain ⟨ar, run, mono, arity⟩ := f
  unfold hybF
  congr 1
  exact (hyb_eq h).symm
end Z

namespace PySem
theorem meets_enumerate_newT {v : Value} {o : Obj} {H : Heap → Prop} (B : Begins v o H) :
    Meets (Builtin.«enumerate.__new__» ⟨[.type "enumerate", v], []⟩) (fun _ R s => H s.heap ∧
      R (.ok (.ret (.ref (s.heap.push o).objs.size))) { s with heap := (s.heap.push o).push { cls := .type "enumerate", data := .fields #[.none, .bool false, .ref s.heap.objs.size, rawInt 0, .none, .none] } }) :=
  .of_wp fun prog w A R s h => by
    obtain ⟨hp, g, d, tk, os⟩ := s; obtain ⟨h1, h⟩ := h
    have hsub := sub_enumerate
    have q1 : ∀ {A' : Around} {E : Value → Shared → Prop} {Q : Value → Shared → Prop}, Q (.ref hp.objs.size) ⟨hp.push o, g, d, tk, os⟩ → wpAny (model prog w) A' (pyIter v) Q E ⟨hp, g, d, tk, os⟩ :=
      fun q => B.iter prog w _ _ ⟨hp, g, d, tk, os⟩ _ h1 q
    wp_walk using q1
    refine wpAny_stack_any fun st => wpAny_pure ?_
    split
    · rename_i c _ _ _ _ _
      cases (c == Value.type "enumerate")
      · wp_walk using q1
        exact ⟨_, rfl, h⟩
      · wp_walk using q1
        exact ⟨_, rfl, h⟩
    · wp_walk using q1
      exact ⟨_, rfl, h⟩
theorem call_enumerate_B {prog : Program} {w : World} {A : Around} {E : Value → Shared → Prop} {s : Shared} {v : Value} {o : Obj} {H : Heap → Prop} {Q : Value → Shared → Prop} (B : Begins v o H) (h1 : H s.heap)
    (h : ∀ h', IsEnum h' (s.heap.objs.size + 1) s.heap.objs.size 0 .none → h'.get? s.heap.objs.size = some o → h'.objs.size = s.heap.objs.size + 2 →
      (∀ b o, s.heap.get? b = some o → h'.get? b = some o) → Q (.ref (s.heap.objs.size + 1)) { s with heap := h' }) :
    wpAny (model prog w) A (call (.type "enumerate") [v]) Q E s := by
  refine callType_new F.called_enumerate (by decide) (F.typeCall_enumerate_1 _) (F.newCall_enumerate_1 _) (fun obj => F.args_object_init_2 obj _) F.entry_enumerate_new
    (meets_enumerate_newT B) ⟨h1, ?_⟩
  have hz : (s.heap.push o).objs.size = s.heap.objs.size + 1 := Heap.size_push ..
  show _ ∧ _
  rw [hz]
  have he : IsEnum ((s.heap.push o).push { cls := .type "enumerate", data := .fields #[.none, .bool false, .ref s.heap.objs.size, rawInt 0, .none, .none] }) (s.heap.objs.size + 1) s.heap.objs.size 0 .none := by
    have := Heap.get?_push_size (s.heap.push o) (o := { cls := .type "enumerate", data := .fields #[.none, .bool false, .ref s.heap.objs.size, rawInt 0, .none, .none] }) rfl
    rw [hz] at this; exact this
  refine ⟨⟨_, he, rfl⟩, h _ he (Heap.get?_push_of_some _ (Heap.get?_push_size _ B.free)) (by rw [Heap.size_push, hz]) fun b o x => Heap.get?_push_of_some _ (Heap.get?_push_of_some _ x)⟩
theorem enum_endT {prog : Program} {w : World} {A : Around} {E : Value → Shared → Prop} {s : Shared} {e it t : Addr} {j : Nat} {items : Array Value} {i : Int} {old : Value} {Q : Option Value → Shared → Prop} (hh : A.handled = none)
    (he : IsEnum s.heap e it i old) (hit : s.heap.IsTupleIter it t j) (ht : s.heap.IsTuple t items) (hx : items[j]? = none)
    (hQ : ∀ h', Heap.ExtBut it s.heap h' → Q none { s with heap := h' }) : wpAny (model prog w) A (pyNext (.ref e)) Q E s := by
  have hT : s.TypeIs (.ref e) "enumerate" := ⟨_, he, rfl⟩
  unfold pyNext
  refine wpAny_bind (wpAny_attempt (wpAny_callSpecial?_slot (name := Str.ofString "__next__") hT F.slot_enumerate_next
    (wpAny_call_entry F.slot_enumerate_next hT F.entry_enumerate_next ?_ (F.args_enumerate_next_1 _))))
  show wpAny _ _ (field (.ref e) 2 >>= _) _ _ _
  refine wpAny_bind (wpAny_field he rfl (x := .ref it) rfl ?_)
  refine wpAny_bind (wpAny_nextOf_tuple_end hh hit ht hx fun h' x he' hx' => ?_)
  obtain ⟨o, ho, hc⟩ := hx'
  refine wpAny_bind (wpAny_isInstance (T := "StopIteration") (b := true) ⟨o, ho, hc⟩ isSubtype_stop ?_)
  exact wpAny_pure (hQ _ he')
end PySem
namespace Z
open PySem L2 PyProof.Rows
/-! ### enumerate(tuple) -/
def IteT (K : PySem.W.Frag) (a : Addr) : It :=
  ⟨fun i H => ∃ (xs : List V) (x : V), SqT K H a xs ∧ xs[i]? = some x, fun i H v H' => ∃ T x, v = .ref T ∧ H T = none ∧ H' = upd H T (.tup [.int (i : Nat), x]) ∧ ∀ xs, SqT K H a xs → xs[i]? = some x, fun i H => ∃ xs : List V, SqT K H a xs ∧ xs.length ≤ i⟩
theorem turn_enumT {P : Program} {w : World} {K : PySem.W.Frag} {elts : List Expr} {kk : Nat} {tpos : Pos} (a e it : Addr) (ai : a ≠ it) (ae : a ≠ e) :
    Turn P w K (.Tuple elts kk tpos) (IteT K a) [e, it] e (fun i h => (∃ old, IsEnum h e it ((i : Nat) : Int) old) ∧ h.IsTupleIter it a i ∧ e ≠ it) where
  mem := by simp
  obj := fun i h st b hb => by
    obtain ⟨⟨old, he⟩, ⟨o, ho, hc, hd⟩, _⟩ := st
    have e' : b = e ∨ b = it := by simpa using hb
    rcases e' with z | z
    · rw [z]; exact ⟨_, he, fun v q => nomatch q⟩
    · rw [z]; exact ⟨o, ho, fun v q => by rw [hd] at q; cases q⟩
  keep := fun i h h' st k => let ⟨⟨old, he⟩, hi, hne⟩ := st; ⟨⟨old, k e (by simp) _ he⟩, hi.at fun o q => k it (by simp) o q, hne⟩
  item := by
    intro X hP hw hK hc i pins s σ H E I hf st hg
    subst hP hw hK
    obtain ⟨⟨old, he⟩, hit, hne⟩ := st
    obtain ⟨xs, x, hq, hx⟩ := hg
    obtain ⟨its, rv, p, hz⟩ := I.tuple hq
    obtain ⟨u, hu, ru⟩ := rv.get hx
    have hel : e < s.heap.objs.size := Heap.lt_size he
    have hil : it < s.heap.objs.size := by obtain ⟨_, q, _⟩ := hit; exact Heap.lt_size q
    have hi : i < its.toArray.size := by
      rcases Nat.lt_or_ge i its.toArray.size with h | h
      · exact h
      · have : its[i]? = none := by simp at h ⊢; exact h
        rw [this] at hu
        cases hu
    refine wpAny_pyNext_enum_itemD (Draws.tuple (A := X.A.in1) (show X.A.in1.handled = none from I.ok.hd hc) it a ai its.toArray) he ⟨hit, p⟩ hi hne (by
      intro z
      simp at z
      exact z.elim hne fun z => ae z.symm) fun x' h' tk px ho st' hT hsz hk => ?_
    obtain rfl : u = x' := by
      have : its[i]? = some x' := by simpa using px
      exact Option.some.inj (hu.symm.trans this)
    refine ⟨_, rfl, wpAny_letOwnedTupleGo_enum (s := { s with heap := h', toks := tk + 1 }) ho fun h'' he' sb => ?_⟩
    have hT2 : h''.get? s.heap.objs.size = some { cls := .type "tuple", data := .seq #[.int i tk, u] } := (sb.2 _ (Nat.ne_of_gt hel)).trans hT
    have new : ObjOk X.prog X.w (upd H s.heap.objs.size (.tup [.int (i : Nat), x])) h'' s.heap.objs.size (.tup [.int (i : Nat), x]) :=
      ⟨by show 2 ≤ sizeLine; decide, [.int i tk, u], .cons ⟨_, rfl⟩ (.cons ru .nil), ⟨_, hT2, rfl, _, rfl⟩⟩
    have I1 : Inv X pins σ (upd H s.heap.objs.size (.tup [.int (i : Nat), x])) { s with heap := h'', toks := tk + 1 } :=
      I.turnedNew (ch := [e, it]) (fun b ob hb q => (sb.2 b (fun z => hb (by simp [z]))).trans (hk b ob (fun z => hb (by simp [z])) (fun z => hb (by simp [z])) q)) hf (Nat.le_refl _) new
    refine ⟨.ref s.heap.objs.size, _, I1, rfl, ⟨_, x, rfl, I.hok.fresh (Nat.le_refl _), rfl, fun ys hy => by rw [I.tuple_inj hy hq]; exact hx⟩, ⟨⟨u, ?_⟩, st'.1.at fun o q => (sb.2 it (Ne.symm hne)).trans q, hne⟩, fun b hb => ?_⟩
    · have e1 : ((i + 1 : Nat) : Int) = (i : Int) + 1 := by omega
      rw [e1]; exact he'
    · have hb' : b < s.heap.objs.size := by
        have e' : b = e ∨ b = it := by simpa using hb
        rcases e' with z | z
        · rw [z]; exact hel
        · rw [z]; exact hil
      rw [upd_ne (Nat.ne_of_lt hb')]
      exact (hf b hb).1
  done := by
    intro X hP hw hK hc i pins s σ H E I hf st hg
    subst hP hw hK
    obtain ⟨⟨old, he⟩, hit, hne⟩ := st
    obtain ⟨xs, hq, hx⟩ := hg
    obtain ⟨its, rv, p, hz⟩ := I.tuple hq
    obtain ⟨f0, f1, f2, f3, f4, f5⟩ := hf it (by simp)
    have hl := rv.length
    exact enum_endT (I.ok.hd hc) he hit p (by simp; omega) fun h' eb => ⟨rfl, I.turned (t' := s.toks) (fun b o hb q => eb b o hb q) f0 f1 f3 f4 f5⟩
  self := fun A i s Q E st h => let ⟨⟨_, he⟩, _⟩ := st; wpAny_pyIter_enum he h
def iEnumA (K : PySem.W.Frag) (ta : TA) : TI := fun σ H R => ta σ H fun vs H1 => ∃ a xs, vs = [.ref a] ∧ ((SqL K H1 a xs ∧ R (Ite K a) H1) ∨ (SqT K H1 a xs ∧ R (IteT K a) H1))
theorem pi_enumA {X : Cx} {e : Expr} {ta : TA} {p pos tpos : Pos} {elts : List Expr} {kk : Nat} (hg : Gl X "enumerate") (hm : X.mg "enumerate" = none) (ha : PA X [e] ta) (hs : starEach [e] X.env = [(false, eval e X.env)] := by rfl) :
    PI X (.Tuple elts kk tpos) (.Call (.Name "enumerate" p) [e] [] pos) (iEnumA X.K ta) := by
  refine ⟨fun pins s σ H R I h => ?_⟩
  refine Call_ (ld_blt I hg hm boot_enumerate (PyProof.Rows.callWith_type1 (thn (ha.run pos pins s σ H _ I h) fun us s1 ⟨vs, H1, I1, r1, q1⟩ => ?_) hs rfl))
  obtain ⟨a, xs, ex, hq⟩ := q1
  subst ex
  cases r1 with
  | cons r rr =>
    cases rr
    cases r
    have fr : ∀ b ∈ [s1.heap.objs.size + 1, s1.heap.objs.size], s1.heap.objs.size ≤ b := fun b hb => by
      have e' : b = s1.heap.objs.size + 1 ∨ b = s1.heap.objs.size := by simpa using hb
      rcases e' with z | z
      · rw [z]; exact Nat.le_add_right _ _
      · rw [z]; exact Nat.le_refl _
    rcases hq with ⟨hq, q⟩ | ⟨hq, q⟩
    · obtain ⟨its, rv, p', hz⟩ := I1.list hq
      refine call_enumerate_list p'.isList fun h' he hit hsz hk => wpAny_pyIter_enum he ?_
      have I2 : Inv X pins σ H1 { s1 with heap := h' } := I1.kept (t' := s1.toks) hk
      exact ⟨s1.heap.objs.size + 1, [s1.heap.objs.size + 1, s1.heap.objs.size], _, _, H1, rfl, I2, turn_enum a (s1.heap.objs.size + 1) s1.heap.objs.size, ⟨⟨.none, he⟩, hit, Nat.succ_ne_self _⟩, fun b hb => I1.fpOk (fr b hb) (I1.hok.fresh (fr b hb)), q⟩
    · obtain ⟨its, rv, p', hz⟩ := I1.tuple hq
      refine call_enumerate_B (begins_tuple a its.toArray) p' fun h' he hit hsz hk => wpAny_pyIter_enum he ?_
      have I2 : Inv X pins σ H1 { s1 with heap := h' } := I1.kept (t' := s1.toks) hk
      have al : a < s1.heap.objs.size := by obtain ⟨_, q, _⟩ := p'; exact Heap.lt_size q
      exact ⟨s1.heap.objs.size + 1, [s1.heap.objs.size + 1, s1.heap.objs.size], _, _, H1, rfl, I2, turn_enumT a (s1.heap.objs.size + 1) s1.heap.objs.size (Nat.ne_of_lt al) (Nat.ne_of_lt (Nat.lt_succ_of_lt al)), ⟨⟨.none, he⟩, ⟨_, hit, rfl, rfl⟩, Nat.succ_ne_self _⟩, fun b hb => I1.fpOk (fr b hb) (I1.hok.fresh (fr b hb)), q⟩
theorem walk_enumT {K : PySem.W.Frag} {a : Addr} {xs : List V} : Walk (IteT K a) xs.length (fun H => SqT K H a xs) (YPair (fun i => some (.int (i : Nat))) (fun i => xs[i]?)) := by
  refine ⟨fun i _ hi q => ⟨xs, xs[i], q, by simp [hi]⟩, fun _ q => ⟨xs, q, Nat.le_refl _⟩, fun i H v H' _ q y => ?_⟩
  obtain ⟨T, x, h1, h2, h3, h4⟩ := y
  exact ⟨T, .int (i : Nat), x, h1, h2, h3, rfl, h4 xs q⟩
def iEnumG (f : SE) : SI := ⟨fun en S => (f.run en S).bind fun p => (fz p.1 p.2).bind fun q => match q.1 with
  | .list ds => some (enumD 0 ds, q.2)
  | .tuple ds => some (enumD 0 ds, q.2)
  | _ => none, fun {en S r} e => by
  obtain ⟨p, h1, e⟩ := bind_some_of e
  obtain ⟨q, h2, e⟩ := bind_some_of e
  split at e
  · cases e
    rw [← fz_len h2]
    exact f.mono h1
  · cases e
    rw [← fz_len h2]
    exact f.mono h1
  · cases e⟩
theorem i_enumG {X : Cx} {a : Expr} {f : SE} {p pos tpos : Pos} {elts : List Expr} {kk} (hg : Gl X "enumerate") (hm : X.mg "enumerate" = none) (ha : PA X [a] (tIA X.K (aCons f aNil))) (hs : starEach [a] X.env = [(false, eval a X.env)] := by rfl) :
    ZI X (.Tuple elts kk tpos) (.Call (.Name "enumerate" p) [a] [] pos) (iEnumG f) := by
  refine ⟨_, pi_enumA hg hm ha hs, fun σ H R F m S P en ds S' rl er run q => ?_⟩
  obtain ⟨⟨x, S1⟩, h1, e⟩ := bind_some_of run
  obtain ⟨⟨d, S2⟩, h2, e⟩ := bind_some_of e
  have one : (aCons f aNil).run en S = some ([x], S1) := by
    show (f.run en S).bind _ = _
    rw [h1]
    rfl
  cases d with
  | list ds' =>
    cases e
    refine ⟨F, m, S, P, en, [x], S1, rl, er, one, fun F1 m1 H1 vs u1 rl1 wr1 => ?_⟩
    cases wr1 with
    | cons w1 wr =>
      cases wr
      obtain ⟨F2, s2, rl2, at2⟩ := fz_ok rl1 w1 h2
      cases at2 with
      | @lst a vs _ g1 g2 =>
        refine ⟨a, vs, rfl, .inl ⟨SqL.of (rl2.ex _ _ g1), ?_⟩⟩
        have wk : Walk (Ite X.K a) (enumD 0 ds').length (fun H => SqL X.K H a vs) (YPair (fun i => some (.int (i : Nat))) (fun i => vs[i]?)) := by
          rw [enumD_len, ← g2.length]
          exact walk_enum
        refine q F2 m1 H1 _ _ _ (u1.trans ⟨s2, fun _ _ => rfl⟩ (f.mono h1)) rl2 wk (fun F3 H3 e1 e2 => SqL.of (e2 _ _ (e1 _ _ g1))) (yld_pair fun i x y hi hx hy => ?_)
        obtain ⟨d, k1, k2⟩ := g2.getV hy
        cases hx
        exact ⟨_, d, by rw [enumD_get, k1]; simp, .int _, k2⟩
  | tuple ds' =>
    cases e
    refine ⟨F, m, S, P, en, [x], S1, rl, er, one, fun F1 m1 H1 vs u1 rl1 wr1 => ?_⟩
    cases wr1 with
    | cons w1 wr =>
      cases wr
      obtain ⟨F2, s2, rl2, at2⟩ := fz_ok rl1 w1 h2
      cases at2 with
      | @tup a vs _ g1 g2 =>
        refine ⟨a, vs, rfl, .inr ⟨SqT.of (rl2.ex _ _ g1), ?_⟩⟩
        have wk : Walk (IteT X.K a) (enumD 0 ds').length (fun H => SqT X.K H a vs) (YPair (fun i => some (.int (i : Nat))) (fun i => vs[i]?)) := by
          rw [enumD_len, ← g2.length]
          exact walk_enumT
        refine q F2 m1 H1 _ _ _ (u1.trans ⟨s2, fun _ _ => rfl⟩ (f.mono h1)) rl2 wk (fun F3 H3 e1 e2 => SqT.of (e2 _ _ (e1 _ _ g1))) (yld_pair fun i x y hi hx hy => ?_)
        obtain ⟨d, k1, k2⟩ := g2.getV hy
        cases hx
        exact ⟨_, d, by rw [enumD_get, k1]; simp, .int _, k2⟩
  | _ => cases e
def enumK (d : PyData) (S : Sto) : Option (List PyData × Sto) := match d with
  | .list ds => some (enumD 0 ds, S)
  | .tuple ds => some (enumD 0 ds, S)
  | _ => none
@[simp] theorem enumK_l {ds : List PyData} {S : Sto} : enumK (.list ds) S = some (enumD 0 ds, S) := rfl
@[simp] theorem enumK_t {ds : List PyData} {S : Sto} : enumK (.tuple ds) S = some (enumD 0 ds, S) := rfl
@[simp] theorem r_enumG {en : En} {S : Sto} {f : SE} : (iEnumG f).run en S = (f.run en S).bind fun p => (fz p.1 p.2).bind fun q => enumK q.1 q.2 := rfl
/-- the pairs of a walk with numbers -/
theorem enumD_map {α : Type} (f : α → PyData) : ∀ (k : Nat) (xs : List α), enumD k (xs.map f) = (xs.zipIdx k).map fun p => .tuple [.int (p.2 : Nat), f p.1]
  | _, [] => rfl
  | k, x :: xs => by
    rw [List.map_cons, List.zipIdx_cons, List.map_cons, ← enumD_map f (k + 1) xs]
    rfl
end Z

namespace Z
open PySem L2 PyProof.Rows
/-! ### list comprehensions with two fors -/
/-- what is walked, by its reading -/
def tSI (K : PySem.W.Frag) (it : SI) : TI := fun σ H R => ∃ F m S P en ds S', Rl F m S P H ∧ ER K F m S.length en σ ∧ it.run en S = some (ds, S') ∧
  (∀ F' m' H' J G Y, Up F m S.length F' m' → Rl F' m' S' P H' → Walk J ds.length G Y → (∀ F1 H1, Same F' F1 → Same F1 H1 → G H1) → Yld ds F' Y → R J H')
theorem pi_si {X : Cx} {tg iter : Expr} {it : SI} (h : ZI X tg iter it) : PI X tg iter (tSI X.K it) := by
  obtain ⟨wi, p, k⟩ := h
  exact ⟨fun pins s σ H R I ⟨F, m, S, P, en, ds, S', rl, er, run, q⟩ => p.run pins s σ H R I (k σ H R F m S P en ds S' rl er run q)⟩
theorem turns_it {J : It} {n : Nat} {G : Hp → Prop} {Y : Nat → Hp → V → Hp → Prop} (w : Walk J n G Y) {g : TG} {vs : List Nat} {σ : L2.St} {H0 : Hp} {Qd : Hp → Prop} {B : (Hp → Prop) → L2.St → Hp → Prop} (Pv : Nat → Hp → Prop) (h0 : Pv 0 H0) (hG : ∀ i H, i ≤ n → Pv i H → G H)
    (hs : ∀ i x H H', i < n → Pv i H → Y i H x H' → g x (wipe σ vs) H' fun σ2 H2 => B (Pv (i + 1)) σ2 H2) (hd : ∀ H, Pv n H → Qd H) :
    ∃ W : Nat → Nat → Hp → Prop, (∃ m, W 0 m H0) ∧ ∀ i m H, W i m H →
      (J.stop i H ∧ Qd H) ∨ (J.go i H ∧ ∃ Nx : Hp → Prop, (∀ H', Nx H' → ∃ m', m' < m ∧ W (i + 1) m' H') ∧ ∀ x H', J.yld i H x H' → g x (wipe σ vs) H' fun σ2 H2 => B Nx σ2 H2) := by
  refine ⟨fun i m H => m = n - i ∧ i ≤ n ∧ Pv i H, ⟨n, by simp, Nat.zero_le _, h0⟩, ?_⟩
  rintro i m H ⟨rfl, hi, p⟩
  have q := hG i H hi p
  by_cases hlt : i < n
  · refine .inr ⟨w.goes i H hlt q, Pv (i + 1), fun H' p' => ⟨n - (i + 1), by omega, rfl, hlt, p'⟩, fun x H' y => hs i x H H' hlt p (w.yields i H x H' hlt q y)⟩
  · have e : i = n := by omega
    subst e
    exact .inl ⟨w.stops H q, hd H p⟩
def lc2R (own own1 : List Nat) (t : SG) (c : SE) (it1 : SI) (t1 : SG) (c1 f : SE) (en : En) : List PyData → Sto → List PyData → Option (List PyData × Sto)
  | [], S, acc => some (acc, S)
  | d :: ds, S, acc => (t.run d (wipeE en own)).bind fun en1 => (c.run en1 S).bind fun p => (truth p.1 p.2).bind fun b =>
      if b = true then (it1.run en1 p.2).bind fun q => if (few q.1 && few acc) = true then (lcR own1 t1 c1 f en1 q.1 q.2 acc).bind fun r => lc2R own own1 t c it1 t1 c1 f en ds r.2 r.1 else none
      else lc2R own own1 t c it1 t1 c1 f en ds p.2 acc
theorem lc2R_mono {own own1 : List Nat} {t : SG} {c : SE} {it1 : SI} {t1 : SG} {c1 f : SE} {en : En} : ∀ {ds : List PyData} {S : Sto} {acc : List PyData} {r}, lc2R own own1 t c it1 t1 c1 f en ds S acc = some r → S.length ≤ r.2.length
  | [], S, acc, r, h => by cases h; exact Nat.le_refl _
  | d :: ds, S, acc, r, h => by
    obtain ⟨en1, h1, h⟩ := bind_some_of h
    obtain ⟨p, h2, h⟩ := bind_some_of h
    obtain ⟨b, h3, h⟩ := bind_some_of h
    have l := c.mono h2
    cases b with
    | true =>
      obtain ⟨q, h4, h⟩ := bind_some_of h
      have l2 := it1.mono h4
      split at h
      · obtain ⟨z, h5, h⟩ := bind_some_of h
        exact Nat.le_trans l (Nat.le_trans l2 (Nat.le_trans (lcR_mono h5) (lc2R_mono h)))
      · cases h
    | false => exact Nat.le_trans l (lc2R_mono h)
def sLc2 (mt : Bool) (own own1 : List Nat) (it : SI) (t : SG) (c : SE) (it1 : SI) (t1 : SG) (c1 f : SE) : SE := ⟨fun en S => (it.run en S).bind fun p => (lc2R own own1 t c it1 t1 c1 f en p.1 p.2 []).map fun q => mkL mt q.1 q.2, fun {en S w S'} e => by
  obtain ⟨p, h1, e⟩ := bind_some_of e
  obtain ⟨q, h2, e⟩ := Option.map_eq_some_iff.mp e
  have h3 := mkL_len (mt := mt) (ds := q.1) (S := q.2)
  rw [e] at h3
  exact Nat.le_trans (it.mono h1) (Nat.le_trans (lc2R_mono h2) h3)⟩
theorem lc2_imp {K : PySem.W.Frag} {mt : Bool} {own own1 : List Nat} {it it1 : SI} {t t1 : SG} {c c1 f : SE} {g g1 : TG} {tt tt1 : TT}
    (kg : ∀ (F H : Hp) (m : Nat → Addr × Bool) (n : Nat) (en en' : En) (σ : L2.St) (v : V) (d : PyData) (Q : L2.St → Hp → Prop), Same F H → ER K F m n en σ → At F v d → t.run d en = some en' →
      (∀ σ', ER K F m n en' σ' → Off t.ts σ σ' → Q σ' H) → g v σ H Q)
    (hts : ∀ j ∈ t.ts, j ∈ own) (kt : ∀ σ H Q, tIT K c σ H Q → tt σ H Q)
    (kg1 : ∀ (F H : Hp) (m : Nat → Addr × Bool) (n : Nat) (en en' : En) (σ : L2.St) (v : V) (d : PyData) (Q : L2.St → Hp → Prop), Same F H → ER K F m n en σ → At F v d → t1.run d en = some en' →
      (∀ σ', ER K F m n en' σ' → Off t1.ts σ σ' → Q σ' H) → g1 v σ H Q)
    (hts1 : ∀ j ∈ t1.ts, j ∈ own1) (kt1 : ∀ σ H Q, tIT K c1 σ H Q → tt1 σ H Q) :
    ∀ σ H Q, tI K (sLc2 mt own own1 it t c it1 t1 c1 f) σ H Q → tLc2 (tSI K it) g tt (tSI K it1) g1 tt1 (tI K f) own own1 σ H Q := by
  intro σ H Q ⟨F, m, S, P, en, w, S', rl, er, run, q⟩
  obtain ⟨⟨ds, S1⟩, h1, e⟩ := bind_some_of run
  obtain ⟨⟨out, S2⟩, h2, e⟩ := Option.map_eq_some_iff.mp e
  refine ⟨F, m, S, P, en, ds, S1, rl, er, h1, fun F1 m1 H1 J G Y u1 rl1 wk hG yl => fun D hD => ?_⟩
  have apD : Apart D P := fun p hp z => by
    have := (rl1.pn p hp).2.1
    rw [z, hD] at this
    cases this
  refine turns_it wk (B := fun Nx σ2 H2 => wipe σ2 own = wipe σ own ∧ tt σ2 H2 fun b H3 =>
    if b = true then (tSI K it1) σ2 H3 fun J1 H4 => ∃ W1 : Nat → Nat → Hp → Prop, (∃ m, W1 0 m H4) ∧ ∀ j k H, W1 j k H →
      (J1.stop j H ∧ Nx H) ∨ (J1.go j H ∧ ∃ Nx1 : Hp → Prop, (∀ H', Nx1 H' → ∃ k', k' < k ∧ W1 (j + 1) k' H') ∧ ∀ x H', J1.yld j H x H' → g1 x (wipe σ2 own1) H' fun σ3 H5 => wipe σ3 own1 = wipe σ2 own1 ∧ tt1 σ3 H5 fun b H6 =>
        if b = true then tI K f σ3 H6 fun y H7 => ∃ acc, H7 D = some (.lst acc) ∧ acc.length < sizeLine ∧ Nx1 (upd H7 D (.lst (acc ++ [y]))) else Nx1 H6)
    else Nx H3)
    (fun i H => ∃ F2 m2 S2' acc vs, Same F1 F2 ∧ Up F m S.length F2 m2 ∧ S.length ≤ S2'.length ∧ Rl F2 m2 S2' ((D, vs) :: P) H ∧ AtAll F2 vs acc ∧ ER K F2 m2 S2'.length en σ ∧ lc2R own own1 t c it1 t1 c1 f en (ds.drop i) S2' acc = some (out, S2))
    ⟨F1, m1, S1, [], [], Same.refl F1, u1, it.mono h1, rl1.pin hD [], .nil, er.up u1 (it.mono h1), h2⟩ (fun i H _ ⟨F2, m2, S2', acc, vs, s, _, _, rl2, _⟩ => hG F2 H s rl2.ex) ?_ ?_
  · rintro i x H2 H3 hi ⟨F2, m2, S3, acc, vs, s2, u2, l2, rl2, av, er2, e2⟩ hy
    obtain ⟨F3, d, s3, rl3, hd, at3⟩ := yl i F2 m2 S3 _ H2 x H3 s2 rl2 hi hy
    rw [drop_get hd] at e2
    obtain ⟨en1, g1', e3⟩ := bind_some_of e2
    obtain ⟨⟨x1, S4⟩, g2, e4⟩ := bind_some_of e3
    obtain ⟨b, g3, e5⟩ := bind_some_of e4
    have u3 : Up F2 m2 S3.length F3 m2 := ⟨s3, fun _ _ => rfl⟩
    have er3 := er2.up u3 (Nat.le_refl _)
    refine kg F3 H3 m2 S3.length (wipeE en own) en1 (wipe σ own) x d _ rl3.ex (er3.wipe own) at3 g1' fun σ3 er4 off => ⟨wipe_off off hts, ?_⟩
    refine kt σ3 H3 _ ⟨F3, m2, S3, (D, vs) :: P, en1, x1, S4, b, rl3, er4, g2, g3, fun F4 m4 H4 u4 rl4 => ?_⟩
    have l4 : S3.length ≤ S4.length := c.mono g2
    cases b with
    | false =>
      exact iteF ⟨F4, m4, S4, acc, vs, (s2.trans s3).trans u4.ex, (u2.trans u3 l2).trans u4 l2, Nat.le_trans l2 l4, rl4, (av.mono s3).mono u4.ex, er3.up u4 l4, e5⟩
    | true =>
      obtain ⟨⟨es, S5⟩, g4, e6⟩ := bind_some_of e5
      split at e6
      · rename_i hfew
        have hfew := (Bool.and_eq_true _ _).mp hfew
        have hes : es.length ≤ 100000 := of_decide_eq_true hfew.1
        have hac : acc.length ≤ 100000 := of_decide_eq_true hfew.2
        obtain ⟨⟨acc', S6⟩, g5, e7⟩ := bind_some_of e6
        have l5 : S4.length ≤ S5.length := it1.mono g4
        refine iteT ⟨F4, m4, S4, (D, vs) :: P, en1, es, S5, rl4, er4.up u4 l4, g4, fun F5 m5 H5 J1 G1 Y1 u5 rl5 wk1 hG1 yl1 => ?_⟩
        have er5 := er4.up u4 l4
        have av5 : AtAll F5 vs acc := ((av.mono s3).mono u4.ex).mono u5.ex
        refine turns_it wk1 (B := fun Nx1 σ3' H5 => wipe σ3' own1 = wipe σ3 own1 ∧ tt1 σ3' H5 fun b H6 =>
          if b = true then tI K f σ3' H6 fun y H7 => ∃ acc, H7 D = some (.lst acc) ∧ acc.length < sizeLine ∧ Nx1 (upd H7 D (.lst (acc ++ [y]))) else Nx1 H6)
          (fun j H => ∃ F6 m6 S6' acc6 vs6, Same F5 F6 ∧ Up F4 m4 S4.length F6 m6 ∧ S4.length ≤ S6'.length ∧ Rl F6 m6 S6' ((D, vs6) :: P) H ∧ AtAll F6 vs6 acc6 ∧ acc6.length ≤ acc.length + j ∧ lcR own1 t1 c1 f en1 (es.drop j) S6' acc6 = some (acc', S6))
          ⟨F5, m5, S5, acc, vs, Same.refl F5, u5, l5, rl5, av5, Nat.le_refl _, g5⟩ (fun j H _ ⟨F6, m6, S6', acc6, vs6, s, _, _, rl6, _⟩ => hG1 F6 H s rl6.ex) ?_ ?_
        · rintro j y H6 H7 hj ⟨F6, m6, S7, acc6, vs6, s6, u6, l6, rl6, av6, hl6, e8⟩ hy1
          obtain ⟨F7, d1, s7, rl7, hd1, at7⟩ := yl1 j F6 m6 S7 _ H6 y H7 s6 rl6 hj hy1
          rw [drop_get hd1] at e8
          obtain ⟨en2, k1, e9⟩ := bind_some_of e8
          obtain ⟨⟨x2, S8⟩, k2, e10⟩ := bind_some_of e9
          obtain ⟨b1, k3, e11⟩ := bind_some_of e10
          have u7 : Up F6 m6 S7.length F7 m6 := ⟨s7, fun _ _ => rfl⟩
          have er7 := (er5.up u6 l6).up u7 (Nat.le_refl _)
          refine kg1 F7 H7 m6 S7.length (wipeE en1 own1) en2 (wipe σ3 own1) y d1 _ rl7.ex (er7.wipe own1) at7 k1 fun σ4 er8 off1 => ⟨wipe_off off1 hts1, ?_⟩
          refine kt1 σ4 H7 _ ⟨F7, m6, S7, (D, vs6) :: P, en2, x2, S8, b1, rl7, er8, k2, k3, fun F8 m8 H8 u8 rl8 => ?_⟩
          have l8 : S7.length ≤ S8.length := c1.mono k2
          cases b1 with
          | false =>
            exact iteF ⟨F8, m8, S8, acc6, vs6, (s6.trans s7).trans u8.ex, (u6.trans u7 l6).trans u8 l6, Nat.le_trans l6 l8, rl8, (av6.mono s7).mono u8.ex, by omega, e11⟩
          | true =>
            obtain ⟨⟨z, S9⟩, k4, e12⟩ := bind_some_of e11
            obtain ⟨⟨d', S10⟩, k5, e13⟩ := bind_some_of e12
            have l9 : S8.length ≤ S9.length := f.mono k4
            have l10 : S9.length = S10.length := fz_len k5
            refine iteT ⟨F8, m8, S8, (D, vs6) :: P, en2, z, S9, rl8, er8.up u8 l8, k4, fun F9 m9 H9 v u9 rl9 wr9 => ?_⟩
            obtain ⟨F10, s10, rl10, at10⟩ := fz_ok rl9 wr9 k5
            have hDl := (rl10.pn (D, vs6) List.mem_cons_self).2.1
            have av10 : AtAll F10 vs6 acc6 := (((av6.mono s7).mono u8.ex).mono u9.ex).mono s10
            refine ⟨vs6, hDl, ?_, F10, m9, S10, acc6 ++ [d'], vs6 ++ [v], (((s6.trans s7).trans u8.ex).trans u9.ex).trans s10, ?_, by omega, rl10.repin apD _, av10.append (.cons at10 .nil), by rw [List.length_append, List.length_singleton]; omega, e13⟩
            · rw [av10.length]
              show acc6.length < 16777216
              omega
            · exact (((u6.trans u7 l6).trans u8 l6).trans u9 (by omega)).trans ⟨s10, fun _ _ => rfl⟩ (by omega)
        · rintro H6 ⟨F6, m6, S7, acc6, vs6, s6, u6, l6, rl6, av6, hl6, e8⟩
          rw [List.drop_length] at e8
          cases e8
          exact ⟨F6, m6, S6, acc', vs6, (((s2.trans s3).trans u4.ex).trans u5.ex).trans s6, ((u2.trans u3 l2).trans u4 l2).trans u6 (by omega), by omega, rl6, av6, (er3.up u4 l4).up u6 l6, e7⟩
      · cases e6
  · rintro H2 ⟨F2, m2, S3, acc, vs, s2, u2, l2, rl2, av, er2, e2⟩
    rw [List.drop_length] at e2
    cases e2
    obtain ⟨F4, m4, u4, rl4, wr4⟩ := rl2.unpin (K := K) mt apD av
    have e' : mkL mt out S2 = (w, S') := e
    rw [e'] at rl4 wr4
    exact q F4 m4 H2 (.ref D) (u2.trans u4 l2) rl4 wr4
section
variable {X : Cx} {elt tg iter tg1 iter1 : Expr} {ifs ifs1 : List Expr} {scope : Scope} {own : List (Str × Nat)} {own1 : List Nat} {pos spos : Pos} {it it1 : SI} {t t1 : SG} {c c1 f : SE} {g g1 : TG} {tt tt1 : TT}
theorem z_lc2 (mt : Bool) (hc : X.calm = true) (hN : X.N.Nodup) (hi : ZI X tg iter it) (ok : BlkOk X.N X.env.scope scope own) (hv : (own1.all fun j => (own.map (·.2)).contains j) = true)
    (hg : ∀ (s : Shared) (H : Hp) (C : Addr) (cl : List (Str × Addr)) (fp : List Addr), PG (X.blk s H scope (compEnvC scope cl C X.env) fp) tg g)
    (kg : KG X.K g t) (hts : (t.ts.all fun j => (own.map (·.2)).contains j) = true)
    (ht : ∀ (s : Shared) (H : Hp) (C : Addr) (cl : List (Str × Addr)) (fp : List Addr), PTs (X.blk s H scope (compEnvC scope cl C X.env) fp) ifs tt) (kt : ∀ σ H Q, tIT X.K c σ H Q → tt σ H Q)
    (hi1 : ∀ (s : Shared) (H : Hp) (C : Addr) (cl : List (Str × Addr)) (fp : List Addr), ZI (X.blk s H scope (compEnvC scope cl C X.env) fp) tg1 iter1 it1)
    (hg1 : ∀ (s : Shared) (H : Hp) (C : Addr) (cl : List (Str × Addr)) (fp : List Addr), PG (X.blk s H scope (compEnvC scope cl C X.env) fp) tg1 g1)
    (kg1 : KG X.K g1 t1) (hts1 : (t1.ts.all fun j => own1.contains j) = true)
    (ht1 : ∀ (s : Shared) (H : Hp) (C : Addr) (cl : List (Str × Addr)) (fp : List Addr), PTs (X.blk s H scope (compEnvC scope cl C X.env) fp) ifs1 tt1) (kt1 : ∀ σ H Q, tIT X.K c1 σ H Q → tt1 σ H Q)
    (he : ∀ (s : Shared) (H : Hp) (C : Addr) (cl : List (Str × Addr)) (fp : List Addr), PE (X.blk s H scope (compEnvC scope cl C X.env) fp) elt (tI X.K f)) (hs : ∀ x, foldedSetIterable iter X.env x = pure x := by intro _; rfl) (hs1 : ∀ env x, foldedSetIterable iter1 env x = pure x := by intro _ _; rfl) :
    PE X (.ListComp elt [⟨tg, iter, ifs, 0⟩, ⟨tg1, iter1, ifs1, 0⟩] scope pos) (tI X.K (sLc2 mt (own.map (·.2)) own1 it t c it1 t1 c1 f)) :=
  pe_imp (pe_lc2 hc hN (pi_si hi) ok (hts_of hv) hg ht (fun s H C cl fp => pi_si (hi1 s H C cl fp)) hg1 ht1 he hs hs1) (lc2_imp kg (hts_of hts) kt kg1 (hts_of hts1) kt1)
theorem y_setLc2 {i : Nat} {y : Str} {py : Pos} (mt : Bool) (hc : X.calm = true) (hN : X.N.Nodup) (hy : X.N[i]? = some y) (hyl : X.env.scope.names.lookup y = some .local)
    (hsw : swapsWith (.ListComp elt [⟨tg, iter, ifs, 0⟩, ⟨tg1, iter1, ifs1, 0⟩] scope pos) (some (.Name y py)) spos.line X.env = pure true) (hi : ZI X tg iter it) (ok : BlkOk X.N X.env.scope scope own) (hv : (own1.all fun j => (own.map (·.2)).contains j) = true)
    (hg : ∀ (s : Shared) (H : Hp) (C : Addr) (cl : List (Str × Addr)) (fp : List Addr), PG (X.blk s H scope (compEnvC scope cl C X.env) fp) tg g)
    (kg : KG X.K g t) (hts : (t.ts.all fun j => (own.map (·.2)).contains j) = true)
    (ht : ∀ (s : Shared) (H : Hp) (C : Addr) (cl : List (Str × Addr)) (fp : List Addr), PTs (X.blk s H scope (compEnvC scope cl C X.env) fp) ifs tt) (kt : ∀ σ H Q, tIT X.K c σ H Q → tt σ H Q)
    (hi1 : ∀ (s : Shared) (H : Hp) (C : Addr) (cl : List (Str × Addr)) (fp : List Addr), ZI (X.blk s H scope (compEnvC scope cl C X.env) fp) tg1 iter1 it1)
    (hg1 : ∀ (s : Shared) (H : Hp) (C : Addr) (cl : List (Str × Addr)) (fp : List Addr), PG (X.blk s H scope (compEnvC scope cl C X.env) fp) tg1 g1)
    (kg1 : KG X.K g1 t1) (hts1 : (t1.ts.all fun j => own1.contains j) = true)
    (ht1 : ∀ (s : Shared) (H : Hp) (C : Addr) (cl : List (Str × Addr)) (fp : List Addr), PTs (X.blk s H scope (compEnvC scope cl C X.env) fp) ifs1 tt1) (kt1 : ∀ σ H Q, tIT X.K c1 σ H Q → tt1 σ H Q)
    (he : ∀ (s : Shared) (H : Hp) (C : Addr) (cl : List (Str × Addr)) (fp : List Addr), PE (X.blk s H scope (compEnvC scope cl C X.env) fp) elt (tI X.K f)) (hs : ∀ x, foldedSetIterable iter X.env x = pure x := by intro _; rfl) (hs1 : ∀ env x, foldedSetIterable iter1 env x = pure x := by intro _ _; rfl) :
    PS X (.Assign [.Name y py] (.ListComp elt [⟨tg, iter, ifs, 0⟩, ⟨tg1, iter1, ifs1, 0⟩] scope pos) spos) (tS X.K (gSet i (sLc2 mt (own.map (·.2)) own1 it t c it1 t1 c1 f))) :=
  y_setT (ps_imp (ps_setLc2 hc hN hy hyl hsw (pi_si hi) ok (hts_of hv) hg ht (fun s H C cl fp => pi_si (hi1 s H C cl fp)) hg1 ht1 he hs hs1) fun D σ H h => lc2_imp kg (hts_of hts) kt kg1 (hts_of hts1) kt1 σ H _ h)
end
@[simp] theorem r_lc2 {mt : Bool} {own own1 : List Nat} {it it1 : SI} {t t1 : SG} {c c1 f : SE} {en : En} {S : Sto} : (sLc2 mt own own1 it t c it1 t1 c1 f).run en S = (it.run en S).bind fun p => (lc2R own own1 t c it1 t1 c1 f en p.1 p.2 []).map fun q => mkL mt q.1 q.2 := rfl
/-- two fors without tests: what each outer thing gives; the store may grow -/
theorem lc2_all {own own1 : List Nat} {it1 : SI} {t t1 : SG} {f : SE} {en : En} {α β : Type} (xs : List α) (enc : α → PyData) (ys : α → List β) (enc1 : β → PyData) (res : α → β → PyData)
    (hx : ∀ x ∈ xs, ∀ S, ∃ en1 S', t.run (enc x) (wipeE en own) = some en1 ∧ it1.run en1 S = some ((ys x).map enc1, S') ∧ Ext S S' ∧ (ys x).length ≤ 100000 ∧ ∀ y ∈ ys x, ∃ en2, t1.run (enc1 y) (wipeE en1 own1) = some en2 ∧ f.run en2 S' = some (.pu (res x y), S')) :
    ∀ (acc : List PyData) (S : Sto), acc.length + (xs.flatMap fun x => (ys x).map (res x)).length ≤ 100000 → ∃ S', lc2R own own1 t sYes it1 t1 sYes f en (xs.map enc) S acc = some (acc ++ xs.flatMap fun x => (ys x).map (res x), S') ∧ Ext S S' := by
  induction xs with
  | nil => intro acc S _; exact ⟨S, by show some (acc, S) = _; simp, Ext.refl S⟩
  | cons x xs ih =>
    intro acc S hl
    obtain ⟨en1, S1, h1, h2, hE, h3, h4⟩ := hx x List.mem_cons_self S
    rw [List.flatMap_cons, List.length_append, List.length_map] at hl
    have inner : ∀ (zs : List β) (acc : List PyData), (∀ y ∈ zs, ∃ en2, t1.run (enc1 y) (wipeE en1 own1) = some en2 ∧ f.run en2 S1 = some (.pu (res x y), S1)) → lcR own1 t1 sYes f en1 (zs.map enc1) S1 acc = some (acc ++ zs.map (res x), S1) := by
      intro zs
      induction zs with
      | nil => intro acc _; show some (acc, S1) = _; simp
      | cons z zs ih2 =>
        intro acc hz
        obtain ⟨en2, k1, k2⟩ := hz z List.mem_cons_self
        rw [List.map_cons, lcR_cons, k1, Option.bind_some, r_yes, Option.bind_some, truth_bool, Option.bind_some, if_pos rfl, k2, Option.bind_some, fz_pu, Option.bind_some, ih2 _ fun y hy => hz y (List.mem_cons_of_mem _ hy)]
        simp
    have e : lc2R own own1 t sYes it1 t1 sYes f en ((x :: xs).map enc) S acc = (t.run (enc x) (wipeE en own)).bind fun en1 => (sYes.run en1 S).bind fun p => (truth p.1 p.2).bind fun b =>
      if b = true then (it1.run en1 p.2).bind fun q => if (few q.1 && few acc) = true then (lcR own1 t1 sYes f en1 q.1 q.2 acc).bind fun r => lc2R own own1 t sYes it1 t1 sYes f en (xs.map enc) r.2 r.1 else none
      else lc2R own own1 t sYes it1 t1 sYes f en (xs.map enc) p.2 acc := rfl
    obtain ⟨S2, r, hE2⟩ := ih (fun y hy => hx y (List.mem_cons_of_mem _ hy)) (acc ++ (ys x).map (res x)) S1 (by rw [List.length_append, List.length_map]; omega)
    refine ⟨S2, ?_, hE.trans hE2⟩
    rw [e, h1, Option.bind_some, r_yes, Option.bind_some, truth_bool, Option.bind_some, if_pos rfl, h2, Option.bind_some]
    have fw : (few ((ys x).map enc1) && few acc) = true := by
      rw [Bool.and_eq_true]
      exact ⟨decide_eq_true (by rw [List.length_map]; exact h3), decide_eq_true (by omega)⟩
    rw [if_pos fw, inner _ _ h4, Option.bind_some]
    show lc2R own own1 t sYes it1 t1 sYes f en (xs.map enc) S1 (acc ++ (ys x).map (res x)) = _
    rw [r]
    simp
end Z

namespace Z
open PySem L2 PyProof.Rows
/-! ### sorted numbers -/
def insI (x : Int) : List Int → List Int
  | [] => [x]
  | y :: ys => if x ≤ y then x :: y :: ys else y :: insI x ys
def sortI : List Int → List Int
  | [] => []
  | x :: xs => insI x (sortI xs)
theorem insI_perm (x : Int) : ∀ ys, (insI x ys).Perm (x :: ys)
  | [] => .refl _
  | y :: ys => by
    unfold insI
    split
    · exact .refl _
    · exact ((insI_perm x ys).cons y).trans (.swap x y ys)
theorem sortI_perm : ∀ xs, (sortI xs).Perm xs
  | [] => .refl _
  | x :: xs => (insI_perm x (sortI xs)).trans ((sortI_perm xs).cons x)
theorem insI_pw (x : Int) : ∀ ys, ys.Pairwise (· ≤ ·) → (insI x ys).Pairwise (· ≤ ·)
  | [], _ => by simp [insI]
  | y :: ys, h => by
    have h' := List.pairwise_cons.mp h
    unfold insI
    split
    · rename_i c
      exact List.pairwise_cons.mpr ⟨fun z hz => by
        rcases List.mem_cons.mp hz with rfl | hz
        · exact c
        · exact Int.le_trans c (h'.1 z hz), h⟩
    · rename_i c
      exact List.pairwise_cons.mpr ⟨fun z hz => by
        rcases List.mem_cons.mp ((insI_perm x ys).mem_iff.mp hz) with rfl | hz
        · omega
        · exact h'.1 z hz, insI_pw x ys h'.2⟩
theorem sortI_pw : ∀ xs, (sortI xs).Pairwise (· ≤ ·)
  | [] => .nil
  | x :: xs => insI_pw x _ (sortI_pw xs)
theorem sortI_uniq {xs ys : List Int} (h : ys.Perm xs) (s : ys.Pairwise (· ≤ ·)) : ys = sortI xs :=
  (h.trans (sortI_perm xs).symm).eq_of_pairwise (le := (· ≤ ·)) (fun a b _ _ h1 h2 => Int.le_antisymm h1 h2) s (sortI_pw xs)
def lookS (x : W) (S : Sto) : Option (List PyData) := match x with
  | .pu (.tuple _) => none
  | x => lookL x S
theorem vals_ints {F : Hp} : ∀ {vs : List V} {ns : List Int}, AtAll F vs (dI ns) → vs = ns.map V.int
  | _, [], h => by cases h; rfl
  | _, n :: ns, h => by
    cases h with
    | cons a b =>
      cases a
      rw [vals_ints b]
      rfl
def sSorted (mt : Bool) (f : SE) : SE := ⟨fun en S => (f.run en S).bind fun p => (lookS p.1 p.2).bind fun ds => (intsOf ds).map fun ns => mkL mt (dI (sortI ns)) p.2, fun {en S w S'} e => by
  obtain ⟨p, h1, e⟩ := bind_some_of e
  obtain ⟨ds, h2, e⟩ := bind_some_of e
  obtain ⟨ns, h3, e⟩ := Option.map_eq_some_iff.mp e
  have := mkL_len (mt := mt) (ds := dI (sortI ns)) (S := p.2)
  rw [e] at this
  exact Nat.le_trans (f.mono h1) this⟩
section
variable {X : Cx} {e : Expr} {f : SE} {p pos : Pos}
theorem lookS_ok {K : PySem.W.Frag} {F : Hp} {m : Nat → Addr × Bool} {S : Sto} {P : Pn} {H : Hp} {v : V} {w : W} {ds : List PyData} (rl : Rl F m S P H) (wr : WR K F m S.length v w) (h : lookS w S = some ds) : ∃ a vs, v = .ref a ∧ SqL K H a vs ∧ AtAll F vs ds := by
  cases w with
  | pu d =>
    cases d with
    | list es =>
      have h : some es = some ds := h
      cases h
      cases wr with
      | lst g1 g2 => exact ⟨_, _, rfl, SqL.of (rl.ex _ _ g1), g2⟩
    | _ => cases h
  | mu i =>
    have h : (S[i]?).map (fun p => p.2) = some ds := h
    obtain ⟨⟨b, ys⟩, g, e⟩ := Option.map_eq_some_iff.mp h
    have e : ys = ds := e
    subst e
    obtain ⟨w1, _, hk⟩ := wr
    cases b with
    | true =>
      obtain ⟨us, k1, k2, k3⟩ := rl.mt i ys g hk
      exact ⟨_, us, w1, SqL.of k3, k1⟩
    | false =>
      obtain ⟨us, k1, k2⟩ := rl.fr i ys g
      exact ⟨_, us, w1, SqL.of (rl.ex _ _ k2), k1⟩
  | sq ns =>
    have h : some (ns.map PyData.int) = some ds := h
    cases h
    obtain ⟨p, rfl, g1⟩ := wr
    exact ⟨p, _, rfl, rl.ex.seq g1, AtAll.of_ints ns⟩
  | ml is => cases h
  | dk j => cases h
theorem z_sorted (mt : Bool) (hg : Gl X "sorted") (hm : X.mg "sorted" = none) (ha : PE X e (tI X.K f)) (he : starEach [e] X.env = (false, eval e X.env) :: starEach [] X.env := by rfl) (hpl : (backTo pos (starEach [] X.env)).any (·.1) = false := by rfl) :
    PE X (.Call (.Name "sorted" p) [e] [] pos) (tI X.K (sSorted mt f)) := by
  refine pe_imp (pe_callB cr_sortedI hg hm (by decide +kernel) (pa_cons ha pa_nil he) (by decide) (by decide) he hpl) fun σ H Q ⟨F, m, S, P, en, w, S', rl, er, run, q⟩ => ?_
  obtain ⟨⟨x, S1⟩, h1, e⟩ := bind_some_of run
  obtain ⟨ds, h2, e⟩ := bind_some_of e
  obtain ⟨ns, h3, e⟩ := Option.map_eq_some_iff.mp e
  refine ⟨F, m, S, P, en, x, S1, rl, er, h1, fun F1 m1 H1 v u1 rl1 wr1 => ?_⟩
  obtain ⟨a, vs, rfl, g1, g2⟩ := lookS_ok rl1 wr1 h2
  rw [intsOf_eq h3] at g2
  rw [vals_ints g2] at g1
  refine ⟨a, ns, rfl, g1, fun ns' p' hp hs hf => ?_⟩
  rw [sortI_uniq hp hs]
  refine mkL_ok (K := X.K) (mt := mt) rl1 (AtAll.of_ints (sortI ns)) (fun F4 m4 H4 v4 u4 rl4 wr4 => ?_) p' hf
  have e' : mkL mt (dI (sortI ns)) S1 = (w, S') := e
  rw [e'] at rl4 wr4
  exact q F4 m4 H4 v4 (u1.trans u4 (f.mono h1)) rl4 wr4
end
/-! ### x.pop(i), as a value -/
theorem AtAll.erase {F : Hp} : ∀ (n : Nat) {vs : List V} {ds : List PyData}, AtAll F vs ds → AtAll F (vs.eraseIdx n) (ds.eraseIdx n)
  | _, _, _, .nil => by simp; exact .nil
  | 0, _, _, .cons _ b => b
  | n + 1, _, _, .cons a b => .cons a (AtAll.erase n b)
def sPopAt (i : Nat) (k : SE) : SE := ⟨fun en S => (k.run en S).bind fun p => match en[i]?, p.1 with
  | some (some (.mu j)), .pu (.int z) => match p.2[j]? with
    | some (true, ds) => if few ds = true then (ixN ds.length z).bind fun n => (ds[n]?).map fun d => (.pu d, p.2.set j (true, ds.eraseIdx n)) else none
    | _ => none
  | _, _ => none, fun {en S w S'} e => by
  obtain ⟨p, h1, e⟩ := bind_some_of e
  have l := k.mono h1
  split at e
  · split at e
    · split at e
      · obtain ⟨n, h4, e⟩ := bind_some_of e
        obtain ⟨d, h5, e⟩ := Option.map_eq_some_iff.mp e
        cases e
        rw [List.length_set]
        exact l
      · cases e
    · cases e
  · cases e⟩
theorem z_popAt {X : Cx} {e : Expr} {x : Str} {i : Nat} {px apos cpos : Pos} {f : SE} (he : PE X e (tI X.K f)) (hv : PE X (.Name x px) (tVar i))
    (hp : ∀ {to t}, PE X (.Name x px) to → PA X [e] t → PE X (.Call (.Attribute (.Name x px) "pop" apos) [e] [] cpos) (tBM X.K "list" rPopAt to t)) (hs : starEach [e] X.env = (false, eval e X.env) :: starEach [] X.env := by rfl) :
    PE X (.Call (.Attribute (.Name x px) "pop" apos) [e] [] cpos) (tI X.K (sPopAt i f)) := by
  refine pe_imp (hp hv (pa_cons he pa_nil hs)) fun σ H Q ⟨F, m, S, P, en, r, S', rl, er, run, q⟩ => ?_
  obtain ⟨⟨w, S1⟩, h1, e⟩ := bind_some_of run
  split at e
  · rename_i j z hj hz
    split at e
    · rename_i ds hds
      split at e
      · rename_i hfew
        obtain ⟨n, hn, e⟩ := bind_some_of e
        obtain ⟨d, hd, e⟩ := Option.map_eq_some_iff.mp e
        cases e
        have hS : ∃ b xs, S[j]? = some (b, xs) := by
          have := (er_mu er hj).2.1
          exact ⟨_, _, List.getElem?_eq_getElem this⟩
        obtain ⟨b, xs, hS⟩ := hS
        refine ⟨.ref (m j).1, (er_mu er hj).1, ?_, F, m, S, P, en, w, S1, rl, er, h1, fun F1 m1 H1 v u1 rl1 wr1 => ?_⟩
        · cases b with
          | true =>
            obtain ⟨vs, g1, g2, g3⟩ := rl.mt j _ hS (er_mu er hj).2.2
            exact .inl ⟨rfl, vs, SqL.of g3⟩
          | false =>
            obtain ⟨vs, g1, g2⟩ := rl.fr j _ hS
            exact .inl ⟨rfl, vs, SqL.of (rl.ex _ _ g2)⟩
        · have hw : w = .pu (.int z) := hz
          subst hw
          cases wr1
          have mj : m1 j = m j := u1.ag j (er_mu er hj).2.1
          have kj : (m1 j).2 = false := by rw [mj]; exact (er_mu er hj).2.2
          obtain ⟨vs, g1, g2, g3⟩ := rl1.mt j ds hds kj
          rw [mj] at g2 g3
          obtain ⟨y, hy, aty⟩ := g1.get hd
          have hl : ds.length ≤ 100000 := of_decide_eq_true hfew
          obtain ⟨q1, q2, q3, q4⟩ := ixN_seq hn
          refine ⟨(m j).1, vs, z, n, y, rfl, rfl, g3, by omega, by omega, by rw [g1.length]; exact q1, hy, ?_⟩
          have rl4 := rl1.write hds kj (AtAll.erase n g1)
          rw [mj] at rl4
          exact q F1 m1 _ _ u1 rl4 aty
      · cases e
    · cases e
  · cases e
section
variable {mt : Bool} {f k : SE} {en : En} {S : Sto} {i : Nat}
@[simp] theorem r_sorted : (sSorted mt f).run en S = (f.run en S).bind fun p => (lookS p.1 p.2).bind fun ds => (intsOf ds).map fun ns => mkL mt (dI (sortI ns)) p.2 := rfl
@[simp] theorem lookS_l {ds : List PyData} : lookS (.pu (.list ds)) S = some ds := rfl
theorem lookS_mu {j : Nat} {b : Bool} {ds : List PyData} (h : S[j]? = some (b, ds)) : lookS (.mu j) S = some ds := by
  show (S[j]?).map _ = _
  rw [h]
  rfl
def popK (x : Option (Option W)) (z : W) (S : Sto) : Option (W × Sto) := match x, z with
  | some (some (.mu j)), .pu (.int z) => match S[j]? with
    | some (true, ds) => if few ds = true then (ixN ds.length z).bind fun n => (ds[n]?).map fun d => (.pu d, S.set j (true, ds.eraseIdx n)) else none
    | _ => none
  | _, _ => none
@[simp] theorem r_popAt : (sPopAt i k).run en S = (k.run en S).bind fun p => popK en[i]? p.1 p.2 := rfl
theorem popK_at {j n : Nat} {ds : List PyData} {d : PyData} (h : S[j]? = some (true, ds)) (hl : ds.length ≤ 100000) (hd : ds[n]? = some d) : popK (some (some (.mu j))) (.pu (.int (n : Nat))) S = some (.pu d, S.set j (true, ds.eraseIdx n)) := by
  have hn : n < ds.length := (List.getElem?_eq_some_iff.mp hd).1
  have hi : ixN ds.length ((n : Nat) : Int) = some n := by
    unfold ixN
    rw [if_pos (by omega), if_pos (by omega), Int.toNat_natCast]
  show (match S[j]? with
    | some (true, ds) => if few ds = true then (ixN ds.length ((n : Nat) : Int)).bind fun n => (ds[n]?).map fun d => (W.pu d, S.set j (true, ds.eraseIdx n)) else none
    | _ => none) = _
  rw [h]
  show (if few ds = true then _ else none) = _
  rw [if_pos (show few ds = true from decide_eq_true hl), hi, Option.bind_some, hd]
  rfl
end
end Z

namespace Z
open PySem L2 PyProof.Rows
/-! ### draws, each beside what it was drawn for -/
theorem lcR_drawP {α β : Type} {own : List Nat} {t : SG} {f : SE} {en : En} {b : Nat} {c : Int} (enc : α → PyData) (res : β → PyData) (Q : α → β → Prop) (c0 : 0 ≤ c) (c1 : c ≤ 2 ^ 30) : ∀ (xs : List α) (S : Sto) (B : Int) (acc : List PyData), (∀ x ∈ xs, ∀ S B, BS b B S → 0 ≤ B → B ≤ 2 ^ 57 → ∃ en1 y S', t.run (enc x) (wipeE en own) = some en1 ∧ f.run en1 S = some (.pu (res y), S') ∧ Q x y ∧ BS b (B + c) S' ∧ Z.Fr b S S') → BS b B S → 0 ≤ B → B + xs.length * c ≤ 2 ^ 57 →
    ∃ ys S', lcR own t sYes f en (xs.map enc) S acc = some (acc ++ ys.map res, S') ∧ Paired Q xs ys ∧ BS b (B + xs.length * c) S' ∧ Z.Fr b S S'
  | [], S, B, acc, _, h, _, _ => ⟨[], S, by show some (acc, S) = _; simp, .nil, by simpa using h, Fr.refl _ _⟩
  | d :: ds, S, B, acc, hf, h, h0, hB => by
    have e : ((d :: ds).length : Int) * c = c + ds.length * c := by rw [List.length_cons, Int.natCast_add, Int.add_mul]; omega
    have hn : 0 ≤ (ds.length : Int) * c := Int.mul_nonneg (by omega) c0
    rw [e] at hB ⊢
    obtain ⟨en1, x, S1, t1, e1, q1, b1, f1⟩ := hf d List.mem_cons_self S B h h0 (by omega)
    obtain ⟨xs, S2, e2, q2, b2, f2⟩ := lcR_drawP enc res Q c0 c1 ds S1 (B + c) (acc ++ [res x]) (fun d' hd' => hf d' (List.mem_cons_of_mem _ hd')) b1 (by omega) (by omega)
    refine ⟨x :: xs, S2, ?_, .cons q1 q2, b2.mono (by omega), f1.trans f2⟩
    rw [List.map_cons, lcR_cons, t1, Option.bind_some, r_yes, Option.bind_some, truth_bool, Option.bind_some, if_pos rfl, e1, Option.bind_some, fz_pu, Option.bind_some, e2]
    simp
theorem lc_drawP {α β : Type} {own : List Nat} {t : SG} {f : SE} {it : SI} {en : En} {b : Nat} {c B : Int} {S S0 : Sto} {xs : List α} (enc : α → PyData) (res : β → PyData) (Q : α → β → Prop) (c0 : 0 ≤ c) (c1 : c ≤ 2 ^ 30) (hi : it.run en S0 = some (xs.map enc, S)) (hl : xs.length ≤ 1000) (hf : ∀ x ∈ xs, ∀ S B, BS b B S → 0 ≤ B → B ≤ 2 ^ 57 → ∃ en1 y S', t.run (enc x) (wipeE en own) = some en1 ∧ f.run en1 S = some (.pu (res y), S') ∧ Q x y ∧ BS b (B + c) S' ∧ Z.Fr b S S') (h : BS b B S) (h0 : 0 ≤ B) (hB : B ≤ 2 ^ 56) :
    ∃ ys S', (sLc false own it t sYes f).run en S0 = some (.pu (.list (ys.map res)), S') ∧ Paired Q xs ys ∧ BS b (B + xs.length * c) S' ∧ Z.Fr b S S' := by
  have hc : (xs.length : Int) * c ≤ 1000 * c := Int.mul_le_mul_of_nonneg_right (by omega) c0
  obtain ⟨ys, S', e, r⟩ := lcR_drawP enc res Q c0 c1 xs S B [] hf h h0 (by omega)
  refine ⟨ys, S', ?_, r⟩
  rw [r_lc, hi, Option.bind_some]
  show (if few (xs.map enc) = true then _ else none) = _
  rw [if_pos (show few (xs.map enc) = true from decide_eq_true (by rw [List.length_map]; omega)), e]
  rfl
theorem pair_at {α β : Type} {Q : α → β → Prop} {xs : List α} {ys : List β} (h : Paired Q xs ys) : ∀ y ∈ ys, ∃ x ∈ xs, Q x y := by
  induction h with
  | nil => intro y hy; cases hy
  | cons a _ ih =>
    intro y hy
    rcases List.mem_cons.mp hy with rfl | hy
    · exact ⟨_, List.mem_cons_self, a⟩
    · obtain ⟨x, hx, q⟩ := ih y hy
      exact ⟨x, List.mem_cons_of_mem _ hx, q⟩
theorem pair_map {α β γ : Type} {Q : α → β → Prop} {f : α → γ} {g : β → γ} (hq : ∀ x y, Q x y → f x = g y) {xs : List α} {ys : List β} (h : Paired Q xs ys) : xs.map f = ys.map g := by
  induction h with
  | nil => rfl
  | cons a _ ih => rw [List.map_cons, List.map_cons, ih, hq _ _ a]
theorem pair_len {α β : Type} {Q : α → β → Prop} {xs : List α} {ys : List β} (h : Paired Q xs ys) : xs.length = ys.length := Paired.length h
/-! ### two fors, the store as it was -/
theorem lc2_pure {own own1 : List Nat} {it1 : SI} {t t1 : SG} {f : SE} {en : En} {α β : Type} {S : Sto} (xs : List α) (enc : α → PyData) (ys : α → List β) (enc1 : β → PyData) (res : α → β → PyData)
    (hx : ∀ x ∈ xs, ∃ en1, t.run (enc x) (wipeE en own) = some en1 ∧ it1.run en1 S = some ((ys x).map enc1, S) ∧ (ys x).length ≤ 100000 ∧ ∀ y ∈ ys x, ∃ en2, t1.run (enc1 y) (wipeE en1 own1) = some en2 ∧ f.run en2 S = some (.pu (res x y), S)) :
    ∀ (acc : List PyData), acc.length + (xs.flatMap fun x => (ys x).map (res x)).length ≤ 100000 → lc2R own own1 t sYes it1 t1 sYes f en (xs.map enc) S acc = some (acc ++ xs.flatMap fun x => (ys x).map (res x), S) := by
  induction xs with
  | nil => intro acc _; show some (acc, S) = _; simp
  | cons x xs ih =>
    intro acc hl
    obtain ⟨en1, h1, h2, h3, h4⟩ := hx x List.mem_cons_self
    rw [List.flatMap_cons, List.length_append, List.length_map] at hl
    have inner : ∀ (zs : List β) (acc : List PyData), (∀ y ∈ zs, ∃ en2, t1.run (enc1 y) (wipeE en1 own1) = some en2 ∧ f.run en2 S = some (.pu (res x y), S)) → lcR own1 t1 sYes f en1 (zs.map enc1) S acc = some (acc ++ zs.map (res x), S) := by
      intro zs
      induction zs with
      | nil => intro acc _; show some (acc, S) = _; simp
      | cons z zs ih2 =>
        intro acc hz
        obtain ⟨en2, k1, k2⟩ := hz z List.mem_cons_self
        rw [List.map_cons, lcR_cons, k1, Option.bind_some, r_yes, Option.bind_some, truth_bool, Option.bind_some, if_pos rfl, k2, Option.bind_some, fz_pu, Option.bind_some, ih2 _ fun y hy => hz y (List.mem_cons_of_mem _ hy)]
        simp
    have e : lc2R own own1 t sYes it1 t1 sYes f en ((x :: xs).map enc) S acc = (t.run (enc x) (wipeE en own)).bind fun en1 => (sYes.run en1 S).bind fun p => (truth p.1 p.2).bind fun b =>
      if b = true then (it1.run en1 p.2).bind fun q => if (few q.1 && few acc) = true then (lcR own1 t1 sYes f en1 q.1 q.2 acc).bind fun r => lc2R own own1 t sYes it1 t1 sYes f en (xs.map enc) r.2 r.1 else none
      else lc2R own own1 t sYes it1 t1 sYes f en (xs.map enc) p.2 acc := rfl
    have r := ih (fun y hy => hx y (List.mem_cons_of_mem _ hy)) (acc ++ (ys x).map (res x)) (by rw [List.length_append, List.length_map]; omega)
    rw [e, h1, Option.bind_some, r_yes, Option.bind_some, truth_bool, Option.bind_some, if_pos rfl, h2, Option.bind_some]
    have fw : (few ((ys x).map enc1) && few acc) = true := by
      rw [Bool.and_eq_true]
      exact ⟨decide_eq_true (by rw [List.length_map]; exact h3), decide_eq_true (by omega)⟩
    rw [if_pos fw, inner _ _ h4, Option.bind_some]
    show lc2R own own1 t sYes it1 t1 sYes f en (xs.map enc) S (acc ++ (ys x).map (res x)) = _
    rw [r]
    simp
end Z

namespace Z
open PySem L2 PyProof.Rows
/-! ### values whatever the store: it only grows -/
def Pu (f : SE) (en : En) (x : PyData) : Prop := ∀ S, ∃ S1, Ext S S1 ∧ f.run en S = some (.pu x, S1)
def Pus (r : SA) (en : En) (xs : List PyData) : Prop := ∀ S, ∃ S1, Ext S S1 ∧ r.run en S = some (xs.map .pu, S1)
def FPu (F : FS) (ws : List W) (x : PyData) : Prop := ∀ S, ∃ S1, Ext S S1 ∧ F.run ws S = some (.pu x, S1)
section
variable {f g : SE} {r : SA} {F : FS} {ws : List W} {en : En} {x y : PyData} {xs : List PyData}
theorem pus_nil : Pus aNil en [] := fun S => ⟨S, .refl S, rfl⟩
theorem pus_cons (h : Pu f en x) (k : Pus r en xs) : Pus (aCons f r) en (x :: xs) := fun S => by
  obtain ⟨S1, x1, e1⟩ := h S
  obtain ⟨S2, x2, e2⟩ := k S1
  refine ⟨S2, x1.trans x2, ?_⟩
  rw [r_acons, e1, Option.bind_some, e2]
  rfl
theorem fzs_pus : ∀ (xs : List PyData) (S : Sto), fzs (xs.map .pu) S = some (xs, S)
  | [], S => rfl
  | x :: xs, S => by rw [List.map_cons, fzs_pu, fzs_pus xs S]; rfl
theorem pu_lst (k : Pus r en xs) (hl : xs.length ≤ 100000 := by decide) : Pu (sLst false r) en (.list xs) := fun S => by
  obtain ⟨S1, x1, e1⟩ := k S
  refine ⟨S1, x1, ?_⟩
  rw [r_lst, e1, Option.bind_some]
  show ((fzs (xs.map .pu) S1).bind _) = _
  rw [fzs_pus, Option.bind_some]
  show (if few xs = true then _ else none) = _
  rw [if_pos (show few xs = true from decide_eq_true hl)]
  rfl
theorem pu_tup (k : Pus r en xs) (hl : xs.length ≤ 100000 := by decide) : Pu (sTup r) en (.tuple xs) := fun S => by
  obtain ⟨S1, x1, e1⟩ := k S
  refine ⟨S1, x1, ?_⟩
  rw [r_tup, e1, Option.bind_some]
  show ((fzs (xs.map .pu) S1).bind _) = _
  rw [fzs_pus, Option.bind_some]
  show (if few xs = true then _ else none) = _
  rw [if_pos (show few xs = true from decide_eq_true hl)]
theorem pu_call (h : FPu F ws x) (ha : ∀ S, r.run en S = some (ws, S)) : Pu (sCall F r) en x := fun S => by
  obtain ⟨S1, x1, e1⟩ := h S
  refine ⟨S1, x1, ?_⟩
  rw [r_call, ha, Option.bind_some]
  exact e1
theorem pu_of (h : ∀ S, f.run en S = some (.pu x, S)) : Pu f en x := fun S => ⟨S, .refl S, h S⟩
theorem fpu_of (h : ∀ S, F.run ws S = some (.pu x, S)) : FPu F ws x := fun S => ⟨S, .refl S, h S⟩
end
theorem pu_and {f g : SE} {en : En} {x : PyData} (h : Pu f en (.bool true)) (k : Pu g en x) : Pu (sAnd f g) en x := fun S => by
  obtain ⟨S1, x1, e1⟩ := h S
  obtain ⟨S2, x2, e2⟩ := k S1
  refine ⟨S2, x1.trans x2, ?_⟩
  rw [r_and, e1, Option.bind_some, truth_bool, Option.bind_some, if_pos rfl]
  exact e2
theorem pu_add {f g : SE} {en : En} {xs ys : List PyData} (h : Pu f en (.list xs)) (k : Pu g en (.list ys)) (hl : xs.length + ys.length ≤ 100000 := by decide) : Pu (sAdd f g) en (.list (xs ++ ys)) := fun S => by
  obtain ⟨S1, x1, e1⟩ := h S
  obtain ⟨S2, x2, e2⟩ := k S1
  refine ⟨S2, x1.trans x2, ?_⟩
  rw [r_add, e1, Option.bind_some, e2, Option.bind_some]
  show Option.map _ (if xs.length + ys.length ≤ sizeLine then some (W.pu (.list (xs ++ ys))) else none) = _
  rw [if_pos (Nat.le_trans hl (by decide))]
  rfl
theorem pu_not {f : SE} {en : En} {b : Bool} (h : Pu f en (.bool b)) : Pu (sNot f) en (.bool !b) := fun S => by
  obtain ⟨S1, x1, e1⟩ := h S
  refine ⟨S1, x1, ?_⟩
  rw [r_not, e1, Option.bind_some, truth_bool]
  rfl
theorem lcR_pu {α : Type} {own : List Nat} {t : SG} {f : SE} {en : En} (enc g : α → PyData) : ∀ (xs : List α) (S : Sto) (acc : List PyData), (∀ x ∈ xs, ∃ en1, t.run (enc x) (wipeE en own) = some en1 ∧ Pu f en1 (g x)) → ∃ S1, Ext S S1 ∧ lcR own t sYes f en (xs.map enc) S acc = some (acc ++ xs.map g, S1)
  | [], S, acc, _ => ⟨S, .refl S, by show some (acc, S) = _; simp⟩
  | d :: ds, S, acc, h => by
    obtain ⟨en1, h1, h2⟩ := h d List.mem_cons_self
    obtain ⟨S1, x1, e1⟩ := h2 S
    obtain ⟨S2, x2, e2⟩ := lcR_pu enc g ds S1 (acc ++ [g d]) fun y hy => h y (List.mem_cons_of_mem _ hy)
    refine ⟨S2, x1.trans x2, ?_⟩
    rw [List.map_cons, lcR_cons, h1, Option.bind_some, r_yes, Option.bind_some, truth_bool, Option.bind_some, if_pos rfl, e1, Option.bind_some, fz_pu, Option.bind_some, e2]
    simp
theorem lc_pu {α : Type} {own : List Nat} {t : SG} {f : SE} {it : SI} {en : En} {S S' : Sto} {xs : List α} (enc g : α → PyData) (hi : it.run en S = some (xs.map enc, S')) (hn : xs.length ≤ 100000) (h : ∀ x ∈ xs, ∃ en1, t.run (enc x) (wipeE en own) = some en1 ∧ Pu f en1 (g x)) : ∃ S1, Ext S' S1 ∧ (sLc false own it t sYes f).run en S = some (.pu (.list (xs.map g)), S1) := by
  obtain ⟨S1, x1, e1⟩ := lcR_pu (own := own) (t := t) (f := f) (en := en) enc g xs S' [] h
  refine ⟨S1, x1, ?_⟩
  rw [r_lc, hi, Option.bind_some]
  show (if few (xs.map enc) = true then _ else none) = _
  rw [if_pos (show few (xs.map enc) = true from decide_eq_true (by rw [List.length_map]; exact hn)), e1]
  rfl
theorem any_mu {en : En} {S : Sto} {i n : Nat} {ds : List PyData} (hv : en[i]? = some (some (.mu n))) (h : S[n]? = some (true, ds)) : (iAny (sVar i)).run en S = some (ds, S.set n (false, ds)) := by
  show ((sVar i).run en S).bind _ = _
  rw [r_var, hv]
  show (fz (.mu n) S).bind _ = _
  rw [fz_mu, h]
  rfl
/-! ### cells that may change, told -/
structure Cells (S0 S : Sto) (cs : List (Nat × List PyData)) : Prop where
  at' : ∀ p ∈ cs, S[p.1]? = some (true, p.2)
  nd : cs.Pairwise fun p q => p.1 ≠ q.1
  ge : ∀ p ∈ cs, S0.length ≤ p.1
  ex : Ext S0 S
theorem Cells.start (S : Sto) : Cells S S [] := ⟨(fun _ h => nomatch h), .nil, (fun _ h => nomatch h), .refl S⟩
theorem Cells.grow {S0 S S1 : Sto} {cs} (h : Cells S0 S cs) (e : Ext S S1) : Cells S0 S1 cs := ⟨fun p hp => e.get (h.at' p hp), h.nd, h.ge, h.ex.trans e⟩
theorem Cells.swap {S0 S : Sto} {p q cs} (h : Cells S0 S (p :: q :: cs)) : Cells S0 S (q :: p :: cs) := by
  refine ⟨fun x hx => h.at' x (by simp at hx ⊢; rcases hx with h | h | h <;> simp [h]), ?_, fun x hx => h.ge x (by simp at hx ⊢; rcases hx with h | h | h <;> simp [h]), h.ex⟩
  obtain ⟨h1, h2⟩ := List.pairwise_cons.mp h.nd
  obtain ⟨h3, h4⟩ := List.pairwise_cons.mp h2
  exact List.pairwise_cons.mpr ⟨fun x hx => by
    rcases List.mem_cons.mp hx with rfl | hx
    · exact (h1 q List.mem_cons_self).symm
    · exact h3 x hx, List.pairwise_cons.mpr ⟨fun x hx => h1 x (List.mem_cons_of_mem _ hx), h4⟩⟩
theorem Cells.lt {S0 S : Sto} {cs} (h : Cells S0 S cs) : ∀ p ∈ cs, p.1 < S.length := fun p hp => (List.getElem?_eq_some_iff.mp (h.at' p hp)).1
theorem Cells.new {S0 S : Sto} {cs} (h : Cells S0 S cs) (ds : List PyData) : Cells S0 (S ++ [(true, ds)]) ((S.length, ds) :: cs) := by
  have e : Ext S (S ++ [(true, ds)]) := ⟨_, rfl⟩
  refine ⟨fun p hp => ?_, List.pairwise_cons.mpr ⟨fun p hp => by have := h.lt p hp; show S.length ≠ p.1; omega, h.nd⟩, fun p hp => ?_, h.ex.trans e⟩
  · rcases List.mem_cons.mp hp with rfl | hp
    · simp
    · exact e.get (h.at' p hp)
  · rcases List.mem_cons.mp hp with rfl | hp
    · exact h.ex.len
    · exact h.ge p hp
theorem Cells.drop {S0 S : Sto} {p cs} (h : Cells S0 S (p :: cs)) : Cells S0 S cs := ⟨fun x hx => h.at' x (List.mem_cons_of_mem _ hx), (List.pairwise_cons.mp h.nd).2, fun x hx => h.ge x (List.mem_cons_of_mem _ hx), h.ex⟩
theorem Cells.set {S0 S : Sto} {g : Nat} {ds es : List PyData} {cs} (h : Cells S0 S ((g, ds) :: cs)) : Cells S0 (S.set g (true, es)) ((g, es) :: cs) := by
  have h0 := h.at' _ List.mem_cons_self
  obtain ⟨n1, n2⟩ := List.pairwise_cons.mp h.nd
  refine ⟨fun p hp => ?_, List.pairwise_cons.mpr ⟨n1, n2⟩, fun p hp => ?_, h.ex.set (h.ge _ List.mem_cons_self) _⟩
  · rcases List.mem_cons.mp hp with rfl | hp
    · exact get_set h0
    · rw [List.getElem?_set_ne (n1 p hp)]
      exact h.at' p (List.mem_cons_of_mem _ hp)
  · rcases List.mem_cons.mp hp with rfl | hp
    · exact h.ge (g, ds) List.mem_cons_self
    · exact h.ge p (List.mem_cons_of_mem _ hp)
theorem Cells.hd {S0 S : Sto} {g : Nat} {ds : List PyData} {cs} (h : Cells S0 S ((g, ds) :: cs)) : S[g]? = some (true, ds) := h.at' _ List.mem_cons_self
/-! ### a def's rows, one behind another -/
def Goes (S0 : Sto) (B : SS) (en : En) (S : Sto) (w : W) : Prop := ∃ S', (B.run en S).bind fin = some (w, S') ∧ Ext S0 S'
section
variable {S0 S S1 : Sto} {A B C : SS} {en en1 : En} {f g c : SE} {r : SA} {w : W} {x y : PyData} {xs ys : List PyData} {cs : List (Nat × List PyData)} {i j n : Nat}
theorem goes_seq (h : A.run en S = some (.nx, en1, S1)) (k : Goes S0 B en1 S1 w) : Goes S0 (gSeq A B) en S w := by
  obtain ⟨S', e, x⟩ := k
  exact ⟨S', by rw [r_seq, h, Option.bind_some, after_nx]; exact e, x⟩
theorem goes_set (t : Cells S0 S cs) (h : Pu f en x) (e : en.set i (some (.pu x)) = en1) (k : ∀ S1, Cells S0 S1 cs → Goes S0 B en1 S1 w) : Goes S0 (gSeq (gSet i f) B) en S w := by
  obtain ⟨S1, x1, e1⟩ := h S
  refine goes_seq ?_ (k S1 (t.grow x1))
  rw [r_set, e1, ← e]
  rfl
theorem goes_par (t : Cells S0 S cs) (h : Pu f en x) (h2 : Pu g en y) (e : (en.set i (some (.pu x))).set j (some (.pu y)) = en1) (k : ∀ S1, Cells S0 S1 cs → Goes S0 B en1 S1 w) : Goes S0 (gSeq (gPar i j f g) B) en S w := by
  obtain ⟨S1, x1, e1⟩ := h S
  obtain ⟨S2, x2, e2⟩ := h2 S1
  refine goes_seq ?_ (k S2 (t.grow (x1.trans x2)))
  rw [r_par, e1, Option.bind_some, e2, ← e]
  rfl
theorem goes_new {e1n : Nat → En} (t : Cells S0 S cs) (h : Pus r en xs) (e : ∀ m, en.set i (some (.mu m)) = e1n m) (k : ∀ S1 m, Cells S0 S1 ((m, xs) :: cs) → Goes S0 B (e1n m) S1 w) (hl : xs.length ≤ 100000 := by decide) : Goes S0 (gSeq (gSet i (sLst true r)) B) en S w := by
  obtain ⟨S1, x1, e1⟩ := h S
  refine goes_seq ?_ (k _ S1.length ((t.grow x1).new xs))
  rw [r_set, r_lst, e1, Option.bind_some]
  show Option.map _ ((fzs (xs.map .pu) S1).bind _) = _
  rw [fzs_pus, Option.bind_some]
  show Option.map _ (if few xs = true then _ else none) = _
  rw [if_pos (show few xs = true from decide_eq_true hl), ← e]
  rfl
theorem goes_cat {e1n : Nat → En} (t : Cells S0 S ((n, xs) :: cs)) (hv : en[i]? = some (some (.mu n))) (h : Pu f en (.list ys)) (e : ∀ m, en.set i (some (.mu m)) = e1n m) (hl : xs.length + ys.length ≤ 100000) (k : ∀ S1 m, Cells S0 S1 ((m, xs ++ ys) :: cs) → Goes S0 B (e1n m) S1 w) : Goes S0 (gSeq (gSet i (sCatM (sVar i) f)) B) en S w := by
  obtain ⟨S1, x1, e1⟩ := h S
  have t1 := t.grow x1
  have lk : look (.mu n) S1 = some (.list xs) := by
    show (S1[n]?).map _ = _
    rw [t1.hd]
    rfl
  refine goes_seq ?_ (k _ S1.length (t1.drop.new (xs ++ ys)))
  rw [r_set, r_catM, r_var, hv]
  show Option.map _ ((f.run en S).bind fun q => (oCatL (.mu n) q.1 q.2).map _) = _
  rw [e1, Option.bind_some]
  have : oCatL (.mu n) (.pu (.list ys)) S1 = some (xs ++ ys) := by
    unfold oCatL
    rw [lk]
    show (if xs.length + ys.length ≤ sizeLine then _ else none) = _
    rw [if_pos (Nat.le_trans hl (by decide))]
  show Option.map _ ((oCatL (.mu n) (.pu (.list ys)) S1).map _) = _
  rw [this, ← e]
  rfl
theorem goes_app (t : Cells S0 S ((n, xs) :: cs)) (hv : en[i]? = some (some (.mu n))) (h : Pu f en x) (hl : xs.length ≤ 100000) (k : ∀ S1, Cells S0 S1 ((n, xs ++ [x]) :: cs) → Goes S0 B en S1 w) : Goes S0 (gSeq (gApp i f) B) en S w := by
  obtain ⟨S1, x1, e1⟩ := h S
  have t1 := t.grow x1
  refine goes_seq ?_ (k _ (t1.set (es := xs ++ [x])))
  show ((f.run en S).bind fun p => (fz p.1 p.2).bind fun r => match en[i]? with
    | some (some (.mu j)) => match r.2[j]? with
      | some (true, ds) => if few ds = true then some (Fl.nx, en, r.2.set j (true, ds ++ [r.1])) else none
      | _ => none
    | _ => none) = _
  rw [e1, Option.bind_some]
  show (match en[i]? with
    | some (some (.mu j)) => match S1[j]? with
      | some (true, ds) => if few ds = true then some (Fl.nx, en, S1.set j (true, ds ++ [x])) else none
      | _ => none
    | _ => none) = _
  rw [hv]
  show (match S1[n]? with
      | some (true, ds) => if few ds = true then some (Fl.nx, en, S1.set n (true, ds ++ [x])) else none
      | _ => none) = _
  rw [t1.hd]
  show (if few xs = true then _ else none) = _
  rw [if_pos (show few xs = true from decide_eq_true hl)]
theorem goes_if_t (t : Cells S0 S cs) (h : Pu c en (.bool true)) (k : ∀ S1, Cells S0 S1 cs → Goes S0 (gSeq A B) en S1 w) : Goes S0 (gSeq (gIf c A C) B) en S w := by
  obtain ⟨S1, x1, e1⟩ := h S
  obtain ⟨S', e, x⟩ := k S1 (t.grow x1)
  refine ⟨S', ?_, x⟩
  rw [r_seq, r_gif, e1, Option.bind_some, truth_bool, Option.bind_some, if_pos rfl]
  exact e
theorem goes_if_f (t : Cells S0 S cs) (h : Pu c en (.bool false)) (k : ∀ S1, Cells S0 S1 cs → Goes S0 (gSeq C B) en S1 w) : Goes S0 (gSeq (gIf c A C) B) en S w := by
  obtain ⟨S1, x1, e1⟩ := h S
  obtain ⟨S', e, x⟩ := k S1 (t.grow x1)
  refine ⟨S', ?_, x⟩
  rw [r_seq, r_gif, e1, Option.bind_some, truth_bool, Option.bind_some, if_neg (by simp)]
  exact e
theorem goes_nop (k : Goes S0 B en S w) : Goes S0 (gSeq gNop B) en S w := goes_seq rfl k
/-- a return of something plain -/
theorem goes_ret (t : Cells S0 S cs) (h : Pu f en x) : Goes S0 (gRet f) en S (.pu x) := by
  obtain ⟨S1, x1, e1⟩ := h S
  refine ⟨S1, ?_, (t.grow x1).ex⟩
  rw [r_ret, e1]
  rfl
end
/-! ### the law's comparison of lists that may change -/
theorem same_mu {j k : Nat} {ds : List PyData} {S : Sto} (hj : S[j]? = some (true, ds)) (h : ∀ d ∈ ds, Pl k d) (hl : ds.length ≤ 100000) : (f_same (k + 2)).run [.mu j, .pu (.list ds)] S = some (.pu (.bool true), S.set j (false, ds)) := by
  show ((b_same (f_same (k + 1))).run [some (.mu j), some (.pu (.list ds)), none, none, none] S).bind fin = _
  have lp := loop_same (d := k + 1) (en := [some (.mu j), some (.pu (.list ds)), none, none, none]) (S := S.set j (false, ds)) rfl ds [] fun x hx => same_ok k (h x hx)
  have hz : (zipD ds ds).length ≤ 100000 := by rw [zipD_len]; omega
  have hi : (iZipS (sVar 0) (sVar 1)).run [some (.mu j), some (.pu (.list ds)), none, none, none] S = some (zipD ds ds, S.set j (false, ds)) := by
    have e : fzs [.mu j, .pu (.list ds)] S = some ([.list ds, .list ds], S.set j (false, ds)) := by
      simp [fzs, fz_mu, hj]
    have e2 : (iZipS (sVar 0) (sVar 1)).run [some (.mu j), some (.pu (.list ds)), none, none, none] S = ((fzs [.mu j, .pu (.list ds)] S).bind fun r => match r.1 with
      | [.list ds, .list es] => some (zipD ds es, r.2)
      | [.tuple ds, .tuple es] => some (zipD ds es, r.2)
      | _ => none) := rfl
    rw [e2, e]
    rfl
  unfold b_same
  simp [isK, kindW, oEq, look, SeqAt.shaped, PyData.canLay0, PyData.depth, PyData.eqv, hi, hz, lp, oAll, all_rep, len_mu hj]
theorem same_mu2 {j l k : Nat} {ds : List PyData} {S : Sto} (hj : S[j]? = some (true, ds)) (hl' : S[l]? = some (true, ds)) (ne : j ≠ l) (h : ∀ d ∈ ds, Pl k d) (hl : ds.length ≤ 100000) : (f_same (k + 2)).run [.mu j, .mu l] S = some (.pu (.bool true), (S.set j (false, ds)).set l (false, ds)) := by
  show ((b_same (f_same (k + 1))).run [some (.mu j), some (.mu l), none, none, none] S).bind fin = _
  have lp := loop_same (d := k + 1) (en := [some (.mu j), some (.mu l), none, none, none]) (S := (S.set j (false, ds)).set l (false, ds)) rfl ds [] fun x hx => same_ok k (h x hx)
  have hz : (zipD ds ds).length ≤ 100000 := by rw [zipD_len]; omega
  have hi : (iZipS (sVar 0) (sVar 1)).run [some (.mu j), some (.mu l), none, none, none] S = some (zipD ds ds, (S.set j (false, ds)).set l (false, ds)) := by
    have e : fzs [.mu j, .mu l] S = some ([.list ds, .list ds], (S.set j (false, ds)).set l (false, ds)) := by
      have : (S.set j (false, ds))[l]? = some (true, ds) := by rw [List.getElem?_set_ne ne]; exact hl'
      simp [fzs, fz_mu, hj, this]
    have e2 : (iZipS (sVar 0) (sVar 1)).run [some (.mu j), some (.mu l), none, none, none] S = ((fzs [.mu j, .mu l] S).bind fun r => match r.1 with
      | [.list ds, .list es] => some (zipD ds es, r.2)
      | [.tuple ds, .tuple es] => some (zipD ds es, r.2)
      | _ => none) := rfl
    rw [e2, e]
    rfl
  unfold b_same
  simp [isK, kindW, oEq, look, SeqAt.shaped, PyData.canLay0, PyData.depth, PyData.eqv, hi, hz, lp, oAll, all_rep, len_mu hj, len_mu hl']
theorem goes_same2 {S0 S : Sto} {en : En} {i j n m k : Nat} {ds : List PyData} {cs} (t : Cells S0 S ((n, ds) :: (m, ds) :: cs)) (hi : en[i]? = some (some (.mu n))) (hj : en[j]? = some (some (.mu m))) (h : ∀ d ∈ ds, Pl k d) (hl : ds.length ≤ 100000) : Goes S0 (gRet (sCall (f_same (k + 2)) (aCons (sVar i) (aCons (sVar j) aNil)))) en S (.pu (.bool true)) := by
  have h1 := t.hd
  have h2 := t.at' _ (List.mem_cons_of_mem _ List.mem_cons_self)
  have ne := (List.pairwise_cons.mp t.nd).1 _ List.mem_cons_self
  have x := (t.ex.set (t.ge (n, ds) List.mem_cons_self) (false, ds)).set (t.ge (m, ds) (List.mem_cons_of_mem _ List.mem_cons_self)) (false, ds)
  refine ⟨_, ?_, x⟩
  · have r := same_mu2 h1 h2 ne h hl
    rw [r_ret, r_call]
    have ha : (aCons (sVar i) (aCons (sVar j) aNil)).run en S = some ([.mu n, .mu m], S) := by
      simp [hi, hj]
    rw [ha, Option.bind_some]
    show Option.bind (Option.map _ ((f_same (k + 2)).run [.mu n, .mu m] S)) fin = _
    rw [r]
    rfl
end Z

namespace Z
open PySem L2 PyProof.Rows
/-! ### a call that only looks at what it is passed: nothing is shared by it -/
inductive TmpA where
  | e (f : SE)
  | l (r : SA)
  | c (i : Nat) (r : SA)
def TmpA.run : TmpA → En → Sto → Option (List W × Sto)
  | .e f, en, S => (f.run en S).map fun p => ([p.1], p.2)
  | .l r, en, S => (r.run en S).bind fun p => if p.1.length ≤ 100000 then some p else none
  | .c i r, en, S => match en[i]? with
    | some (some (.ml is)) => (r.run en S).bind fun p => if is.length + p.1.length ≤ 100000 then some (is.map W.mu ++ p.1, p.2) else none
    | _ => none
theorem TmpA.mono : ∀ {a : TmpA} {en S w S'}, a.run en S = some (w, S') → S.length ≤ S'.length
  | .e f, _, _, _, _, h => by
    obtain ⟨p, h1, h⟩ := Option.map_eq_some_iff.mp h
    cases h
    exact f.mono h1
  | .l r, _, _, _, _, h => by
    obtain ⟨p, h1, h⟩ := bind_some_of h
    split at h
    · cases h
      exact r.mono h1
    · cases h
  | .c i r, en, S, w, S', h => by
    have h : (match en[i]? with
      | some (some (.ml is)) => (r.run en S).bind fun p => if is.length + p.1.length ≤ 100000 then some (is.map W.mu ++ p.1, p.2) else none
      | _ => none) = some (w, S') := h
    split at h
    · obtain ⟨p, h1, h⟩ := bind_some_of h
      split at h
      · cases h
        exact r.mono h1
      · cases h
    · cases h
def looks : List W → Sto → Option (List PyData)
  | [], _ => some []
  | w :: ws, S => (look w S).bind fun d => (looks ws S).map fun ds => d :: ds
def TmpA.dat : TmpA → List W → Sto → Option PyData
  | .e _, [w], S => look w S
  | .e _, _, _ => none
  | .l _, ws, S => (looks ws S).map .list
  | .c _ _, ws, S => (looks ws S).map .list
def flatD : PyData → Bool
  | .none => true
  | .bool _ => true
  | .int _ => true
  | .str _ => true
  | _ => false
theorem flat_at {F F' : Hp} {v : V} {d : PyData} (h : flatD d = true) (a : At F v d) : At F' v d := by
  cases a with
  | non => exact .non
  | bl b => exact .bl b
  | int i => exact .int i
  | str x => exact .str x
  | lst _ _ => cases h
  | tup _ _ => cases h
def sCallT (f : FS) (a b : TmpA) : SE := ⟨fun en S => (a.run en S).bind fun p => (b.run en p.2).bind fun q => (a.dat p.1 q.2).bind fun d1 => (b.dat q.1 q.2).bind fun d2 => (f.run [.pu d1, .pu d2] []).bind fun r => match r.1 with
  | .pu d => if flatD d = true then some (.pu d, q.2) else none
  | _ => none, fun {en S w S'} h => by
  obtain ⟨p, h1, h⟩ := bind_some_of h
  obtain ⟨q, h2, h⟩ := bind_some_of h
  obtain ⟨d1, h3, h⟩ := bind_some_of h
  obtain ⟨d2, h4, h⟩ := bind_some_of h
  obtain ⟨r, h5, h⟩ := bind_some_of h
  split at h
  · split at h
    · cases h
      exact Nat.le_trans (TmpA.mono h1) (TmpA.mono h2)
    · cases h
  · cases h⟩
theorem Rl.alloc {F : Hp} {m : Nat → Addr × Bool} {S : Sto} {P : Pn} {H : Hp} (r : Rl F m S P H) {p : Addr} (hp : H p = none) {o : HO} : Rl F m S P (upd H p o) := by
  have nF : ∀ {a : Addr} {x : HO}, H a = some x → a ≠ p := fun h => ne_of_none h hp
  refine ⟨fun a x h => ?_, fun i ds e k => ?_, fun i ds e k => ?_, r.fr, r.nf, r.inj, fun q hq => ?_⟩
  · rw [upd_ne (nF (r.ex _ _ h))]
    exact r.ex _ _ h
  · obtain ⟨_, o, h3⟩ := r.live e
    exact r.keepM (Same.refl F) e k rfl (upd_ne (nF h3))
  · obtain ⟨_, o, h3⟩ := r.live e
    exact r.keepD (Same.refl F) e k rfl (upd_ne (nF h3))
  · obtain ⟨h1, h2, h3⟩ := r.pn q hq
    exact ⟨h1, by rw [upd_ne (nF h2)]; exact h2, h3⟩
theorem Rl.pinT {F : Hp} {m : Nat → Addr × Bool} {S : Sto} {P : Pn} {H : Hp} (r : Rl F m S P H) {p : Addr} (hp : H p = none) {vs : List V} : Rl F m S ((p, vs) :: P) (upd H p (.lst vs)) := by
  have a := r.alloc (o := .lst vs) hp
  refine ⟨a.ex, a.mt, a.dk, a.fr, a.nf, a.inj, fun q hq => ?_⟩
  rcases List.mem_cons.mp hq with rfl | hq
  · refine ⟨r.ex.free hp, upd_same, fun i ds e z => ?_⟩
    obtain ⟨_, _, h3⟩ := r.live e
    rw [z] at h3
    have hp : H p = none := hp
    rw [hp] at h3
    cases h3
  · exact a.pn q hq
theorem Rl.less {F : Hp} {m : Nat → Addr × Bool} {S : Sto} {P P' : Pn} {H : Hp} (r : Rl F m S P' H) (h : ∀ p ∈ P, p ∈ P') : Rl F m S P H := ⟨r.ex, r.mt, r.dk, r.fr, r.nf, r.inj, fun q hq => r.pn q (h q hq)⟩
/-- nothing of what there was has changed -/
theorem Rl.over {F : Hp} {m : Nat → Addr × Bool} {S : Sto} {P : Pn} {H H' : Hp} (r : Rl F m S P H) (s : Same H H') : Rl F m S P H' := by
  refine ⟨r.ex.trans s, fun i ds e k => ?_, fun i ds e k => ?_, r.fr, r.nf, r.inj, fun q hq => ?_⟩
  · obtain ⟨vs, h1, h2, h3⟩ := r.mt i ds e k
    exact ⟨vs, h1, h2, s _ _ h3⟩
  · obtain ⟨vs, h1, h2, h3⟩ := r.dk i ds e k
    exact ⟨vs, h1, h2, s _ _ h3⟩
  · obtain ⟨h1, h2, h3⟩ := r.pn q hq
    exact ⟨h1, s _ _ h2, h3⟩
theorem Lk.at_heap {F H : Hp} (e : Same F H) {v : V} {d : PyData} : Lk F H v d → At H v d
  | .at' h => h.mono e
  | .mt h a => .lst h (a.mono e)
theorem looks_ok {K : PySem.W.Frag} {F : Hp} {m : Nat → Addr × Bool} {S : Sto} {P : Pn} {H : Hp} {n : Nat} (r : Rl F m S P H) : ∀ {ws : List W} {vs : List V} {ds : List PyData}, WRs K F m n vs ws → looks ws S = some ds → AtAll H vs ds
  | [], _, _, h, e => by cases h; cases e; exact .nil
  | w :: ws, _, _, h, e => by
    obtain ⟨d, h1, e⟩ := bind_some_of e
    obtain ⟨ds, h2, e⟩ := Option.map_eq_some_iff.mp e
    cases e
    cases h with
    | cons a b => exact .cons ((look_ok r a h1).at_heap r.ex) (looks_ok r b h2)
def TmpA.res (K : PySem.W.Frag) (F : Hp) (m : Nat → Addr × Bool) (n : Nat) (P : Pn) : TmpA → V → List W → Prop
  | .e _, v, ws => ∃ w, ws = [w] ∧ WR K F m n v w
  | .l _, v, ws => ∃ p vs, v = .ref p ∧ (p, vs) ∈ P ∧ WRs K F m n vs ws
  | .c _ _, v, ws => ∃ p vs, v = .ref p ∧ (p, vs) ∈ P ∧ WRs K F m n vs ws
theorem TmpA.res_up {K : PySem.W.Frag} {F F' : Hp} {m m' : Nat → Addr × Bool} {n n' : Nat} {P P' : Pn} (u : Up F m n F' m') (h : n ≤ n') (hP : ∀ p ∈ P, p ∈ P') : ∀ {a : TmpA} {v : V} {ws : List W}, a.res K F m n P v ws → a.res K F' m' n' P' v ws
  | .e _, _, _, ⟨w, z, r⟩ => ⟨w, z, r.up u h⟩
  | .l _, _, _, ⟨p, vs, z, hp, r⟩ => ⟨p, vs, z, hP _ hp, r.up u h⟩
  | .c _ _, _, _, ⟨p, vs, z, hp, r⟩ => ⟨p, vs, z, hP _ hp, r.up u h⟩
theorem TmpA.at_heap {K : PySem.W.Frag} {F : Hp} {m : Nat → Addr × Bool} {S : Sto} {P : Pn} {H : Hp} {n : Nat} (r : Rl F m S P H) : ∀ {a : TmpA} {v : V} {ws : List W} {d : PyData}, a.res K F m n P v ws → a.dat ws S = some d → At H v d
  | .e _, _, _, _, ⟨w, z, h⟩, k => by
    subst z
    exact (look_ok r h k).at_heap r.ex
  | .l _, _, _, _, ⟨p, vs, z, hp, h⟩, k => by
    subst z
    obtain ⟨ds, h2, k⟩ := Option.map_eq_some_iff.mp k
    cases k
    exact .lst (r.pn _ hp).2.1 (looks_ok r h h2)
  | .c _ _, _, _, _, ⟨p, vs, z, hp, h⟩, k => by
    subst z
    obtain ⟨ds, h2, k⟩ := Option.map_eq_some_iff.mp k
    cases k
    exact .lst (r.pn _ hp).2.1 (looks_ok r h h2)
def tTmp (K : PySem.W.Frag) (a : TmpA) : TE := fun σ H Q => ∃ F m S P en ws S1, Rl F m S P H ∧ ER K F m S.length en σ ∧ a.run en S = some (ws, S1) ∧
  ∀ F' m' H' v P', Up F m S.length F' m' → Rl F' m' S1 P' H' → (∀ p ∈ P, p ∈ P') → a.res K F' m' S1.length P' v ws → Q v H'
section
variable {X : Cx} {e e1 e2 : Expr} {es : List Expr} {pos : Pos} {f : SE} {r : SA} {a b : TmpA}
theorem pe_tmpE (h : PE X e (tI X.K f)) : PE X e (tTmp X.K (.e f)) := pe_imp h fun σ H Q ⟨F, m, S, P, en, ws, S1, rl, er, run, q⟩ => by
  obtain ⟨p, h1, run⟩ := Option.map_eq_some_iff.mp run
  cases run
  exact ⟨F, m, S, P, en, p.1, p.2, rl, er, h1, fun F' m' H' v u rl' wr => q F' m' H' v P u rl' (fun _ h => h) ⟨p.1, rfl, wr⟩⟩
theorem pe_tmpL (h : PA X es (tIA X.K r)) : PE X (.List es pos) (tTmp X.K (.l r)) := pe_imp (pe_lst h) fun σ H Q ⟨F, m, S, P, en, ws, S1, rl, er, run, q⟩ => by
  obtain ⟨p, h1, run⟩ := bind_some_of run
  split at run
  · rename_i hl
    cases run
    refine ⟨F, m, S, P, en, ws, S1, rl, er, h1, fun F1 m1 H1 vs u1 rl1 wr1 => ⟨?_, fun p hp => ?_⟩⟩
    · rw [paired_len wr1]
      exact Nat.le_trans hl (by decide)
    · exact q F1 m1 _ (.ref p) ((p, vs) :: P) u1 (rl1.pinT hp) (fun _ h => List.mem_cons_of_mem _ h) ⟨p, vs, rfl, List.mem_cons_self, wr1⟩
  · cases run
def tT2 (K : PySem.W.Frag) (a b : TmpA) : TA := fun σ H R => ∃ F m S P en ws1 ws2 S1 S2 d1 d2, Rl F m S P H ∧ ER K F m S.length en σ ∧ a.run en S = some (ws1, S1) ∧ b.run en S1 = some (ws2, S2) ∧ a.dat ws1 S2 = some d1 ∧ b.dat ws2 S2 = some d2 ∧
  ∀ F' m' H' v1 v2, Up F m S.length F' m' → Rl F' m' S2 P H' → At H' v1 d1 → At H' v2 d2 → R [v1, v2] H'
theorem pa_tmp2 (h1 : PE X e1 (tTmp X.K a)) (h2 : PE X e2 (tTmp X.K b)) (hs : starEach [e1, e2] X.env = (false, eval e1 X.env) :: starEach [e2] X.env := by rfl) (hs2 : starEach [e2] X.env = (false, eval e2 X.env) :: starEach [] X.env := by rfl) : PA X [e1, e2] (tT2 X.K a b) := by
  refine pa_imp (pa_cons h1 (pa_cons h2 pa_nil hs2) hs) fun σ H R ⟨F, m, S, P, en, ws1, ws2, S1, S2, d1, d2, rl, er, r1, r2, k1, k2, q⟩ => ?_
  refine ⟨F, m, S, P, en, ws1, S1, rl, er, r1, fun F1 m1 H1 v1 P1 u1 rl1 hP1 res1 => ?_⟩
  refine ⟨F1, m1, S1, P1, en, ws2, S2, rl1, er.up u1 (TmpA.mono r1), r2, fun F2 m2 H2 v2 P2 u2 rl2 hP2 res2 => ?_⟩
  show R [v1, v2] H2
  refine q F2 m2 H2 v1 v2 (u1.trans u2 (TmpA.mono r1)) (rl2.less fun p hp => hP2 p (hP1 p hp)) ?_ ?_
  · exact TmpA.at_heap rl2 (TmpA.res_up u2 (TmpA.mono r2) hP2 res1) k1
  · exact TmpA.at_heap rl2 res2 k2
variable {k : Nat} {fa : Addr} {fd : FuncData} {ps : List Str} {x : Str} {p : Pos} {F : FS}
theorem z_callTmp (hF : FnOk X.prog X.w X.K X.mg X.base CX0 k fa fd ps (spI X.K F)) (hr : Room k X.A) (hg : Gl X x) (hm : X.mg x = some (.ref fa)) (hk : PySem.W.keepIn X.K (.ref fa) = true) (hb : Binds X.K fd ps [])
    (h1 : PE X e1 (tTmp X.K a)) (h2 : PE X e2 (tTmp X.K b)) (hdb : (x == ("__debug__" : Str)) = false := by decide) (he : starEach [e1, e2] X.env = (false, eval e1 X.env) :: starEach [e2] X.env := by rfl) (he2 : starEach [e2] X.env = (false, eval e2 X.env) :: starEach [] X.env := by rfl) (hpl : (backTo pos (starEach [e2] X.env)).any (·.1) = false := by rfl) :
    PE X (.Call (.Name x p) [e1, e2] [] pos) (tI X.K (sCallT F a b)) := by
  refine pe_imp (pe_call hF hr hg hm hk hb .nil pass0 (pa_tmp2 h1 h2 he he2) hdb he hpl) fun σ H Q ⟨F0, m, S, P, en, w, S', rl, er, run, q⟩ => ?_
  obtain ⟨p1, r1, run⟩ := bind_some_of run
  obtain ⟨p2, r2, run⟩ := bind_some_of run
  obtain ⟨d1, k1, run⟩ := bind_some_of run
  obtain ⟨d2, k2, run⟩ := bind_some_of run
  obtain ⟨r, k3, run⟩ := bind_some_of run
  refine ⟨F0, m, S, P, en, p1.1, p2.1, p1.2, p2.2, d1, d2, rl, er, r1, r2, k1, k2, fun F1 m1 H1 v1 v2 u1 rl1 a1 a2 => ?_⟩
  obtain ⟨rw', rS⟩ := r
  split at run
  · rename_i dd hd
    have hd : rw' = .pu dd := hd
    subst hd
    split at run
    · rename_i hf
      cases run
      show spI X.K F ([v1, v2] ++ []) H1 Q E0
      rw [List.append_nil]
      refine ⟨H1, m1, [], [], [.pu d1, .pu d2], .pu dd, rS, ⟨Same.refl H1, (fun i ds e => by cases e), (fun i ds e => by cases e), (fun i ds e => by cases e), (fun i ds e => by cases e), (fun i j ds es e => by cases e), (fun p hp => by cases hp)⟩, .cons a1 (.cons a2 .nil), k3, fun F2 m2 H2 v u2 rl2 wr2 => ?_⟩
      have s : Same H1 H2 := u2.ex.trans rl2.ex
      exact q F1 m1 H2 v u1 (rl1.over s) (flat_at hf wr2)
    · cases run
  · cases run
end
@[simp] theorem r_callT {en : En} {S : Sto} {f : FS} {a b : TmpA} : (sCallT f a b).run en S = (a.run en S).bind fun p => (b.run en p.2).bind fun q => (a.dat p.1 q.2).bind fun d1 => (b.dat q.1 q.2).bind fun d2 => (f.run [.pu d1, .pu d2] []).bind fun r => match r.1 with
  | .pu d => if flatD d = true then some (.pu d, q.2) else none
  | _ => none := rfl
@[simp] theorem tmpE_run {en : En} {S : Sto} {f : SE} : (TmpA.e f).run en S = (f.run en S).map fun p => ([p.1], p.2) := rfl
@[simp] theorem tmpL_run {en : En} {S : Sto} {r : SA} : (TmpA.l r).run en S = (r.run en S).bind fun p => if p.1.length ≤ 100000 then some p else none := rfl
@[simp] theorem tmpE_dat {S : Sto} {f : SE} {w : W} : (TmpA.e f).dat [w] S = look w S := rfl
@[simp] theorem tmpL_dat {S : Sto} {r : SA} {ws : List W} : (TmpA.l r).dat ws S = (looks ws S).map .list := rfl
@[simp] theorem looks_nil {S : Sto} : looks [] S = some [] := rfl
@[simp] theorem looks_cons {S : Sto} {w : W} {ws : List W} : looks (w :: ws) S = (look w S).bind fun d => (looks ws S).map fun ds => d :: ds := rfl
theorem look_mu {S : Sto} {n : Nat} {b : Bool} {ds : List PyData} (h : S[n]? = some (b, ds)) : look (.mu n) S = some (.list ds) := by
  show (S[n]?).map _ = _
  rw [h]
  rfl
end Z

namespace Z
open PySem L2 PyProof.Rows
/-! ### the least and the greatest of a list of tuples of numbers -/
def rowI (xs : List Int) : PyData := .tuple (dI xs)
def tIs : List PyData → Option (List (List Int))
  | [] => some []
  | .tuple ds :: rest => (intsOf ds).bind fun ns => (tIs rest).map fun r => ns :: r
  | _ :: _ => none
theorem tIs_eq : ∀ {ds : List PyData} {xs : List (List Int)}, tIs ds = some xs → ds = xs.map rowI
  | [], xs, h => by cases h; rfl
  | d :: rest, xs, h => by
    cases d with
    | tuple ds =>
      obtain ⟨ns, h1, h⟩ := bind_some_of h
      obtain ⟨r, h2, h⟩ := Option.map_eq_some_iff.mp h
      cases h
      rw [intsOf_eq h1, tIs_eq h2]
      rfl
    | _ => cases h
theorem tIs_map : ∀ (xs : List (List Int)), tIs (xs.map rowI) = some xs
  | [] => rfl
  | x :: xs => by
    show (intsOf (dI x)).bind (fun ns => (tIs (xs.map rowI)).map fun r => ns :: r) = _
    rw [intsOf_map, Option.bind_some, tIs_map xs]
    rfl
def minLs (x : List Int) (xs : List (List Int)) : List Int := xs.foldl (fun a y => if decide (y < a) = true then y else a) x
def maxLs (x : List Int) (xs : List (List Int)) : List Int := xs.foldl (fun a y => if decide (a < y) = true then y else a) x
theorem lt_row (x y : List Int) : PySem.W.dataLt (rowI x) (rowI y) = decide (x < y) := (PySem.W.dataLt_tuple _ _).trans (PySem.W.dataLt_ints x y)
theorem minD_row : ∀ (xs : List (List Int)) (x : List Int), PySem.W.minD (rowI x) (xs.map rowI) = rowI (minLs x xs)
  | [], x => rfl
  | y :: xs, x => by
    unfold PySem.W.minD minLs
    rw [List.map_cons, List.foldl_cons, List.foldl_cons, lt_row]
    by_cases c : decide (y < x) = true
    · rw [if_pos c, if_pos c]; exact minD_row xs y
    · rw [if_neg c, if_neg c]; exact minD_row xs x
theorem maxD_row : ∀ (xs : List (List Int)) (x : List Int), PySem.W.maxD (rowI x) (xs.map rowI) = rowI (maxLs x xs)
  | [], x => rfl
  | y :: xs, x => by
    unfold PySem.W.maxD maxLs
    rw [List.map_cons, List.foldl_cons, List.foldl_cons, lt_row]
    by_cases c : decide (x < y) = true
    · rw [if_pos c, if_pos c]; exact maxD_row xs y
    · rw [if_neg c, if_neg c]; exact maxD_row xs x
theorem alike_dI : ∀ x y : List Int, PySem.W.alikeAll (dI x) (dI y) = true
  | [], _ => by simp [PySem.W.alikeAll]
  | _ :: _, [] => by simp [PySem.W.alikeAll]
  | x :: xs, y :: ys => by
    show PySem.W.alikeAll (.int x :: dI xs) (.int y :: dI ys) = true
    rw [PySem.W.alikeAll, alike_dI xs ys]
    simp [PySem.W.alike]
theorem alikeAll_row (xs : List (List Int)) : PySem.W.AlikeAll (xs.map rowI) := by
  constructor
  · intro a ha b hb
    obtain ⟨x, _, rfl⟩ := List.mem_map.mp ha
    obtain ⟨y, _, rfl⟩ := List.mem_map.mp hb
    show PySem.W.alike (.tuple (dI x)) (.tuple (dI y)) = true
    rw [PySem.W.alike]
    exact alike_dI x y
  · intro a ha
    obtain ⟨x, _, rfl⟩ := List.mem_map.mp ha
    intro h
    cases h
theorem depth_row : ∀ xs : List (List Int), PyData.depthAll (xs.map rowI) ≤ 1
  | [] => by decide
  | x :: xs => by
    show max (PyData.depthAll (dI x) + 1) (PyData.depthAll (xs.map rowI)) ≤ 1
    have := depth_row xs
    rw [depth_ints]
    omega
/-- numbers that are read are the ones -/
theorem reads_dI {h : Heap} : ∀ {us : List Value} {x y : List Int} {as bs : List Addr}, ReadsAll h us (dI x) as → ReadsAll h us (dI y) bs → x = y
  | _, [], [], _, _, _, _ => rfl
  | _, [], y :: ys, _, _, h1, h2 => by cases h1; cases h2
  | _, x :: xs, [], _, _, h1, h2 => by cases h2; cases h1
  | _, x :: xs, y :: ys, _, _, h1, h2 => by
    cases h1 with
    | cons a b =>
      cases h2 with
      | cons c d =>
        cases a
        cases c
        rw [reads_dI b d]
theorem reads_row {h : Heap} {u : Value} {x y : List Int} {as bs : List Addr} (h1 : Reads h u (rowI x) as) (h2 : Reads h u (rowI y) bs) : x = y := by
  cases h1 with
  | tuple a1 a2 a3 a4 =>
    cases h2 with
    | tuple b1 b2 b3 b4 =>
      rw [a1] at b1
      cases b1
      rw [a3] at b3
      cases b3
      exact reads_dI a4 b4
def rMinT (K : PySem.W.Frag) (pick : List Int → List (List Int) → List Int) : List V → Hp → VK → Prop := fun vs H Q => ∃ (a : Addr) (ys : List V) (x : List Int) (xs : List (List Int)), vs = [V.ref a] ∧ SqL K H a ys ∧ DpAll K H ys ((x :: xs).map rowI) ∧
  ∀ (i : Nat) (v : V), ys[i]? = some v → (x :: xs)[i]? = some (pick x xs) → Q v H
theorem vals_at : ∀ {ys : List V} {us : List Value}, Vals ys us → ∀ (i : Nat) (u : Value), us[i]? = some u → ∃ v, ys[i]? = some v ∧ RelV v u
  | _, _, .nil, i, u, h => by simp at h
  | v :: _, _, .cons r _, 0, u, h => by
    simp at h
    subst h
    exact ⟨v, rfl, r⟩
  | _, _, .cons _ rs, i + 1, u, h => by
    obtain ⟨v, h1, h2⟩ := vals_at rs i u (by simpa using h)
    exact ⟨v, by simpa using h1, h2⟩
theorem dps_at {K : PySem.W.Frag} {H : Hp} : ∀ {ys : List V} {ds : List PyData}, DpAll K H ys ds → ∀ (i : Nat) (v : V), ys[i]? = some v → ∃ d, ds[i]? = some d ∧ Dp K H v d
  | _, _, .nil, i, v, h => by simp at h
  | _, _, .cons (d := d) r _, 0, v, h => by
    simp at h
    subst h
    exact ⟨d, rfl, r⟩
  | _, _, .cons _ rs, i + 1, v, h => by
    obtain ⟨d, h1, h2⟩ := dps_at rs i v (by simpa using h)
    exact ⟨d, by simpa using h1, h2⟩
theorem cr_minT {X : Cx} (hc : X.calm = true) (hu : X.A.units + 65 < cLine) : CallR X (.builtin "min") (rMinT X.K minLs) := by
  intro pins s σ H vs us Q I r h
  obtain ⟨a, ys, x, xs, rfl, hs, hd, q⟩ := h
  obtain ⟨its, rv, hl, _⟩ := I.list hs
  rw [Vals.ref1 r]
  obtain ⟨as, hr⟩ := Dp.readsAll I _ _ _ hd rv
  have dp := depth_row (x :: xs)
  refine PySem.W.min_list_data (I.ok.hd hc) hl.isList (x := rowI x) (xs := xs.map rowI) (as := as) (by simpa using hr) (alikeAll_row (x :: xs)) (by
    have : PyData.depthAll (rowI x :: xs.map rowI) ≤ 1 := dp
    omega) fun i v h' tk bs hv hrd hk => ?_
  have hv' : its[i]? = some v := by simpa using hv
  obtain ⟨y, hy, ry⟩ := vals_at rv i v hv'
  obtain ⟨d, hdi, dy⟩ := dps_at hd i y hy
  rw [List.getElem?_map] at hdi
  obtain ⟨z, hz, rfl⟩ := Option.map_eq_some_iff.mp hdi
  obtain ⟨cs, rz⟩ := Dp.reads I _ _ _ dy ry
  rw [minD_row] at hrd
  have e := reads_row (PySem.W.reads_keeps hk rz) hrd
  subst e
  exact ⟨y, H, I.kept hk, ry, q i y hy hz⟩
theorem cr_maxT {X : Cx} (hc : X.calm = true) (hu : X.A.units + 65 < cLine) : CallR X (.builtin "max") (rMinT X.K maxLs) := by
  intro pins s σ H vs us Q I r h
  obtain ⟨a, ys, x, xs, rfl, hs, hd, q⟩ := h
  obtain ⟨its, rv, hl, _⟩ := I.list hs
  rw [Vals.ref1 r]
  obtain ⟨as, hr⟩ := Dp.readsAll I _ _ _ hd rv
  have dp := depth_row (x :: xs)
  refine PySem.W.max_list_data (I.ok.hd hc) hl.isList (x := rowI x) (xs := xs.map rowI) (as := as) (by simpa using hr) (alikeAll_row (x :: xs)) (by
    have : PyData.depthAll (rowI x :: xs.map rowI) ≤ 1 := dp
    omega) fun i v h' tk bs hv hrd hk => ?_
  have hv' : its[i]? = some v := by simpa using hv
  obtain ⟨y, hy, ry⟩ := vals_at rv i v hv'
  obtain ⟨d, hdi, dy⟩ := dps_at hd i y hy
  rw [List.getElem?_map] at hdi
  obtain ⟨z, hz, rfl⟩ := Option.map_eq_some_iff.mp hdi
  obtain ⟨cs, rz⟩ := Dp.reads I _ _ _ dy ry
  rw [maxD_row] at hrd
  have e := reads_row (PySem.W.reads_keeps hk rz) hrd
  subst e
  exact ⟨y, H, I.kept hk, ry, q i y hy hz⟩
def oMinT (pick : List Int → List (List Int) → List Int) : List W → Sto → Option W
  | [w], S => match look w S with
    | some (.list ds) => match tIs ds with
      | some (x :: xs) => some (.pu (rowI (pick x xs)))
      | _ => none
    | _ => none
  | _, _ => none
theorem cs_minT {K : PySem.W.Frag} (pick : List Int → List (List Int) → List Int) : CaS K (rMinT K pick) (oMinT pick) := by
  intro F m S P H ws vs z Q rl wr e q
  match ws, e with
  | [w], e =>
    obtain ⟨v, rfl, w1⟩ := wr1 wr
    have e : (match look w S with
      | some (.list ds) => match tIs ds with
        | some (x :: xs) => some (W.pu (rowI (pick x xs)))
        | _ => none
      | _ => none) = some z := e
    split at e
    · rename_i ds h1
      split at e
      · rename_i x xs h2
        cases e
        obtain ⟨a, us, rfl, ha, at'⟩ := (look_ok rl w1 h1).lst rl.ex
        have hd := at'.dp (K := K) rl.ex
        have e3 := tIs_eq h2
        rw [e3] at hd at'
        refine ⟨a, us, x, xs, rfl, SqL.of ha, hd, fun i y hy hz => ?_⟩
        have hg : ((x :: xs).map rowI)[i]? = some (rowI (pick x xs)) := by rw [List.getElem?_map, hz]; rfl
        obtain ⟨y', k1, k2⟩ := at'.get hg
        rw [hy] at k1
        cases k1
        exact q F H y (Same.refl F) rl k2
      · cases e
    · cases e
section
variable {X : Cx} {e : Expr} {es : List Expr} {pos p : Pos} {r : SA}
theorem z_minT (hc : X.calm = true) (hu : X.A.units + 65 < cLine) (hg : Gl X "min") (hm : X.mg "min" = none) (ha : PA X (e :: es) (tIA X.K r)) (he : starEach (e :: es) X.env = (false, eval e X.env) :: starEach es X.env := by rfl) (hpl : (backTo pos (starEach es X.env)).any (·.1) = false := by rfl) :
    PE X (.Call (.Name "min" p) (e :: es) [] pos) (tI X.K (sB (oMinT minLs) r)) := z_callB (cr_minT hc hu) (cs_minT minLs) hg hm (by decide +kernel) ha (by decide) (by decide) he hpl
theorem z_maxT (hc : X.calm = true) (hu : X.A.units + 65 < cLine) (hg : Gl X "max") (hm : X.mg "max" = none) (ha : PA X (e :: es) (tIA X.K r)) (he : starEach (e :: es) X.env = (false, eval e X.env) :: starEach es X.env := by rfl) (hpl : (backTo pos (starEach es X.env)).any (·.1) = false := by rfl) :
    PE X (.Call (.Name "max" p) (e :: es) [] pos) (tI X.K (sB (oMinT maxLs) r)) := z_callB (cr_maxT hc hu) (cs_minT maxLs) hg hm (by decide +kernel) ha (by decide) (by decide) he hpl
end
/-! ### what they are -/
theorem li_total (x y : List Int) : x ≤ y ∨ y ≤ x := List.le_total x y
theorem minLs_spec : ∀ (xs : List (List Int)) (x : List Int), minLs x xs ∈ x :: xs ∧ ∀ y ∈ x :: xs, minLs x xs ≤ y
  | [], x => ⟨List.mem_cons_self, fun y hy => by
    rw [List.mem_singleton.mp hy]
    exact List.le_refl x⟩
  | z :: xs, x => by
    unfold minLs
    rw [List.foldl_cons]
    by_cases c : decide (z < x) = true
    · rw [if_pos c]
      have c' := of_decide_eq_true c
      obtain ⟨h1, h2⟩ := minLs_spec xs z
      refine ⟨List.mem_cons_of_mem _ h1, fun y hy => ?_⟩
      rcases List.mem_cons.mp hy with rfl | hy
      · exact List.le_trans (h2 z List.mem_cons_self) (List.le_of_lt c')
      · exact h2 y hy
    · rw [if_neg c]
      have c' : x ≤ z := List.not_lt.mp fun h => c (decide_eq_true h)
      obtain ⟨h1, h2⟩ := minLs_spec xs x
      refine ⟨?_, fun y hy => ?_⟩
      · rcases List.mem_cons.mp h1 with h | h
        · exact List.mem_cons.mpr (.inl h)
        · exact List.mem_cons_of_mem _ (List.mem_cons_of_mem _ h)
      · rcases List.mem_cons.mp hy with rfl | hy
        · exact h2 y List.mem_cons_self
        · rcases List.mem_cons.mp hy with rfl | hy
          · exact List.le_trans (h2 x List.mem_cons_self) c'
          · exact h2 y (List.mem_cons_of_mem _ hy)
theorem maxLs_spec : ∀ (xs : List (List Int)) (x : List Int), maxLs x xs ∈ x :: xs ∧ ∀ y ∈ x :: xs, y ≤ maxLs x xs
  | [], x => ⟨List.mem_cons_self, fun y hy => by
    rw [List.mem_singleton.mp hy]
    exact List.le_refl x⟩
  | z :: xs, x => by
    unfold maxLs
    rw [List.foldl_cons]
    by_cases c : decide (x < z) = true
    · rw [if_pos c]
      have c' := of_decide_eq_true c
      obtain ⟨h1, h2⟩ := maxLs_spec xs z
      refine ⟨List.mem_cons_of_mem _ h1, fun y hy => ?_⟩
      rcases List.mem_cons.mp hy with rfl | hy
      · exact List.le_trans (List.le_of_lt c') (h2 z List.mem_cons_self)
      · exact h2 y hy
    · rw [if_neg c]
      have c' : z ≤ x := List.not_lt.mp fun h => c (decide_eq_true h)
      obtain ⟨h1, h2⟩ := maxLs_spec xs x
      refine ⟨?_, fun y hy => ?_⟩
      · rcases List.mem_cons.mp h1 with h | h
        · exact List.mem_cons.mpr (.inl h)
        · exact List.mem_cons_of_mem _ (List.mem_cons_of_mem _ h)
      · rcases List.mem_cons.mp hy with rfl | hy
        · exact h2 y List.mem_cons_self
        · rcases List.mem_cons.mp hy with rfl | hy
          · exact List.le_trans c' (h2 x List.mem_cons_self)
          · exact h2 y (List.mem_cons_of_mem _ hy)
theorem li_head {a b : Int} {x y : List Int} (h : a :: x ≤ b :: y) : a ≤ b := by
  rcases List.cons_le_cons_iff.mp h with h | h
  · omega
  · omega
/-! ### a while with more turns to spare -/
theorem whR_plus (k : Nat) (c : SE) (b : SS) (n : Nat) : ∀ (en : En) (S : Sto) (r : Fl × En × Sto), whR c b n en S = some r → whR c b (n + k) en S = some r := by
  induction n with
  | zero => intro en S r h; cases h
  | succ n ih =>
    intro en S r h
    rw [show n + 1 + k = n + k + 1 by omega]
    obtain ⟨p, h1, h⟩ := bind_some_of (show (c.run en S).bind _ = some r from h)
    obtain ⟨q, h2, h⟩ := bind_some_of h
    show (c.run en S).bind _ = _
    rw [h1, Option.bind_some, h2, Option.bind_some]
    split at h
    · rename_i hq
      rw [if_pos hq]
      obtain ⟨z, h3, h⟩ := bind_some_of h
      rw [h3, Option.bind_some]
      split at h
      · exact ih _ _ _ h
      · exact ih _ _ _ h
      · exact h
      · exact h
    · rename_i hq
      rw [if_neg hq]
      exact h
/-! ### two lists, one behind the other -/
theorem loop_app {t : SG} {b : SS} : ∀ {ds es : List PyData} {en en1 : En} {S S1 : Sto}, loopR t b ds en S = some (.nx, en1, S1) → (∀ d ∈ ds, ∀ en : En, ∃ en1, t.run d en = some en1) → (∀ (en : En) (S : Sto) r, b.run en S = some r → r.1 = .nx) → loopR t b (ds ++ es) en S = loopR t b es en1 S1
  | [], es, en, en1, S, S1, h, _, _ => by cases h; rfl
  | d :: ds, es, en, en1, S, S1, h, ht, hb => by
    obtain ⟨en2, h1⟩ := ht d List.mem_cons_self en
    cases h2 : b.run en2 S with
    | none =>
      have e : loopR t b (d :: ds) en S = none := by
        show (t.run d en).bind _ = _
        rw [h1]
        show (b.run en2 S).bind _ = _
        rw [h2]
        rfl
      rw [e] at h
      cases h
    | some r =>
      obtain ⟨f, e2, S2⟩ := r
      have k : f = .nx := hb en2 S _ h2
      subst k
      rw [loop_nx h1 h2] at h
      rw [List.cons_append, loop_nx h1 h2]
      exact loop_app h (fun d hd => ht d (List.mem_cons_of_mem _ hd)) hb
/-! ### a for that looks for something -/
theorem find_loop {t : SG} {b : SS} {w : W} {S : Sto} (I : En → Prop) {x : Int} {post : List Int} : ∀ (pre : List Int), (∀ y ∈ pre, ∀ en, I en → ∃ en1 en2, t.run (.int y) en = some en1 ∧ b.run en1 S = some (.nx, en2, S) ∧ I en2) → (∀ en, I en → ∃ en1 en2, t.run (.int x) en = some en1 ∧ b.run en1 S = some (.rt w, en2, S)) → ∀ en, I en → ∃ en', loopR t b (dI (pre ++ x :: post)) en S = some (.rt w, en', S)
  | [], _, h2, en, hi => by
    obtain ⟨en1, en2, e1, e2⟩ := h2 en hi
    exact ⟨en2, loop_rt e1 e2⟩
  | y :: pre, h1, h2, en, hi => by
    obtain ⟨en1, en2, e1, e2, i2⟩ := h1 y List.mem_cons_self en hi
    obtain ⟨en', e⟩ := find_loop I pre (fun z hz => h1 z (List.mem_cons_of_mem _ hz)) h2 en2 i2
    exact ⟨en', by
      show loopR t b (.int y :: dI (pre ++ x :: post)) en S = _
      rw [loop_nx e1 e2]
      exact e⟩
theorem none_loop {t : SG} {b : SS} {S : Sto} (I : En → Prop) : ∀ (xs : List Int), (∀ y ∈ xs, ∀ en, I en → ∃ en1 en2, t.run (.int y) en = some en1 ∧ b.run en1 S = some (.nx, en2, S) ∧ I en2) → ∀ en, I en → ∃ en', loopR t b (dI xs) en S = some (.nx, en', S) ∧ I en'
  | [], _, en, hi => ⟨en, rfl, hi⟩
  | y :: xs, h1, en, hi => by
    obtain ⟨en1, en2, e1, e2, i2⟩ := h1 y List.mem_cons_self en hi
    obtain ⟨en', e, i'⟩ := none_loop I xs (fun z hz => h1 z (List.mem_cons_of_mem _ hz)) en2 i2
    exact ⟨en', by
      show loopR t b (.int y :: dI xs) en S = _
      rw [loop_nx e1 e2]
      exact e, i'⟩
theorem rngI_at {lo x hi : Int} (h1 : lo ≤ x) (h2 : x < hi) : rngI lo hi = rngI lo x ++ x :: rngI (x + 1) hi := by
  rw [rngI_app h1 (show x ≤ hi by omega)]
  congr 1
  unfold rngI
  rw [show (hi - x).toNat = (hi - (x + 1)).toNat + 1 by omega, List.range_succ_eq_map, List.map_cons, List.map_map]
  congr 1
  · omega
  · apply List.map_congr_left
    intro i _
    show x + ((i + 1 : Nat) : Int) = x + 1 + (i : Int)
    omega
end Z

namespace Z
open PySem L2 PyProof.Rows
/-! ### x.bit_length() -/
def sBits (f : SE) : SE := op1 (fun x S => match look x S with
  | some (.int i) => some (.pu (.int (Builtin.Int.intBits i : Nat)))
  | _ => none) f
theorem z_bits {X : Cx} {o : Expr} {f : SE} {apos pos : Pos} (ho : PE X o (tI X.K f)) (hbase : attributeBase o "bit_length" X.env (eval o X.env) = eval o X.env := by rfl) (hline : (apos.endLine == pos.line) = true := by rfl) : PE X (.Call (.Attribute o "bit_length" apos) [] [] pos) (tI X.K (sBits f)) := by
  refine pe_imp (pe_bits ho hbase hline) fun σ H Q h => ?_
  refine op1_ok (r := fun x H Q => ∃ i, x = .int i ∧ Q (.int (Builtin.Int.intBits i : Nat)) H) (fun F m S P H x v z Q rl w e q => ?_) σ H Q h
  split at e
  · rename_i i hi
    cases e
    exact ⟨i, (look_ok rl w hi).int, q F H _ (Same.refl F) rl (.int _)⟩
  · cases e
@[simp] theorem r_bits {en : En} {S : Sto} {f : SE} : (sBits f).run en S = (f.run en S).bind fun p => ((match look p.1 p.2 with
  | some (.int i) => some (W.pu (.int (Builtin.Int.intBits i : Nat)))
  | _ => none : Option W)).map fun z => (z, p.2) := rfl
end Z

namespace Z
open PySem PySem.Spec PyProof.Rows L2
/-! ### sorted(set(xs)) of a list of ints -/
abbrev noO (w : World) : Obj := { cls := .type "set", dict := none, data := .set #[] 0 (.fresh 0 0 (!w.params.followText "set-order")) }
section
variable {P : Program} {w : World} {A : Around} {E : Value → Shared → Prop} {s : Shared}
set_option maxHeartbeats 3200000 in
theorem set_listI {l : Addr} {its : Array Value} (ns : List Int) {Q : Value → Shared → Prop} (hh : A.handled = none) (hl : s.heap.IsList l its) (hit : IntsAre its.toList ns) (hb : ns.length + 1 < scanBound)
    (h : ∀ (h' : Heap) (tk c : Nat), SetR w h' s.heap.objs.size (fun j => decide (j ∈ ns)) c → c ≤ ns.length → (∀ b o, s.heap.get? b = some o → h'.get? b = some o) → Q (.ref s.heap.objs.size) { s with heap := h', toks := tk }) :
    wpAny (model P w) A (call (.type "set") [.ref l]) Q E s := by
  have zz : its.size = ns.length := by have q := IntsAre.length hit; rwa [Array.length_toList] at q
  obtain ⟨c, tl, hmro⟩ := F.called_set.mro
  have made := F.called_set.made; have sub := F.called_set.sub
  apply wpAny_call; apply codeAny_of_tree
  show wpAny _ _ (callAny (.type "set") _) _ _ _
  apply wpAny_pure; refine ⟨Code.quiet_builtin _ (by decide +kernel), ?_⟩; apply codeAny_builtin F.entry_type_call
  rw [Around.under_plain (weight_type_call_type "set" [.ref l] []) rfl]
  have k1 := F.called_set.notType; have k2 := F.called_set.canCreate
  have ct := F.typeCall_set_1 (.ref l)
  repeat (any_goals (first | assumption | wp_step))
  refine codeAny_mono (code_set_led1 (.ref l) (E := E) (Q₁ := fun obj s₁ => obj = .ref s.heap.objs.size ∧ s₁ = { s with heap := s.heap.push (noO w) }) ⟨rfl, rfl⟩) fun r s₁ hr => ?_
  cases r with
  | error e => exact hr
  | ok fl =>
    cases fl with
    | ret obj =>
      obtain ⟨rfl, rfl⟩ := hr
      have got : (s.heap.push (noO w)).get? s.heap.objs.size = some (noO w) := Heap.get?_push_size _ rfl
      have ty : Shared.TypeIs { s with heap := s.heap.push (noO w) } (.ref s.heap.objs.size) "set" := ⟨_, got, rfl⟩
      have li := F.called_set.init.lookup
      have bi := F.called_set.init.bind (.ref s.heap.objs.size)
      repeat (any_goals (first | assumption | wp_step))
      refine codeAny_mono (codeAny_call_builtin (R := wants (fun r s₂ => r = .none ∧ ∃ h' tk c, s₂ = { s with heap := h', toks := tk } ∧ SetR w h' s.heap.objs.size (fun j => decide (j ∈ ns)) c ∧ c ≤ ns.length ∧
          (∀ b o, s.heap.get? b = some o → h'.get? b = some o)) E) F.called_set.init.plain F.entry_set_init (check_set_init_1 ty ?_)) fun r2 s2 hr2 => ?_
      · obtain ⟨ol, hol, hcl, nl, hdl⟩ := hl
        obtain ⟨oc, od, oda, os⟩ := ol
        simp only at hcl hdl
        subst hcl; subst hdl
        have hol' : (s.heap.push (noO w)).get? l = some { cls := .type "list", dict := od, data := .seq its nl, slots := os } := Heap.get?_push_of_some _ hol
        have sls := F.sub_list_set
        have slf := F.sub_list_frozenset
        have nd : (Value.type "list" == Value.type "dict") = false := by decide
        have hl1 : (s.heap.push (noO w)).IsList l its := ⟨_, hol', rfl, nl, rfl⟩
        unfold Builtin.«set.__init__» noKeywords Builtin.Frozenset.updateFrom
        generalize hPI : pyIter = PI
        wp_walk
        subst hPI
        apply wpAny_pyIter_list hl1
        apply wpAny_bind; apply wpAny_runValue
        have lS : l < s.heap.objs.size := Heap.lt_size hol
        have h3 : A.in1.in1.in1.handled = none := by simp [hh]
        have neI : l ≠ (s.heap.push (noO w)).objs.size := by rw [Heap.size_push]; exact Nat.ne_of_lt (Nat.lt_succ_of_lt lS)
        have nSf : s.heap.objs.size ∉ [(s.heap.push (noO w)).objs.size, l] := by
          rw [Heap.size_push]; simp only [List.mem_cons, List.mem_singleton, List.not_mem_nil, or_false, not_or]
          exact ⟨Nat.ne_of_lt (Nat.lt_succ_self _), Nat.ne_of_gt lS⟩
        have val : ∀ (i : Nat) (v : Value), its[i]? = some v → ∃ k t, ns[i]? = some k ∧ v = .int k t := fun i v hv => by
          have hi : i < ns.length := by rw [← zz]; exact (Array.getElem?_eq_some_iff.mp hv).1
          obtain ⟨t, e⟩ := PyProof.Rows.IntsAre.int_at hit i v (by rw [Array.getElem?_toList]; exact hv)
          exact ⟨ns[i], t, List.getElem?_eq_getElem hi, by rw [e, List.getD_eq_getElem?_getD, List.getElem?_eq_getElem hi] <;> rfl⟩
        refine set_update_ints ((Walks.list h3 _ l neI its).toS) s.heap.objs.size nSf ns zz hb val (its.size - 0) 0 _ (by omega) (Nat.zero_le _)
          ⟨⟨_, Heap.get?_push_size _ rfl, rfl, rfl⟩, (hl1.push _)⟩ ?hA ?hB
        case hA => exact ⟨0, Nat.le_refl 0, setR_new_at (Heap.get?_push_of_some _ got)⟩
        case hB =>
          intro s' c' hm hc' hS'
          obtain ⟨h', g2, d', tk', os'⟩ := s'
          have eg : g2 = s.gens := hm.gens
          have ed : d' = s.drawn := hm.drawn
          have eo : os' = s.os := hm.os
          subst eg; subst ed; subst eo
          show wpAny _ _ _ _ _ _
          apply wpAny_pure
          show wpAny _ _ (ret Value.none) _ _ _
          rw [zz] at hc'
          apply wpAny_pure
          refine ⟨rfl, h', tk', c', rfl, hS', hc', fun b o e => ?_⟩
          have b0 : b < s.heap.objs.size := Heap.lt_size e
          have b1 : b ≠ s.heap.objs.size := Nat.ne_of_lt b0
          have b2 : b ≠ (s.heap.push (noO w)).objs.size := by rw [Heap.size_push]; exact Nat.ne_of_lt (Nat.lt_succ_of_lt b0)
          exact hm.heap b o (by simp only [List.mem_cons, List.mem_singleton, List.not_mem_nil, or_false, not_or]; exact ⟨b1, b2⟩) (Heap.get?_push_of_some _ (Heap.get?_push_of_some _ e))
      · cases r2 with
        | error e => exact hr2
        | ok fl2 =>
          cases fl2 with
          | ret r =>
            obtain ⟨rfl, h', tk, c', rfl, hS', hc', hk'⟩ := hr2
            repeat (any_goals (first | assumption | wp_step))
            exact h _ _ _ hS' hc' hk'
          | _ => exact hr2.elim
    | _ => exact hr.elim
end
/-- the members once each, ascending -/
def dedI : List Int → List Int
  | [] => []
  | x :: xs => if x ∈ xs then dedI xs else x :: dedI xs
theorem dedI_mem {k : Int} : ∀ {xs : List Int}, k ∈ dedI xs ↔ k ∈ xs
  | [] => Iff.rfl
  | x :: xs => by
    unfold dedI
    split
    · rename_i h
      rw [dedI_mem, List.mem_cons]
      exact ⟨.inr, fun z => z.elim (fun e => by rw [e]; exact h) id⟩
    · rw [List.mem_cons, List.mem_cons, dedI_mem]
theorem dedI_nodup : ∀ (xs : List Int), (dedI xs).Nodup
  | [] => .nil
  | x :: xs => by
    unfold dedI
    split
    · exact dedI_nodup xs
    · rename_i h
      exact List.nodup_cons.mpr ⟨fun z => h (dedI_mem.mp z), dedI_nodup xs⟩
def setI (xs : List Int) : List Int := sortI (dedI xs)
theorem setI_mem {k : Int} {xs : List Int} : k ∈ setI xs ↔ k ∈ xs := by
  unfold setI
  rw [(sortI_perm _).mem_iff, dedI_mem]
theorem setI_uniq {xs ys : List Int} (h : ys.Pairwise (· < ·)) (m : ∀ k, k ∈ ys ↔ k ∈ xs) : ys = setI xs := by
  have n1 : ys.Nodup := h.imp fun q => Int.ne_of_lt q
  refine sortI_uniq ?_ (h.imp fun q => Int.le_of_lt q)
  exact (List.perm_ext_iff_of_nodup n1 (dedI_nodup xs)).mpr fun k => by rw [m, dedI_mem]
theorem setI_asc (xs : List Int) : (setI xs).Pairwise (· < ·) := by
  have p := sortI_pw (dedI xs)
  have n : (setI xs).Nodup := (sortI_perm _).nodup_iff.mpr (dedI_nodup xs)
  exact (List.Pairwise.and p n).imp fun {a b} q => by have h1 : a ≤ b := q.1; have h2 : a ≠ b := q.2; omega
theorem setI_self {xs : List Int} (h : xs.Pairwise (· < ·)) : setI xs = xs := (setI_uniq h fun _ => Iff.rfl).symm
def sSortSet (mt : Bool) (f : SE) : SE := ⟨fun en S => (f.run en S).bind fun p => (lookS p.1 p.2).bind fun ds => (intsOf ds).bind fun ns => if ns.length < 64 then some (mkL mt (dI (setI ns)) p.2) else none, fun {en S w S'} e => by
  obtain ⟨p, h1, e⟩ := bind_some_of e
  obtain ⟨ds, h2, e⟩ := bind_some_of e
  obtain ⟨ns, h3, e⟩ := bind_some_of e
  split at e
  · have := mkL_len (mt := mt) (ds := dI (setI ns)) (S := p.2)
    have e := Option.some.inj e
    rw [e] at this
    exact Nat.le_trans (f.mono h1) this
  · cases e⟩
def rSetOfI (K : PySem.W.Frag) (w : World) : List V → Hp → VK → Prop := fun vs H Q => ∃ (l : Addr) (ns : List Int), vs = [V.ref l] ∧ SqL K H l (ns.map V.int) ∧ ns.length < 64 ∧
  ∀ (a : Addr) (c : Nat), H a = none → c ≤ ns.length → Q (.ref a) (upd H a (SetO w a (fun j => decide (j ∈ ns)) c))
section
variable {X : Cx} {e : Expr} {f : SE} {p p2 q pos : Pos}
theorem cr_setOfI (hc : X.calm = true) : CallR X (.type "set") (rSetOfI X.K X.w) := by
  intro pins s σ H vs us Q I r h
  obtain ⟨l, ns, rfl, hl, hf, q⟩ := h
  rw [Vals.ref1 r]
  obtain ⟨its, rv, pl, hz⟩ := I.list hl
  have hn : H s.heap.objs.size = none := I.hok.fresh (Nat.le_refl _)
  refine set_listI ns (I.ok.hd hc) pl.isList (by simpa using rv.ints) (by unfold scanBound; omega) fun h' tk c R hcc k => ?_
  exact ⟨.ref s.heap.objs.size, upd H s.heap.objs.size (SetO X.w s.heap.objs.size (fun j => decide (j ∈ ns)) c), I.laid (t' := tk) k (Nat.le_refl _) (setO_new R), rfl, q _ c hn hcc⟩
def tSortSet (K : PySem.W.Frag) (ta : TE) : TE := fun σ H Q => ta σ H fun x H1 => ∃ (l : Addr) (ns : List Int), x = V.ref l ∧ SqL K H1 l (ns.map V.int) ∧ ns.length < 64 ∧
  ∀ (a p : Addr) (o : HO), H1 a = none → upd H1 a o p = none → Q (.ref p) (upd (upd H1 a o) p (.lst ((setI ns).map V.int)))
theorem pe_sortSet {ta : TE} (hc : X.calm = true) (hg : Gl X "sorted") (hm : X.mg "sorted" = none) (hg2 : Gl X "set") (hm2 : X.mg "set" = none) (ha : PE X e ta)
    (na : starEach [e] X.env = (false, eval e X.env) :: starEach [] X.env := by rfl) : PE X (.Call (.Name "sorted" p) [.Call (.Name "set" p2) [e] [] q] [] pos) (tSortSet X.K ta) := by
  refine ⟨fun pins s σ H Q I h => ?_⟩
  refine Call_ (ld_blt I hg hm (show bootBuiltins (Str.ofString "sorted") = some (.builtin "sorted") by decide +kernel) ?_)
  refine PyProof.Rows.callWith_builtin1 (PyProof.Rows.args_cons ?_ rfl) rfl rfl
  refine Call_ (ld_blt I hg2 hm2 PyProof.Rows.boot_set ?_)
  refine PyProof.Rows.callWith_type1 (PyProof.Rows.args_cons (thn (ha.run pins s σ H _ I h) fun v s1 ⟨x, H1, I1, r1, q1⟩ => PyProof.Rows.args_nil ?_) na) na rfl
  obtain ⟨l, ns, rfl, hq, h1, q1⟩ := q1
  refine thn (cr_setOfI hc pins s1 σ H1 [.ref l] [v] (fun x H2 => ∃ (a : Addr) (c : Nat), x = .ref a ∧ H1 a = none ∧ c ≤ ns.length ∧ H2 = upd H1 a (SetO X.w a (fun j => decide (j ∈ ns)) c)) I1 (.cons r1 .nil) ⟨l, ns, rfl, hq, h1, fun a c h2 h3 => ⟨a, c, rfl, h2, h3, rfl⟩⟩) fun u s2 ⟨y, H2, I2, r2, q2⟩ => PyProof.Rows.args_nil ?_
  obtain ⟨a, c, rfl, h2, h3, rfl⟩ := q2
  refine cr_sortedSet hc pins s2 σ _ [.ref a] [u] Q I2 (.cons r2 .nil) ⟨a, _, c, rfl, upd_same, by omega, fun zs p' hp hm' hl hf => ?_⟩
  rw [setI_uniq (xs := ns) hp fun k => (hm' k).trans (by simp)]
  exact q1 a p' _ h2 hf
theorem z_sortSet (mt : Bool) (hc : X.calm = true) (hg : Gl X "sorted") (hm : X.mg "sorted" = none) (hg2 : Gl X "set") (hm2 : X.mg "set" = none) (he : PE X e (tI X.K f))
    (na : starEach [e] X.env = (false, eval e X.env) :: starEach [] X.env := by rfl) : PE X (.Call (.Name "sorted" p) [.Call (.Name "set" p2) [e] [] q] [] pos) (tI X.K (sSortSet mt f)) := by
  refine pe_imp (pe_sortSet hc hg hm hg2 hm2 he na) fun σ H Q ⟨F, m, S, P, en, w, S', rl, er, run, q⟩ => ?_
  obtain ⟨⟨x, S1⟩, h1, e⟩ := bind_some_of run
  obtain ⟨ds, h2, e⟩ := bind_some_of e
  obtain ⟨ns, h3, e⟩ := bind_some_of e
  split at e
  · rename_i hl
    refine ⟨F, m, S, P, en, x, S1, rl, er, h1, fun F1 m1 H1 v u1 rl1 wr1 => ?_⟩
    obtain ⟨a, vs, rfl, g1, g2⟩ := lookS_ok rl1 wr1 h2
    rw [intsOf_eq h3] at g2
    rw [vals_ints g2] at g1
    refine ⟨a, ns, rfl, g1, hl, fun a' p' o ha hp => ?_⟩
    have rl2 := rl1.new ha (o := o)
    have up : Up F1 m1 S1.length (upd F1 a' o) m1 := ⟨same_upd (rl1.ex.free ha), fun _ _ => rfl⟩
    refine mkL_ok (K := X.K) (mt := mt) rl2 (AtAll.of_ints (setI ns)) (fun F4 m4 H4 v4 u4 rl4 wr4 => ?_) p' hp
    have e' : mkL mt (dI (setI ns)) S1 = (w, S') := Option.some.inj e
    rw [e'] at rl4 wr4
    exact q F4 m4 H4 v4 ((u1.trans up (f.mono h1)).trans u4 (f.mono h1)) rl4 wr4
  · cases e
end
@[simp] theorem r_sortSet {mt : Bool} {f : SE} {en : En} {S : Sto} : (sSortSet mt f).run en S = (f.run en S).bind fun p => (lookS p.1 p.2).bind fun ds => (intsOf ds).bind fun ns => if ns.length < 64 then some (mkL mt (dI (setI ns)) p.2) else none := rfl
end Z

namespace Z
open PySem L2 PyProof.Rows
/-! ### a list of lists that may change -/
def musOf : List W → Option (List Nat)
  | [] => some []
  | .mu i :: ws => (musOf ws).map fun is => i :: is
  | _ => none
theorem musOf_eq : ∀ {ws : List W} {is : List Nat}, musOf ws = some is → ws = is.map W.mu
  | [], _, h => by cases h; rfl
  | .mu i :: ws, is, h => by
    obtain ⟨js, h1, rfl⟩ := Option.map_eq_some_iff.mp h
    rw [musOf_eq h1]
    rfl
  | .pu _ :: _, _, h => by cases h
  | .sq _ :: _, _, h => by cases h
  | .ml _ :: _, _, h => by cases h
  | .dk _ :: _, _, h => by cases h
def sLstM (r : SA) : SE := ⟨fun en S => (r.run en S).bind fun p => if p.1.length ≤ 100000 then (musOf p.1).map fun is => (.ml is, p.2) else none, fun {en S w S'} e => by
  obtain ⟨p, h1, e⟩ := bind_some_of e
  split at e
  · obtain ⟨is, h2, e⟩ := Option.map_eq_some_iff.mp e
    cases e
    exact r.mono h1
  · cases e⟩
theorem wrs_mus {K : PySem.W.Frag} {F : Hp} {m : Nat → Addr × Bool} {n : Nat} : ∀ {is : List Nat} {vs : List V}, WRs K F m n vs (is.map W.mu) → vs = is.map (fun i => V.ref (m i).1) ∧ ∀ i ∈ is, i < n ∧ (m i).2 = false
  | [], _, h => by cases h; exact ⟨rfl, fun i hi => by cases hi⟩
  | i :: is, _, h => by
    cases h with
    | cons a b =>
      obtain ⟨rfl, hi⟩ := a
      obtain ⟨rfl, hs⟩ := wrs_mus b
      exact ⟨rfl, fun j hj => by
        rcases List.mem_cons.mp hj with rfl | hj
        · exact hi
        · exact hs j hj⟩
theorem wrs_of_mus {K : PySem.W.Frag} {F : Hp} {m : Nat → Addr × Bool} {n : Nat} {vs : List V} {ws : List W} (t : WRs K F m n vs ws) : ∀ {is : List Nat}, (∀ i ∈ is, i < n ∧ (m i).2 = false) → WRs K F m n (is.map (fun i => V.ref (m i).1) ++ vs) (is.map W.mu ++ ws)
  | [], _ => t
  | i :: is, h => .cons ⟨rfl, h i List.mem_cons_self⟩ (wrs_of_mus t fun j hj => h j (List.mem_cons_of_mem _ hj))
section
variable {X : Cx} {e : Expr} {es : List Expr} {pos px lp sp apos cpos : Pos} {f : SE} {r : SA} {x : Str} {i k : Nat}
theorem z_lstM (h : PA X es (tIA X.K r)) : PE X (.List es pos) (tI X.K (sLstM r)) := pe_imp (pe_lst h) fun σ H Q ⟨F, m, S, P, en, w, S1, rl, er, run, q⟩ => by
  obtain ⟨p, h1, run⟩ := bind_some_of run
  split at run
  · rename_i hl
    obtain ⟨is, h2, run⟩ := Option.map_eq_some_iff.mp run
    cases run
    refine ⟨F, m, S, P, en, p.1, p.2, rl, er, h1, fun F1 m1 H1 vs u1 rl1 wr1 => ⟨?_, fun a ha => ?_⟩⟩
    · rw [paired_len wr1]
      exact Nat.le_trans hl (by decide)
    · have s := same_upd (o := HO.lst vs) (rl1.ex.free ha)
      have e2 := musOf_eq h2
      rw [e2] at wr1
      obtain ⟨e3, l3⟩ := wrs_mus wr1
      exact q (upd F1 a (.lst vs)) m1 _ (.ref a) (u1.trans ⟨s, fun _ _ => rfl⟩ (r.mono h1)) (rl1.new ha) ⟨a, rfl, by rw [upd_same, e3], l3⟩
  · cases run
theorem pe_tmpC (hv : PE X (.Name x px) (tVar i)) (h : PA X es (tIA X.K r)) : PE X (.BinOp (.Name x px) .Add (.List es lp) pos) (tTmp X.K (.c i r)) := pe_imp (pe_op op_cat hv (pe_lst h)) fun σ H Q ⟨F, m, S, P, en, ws, S1, rl, er, run, q⟩ => by
  have run : (match en[i]? with
    | some (some (.ml is)) => (r.run en S).bind fun p => if is.length + p.1.length ≤ 100000 then some (is.map W.mu ++ p.1, p.2) else none
    | _ => none) = some (ws, S1) := run
  split at run
  · rename_i is hi
    obtain ⟨p, h1, run⟩ := bind_some_of run
    split at run
    · rename_i hl
      cases run
      obtain ⟨v, hs, a, rfl, ha, hlt⟩ := er.at' i _ hi
      refine ⟨.ref a, hs, F, m, S, P, en, p.1, p.2, rl, er, h1, fun F1 m1 H1 vs u1 rl1 wr1 => ⟨?_, fun b hb => ?_⟩⟩
      · rw [paired_len wr1]
        exact Nat.le_trans (Nat.le_trans (Nat.le_add_left _ _) hl) (by decide)
      · have ha1 := rl1.ex _ _ (u1.ex _ _ ha)
        refine ⟨a, b, is.map (fun i => V.ref (m i).1), vs, rfl, rfl, by rw [upd_ne (ne_of_none ha1 hb)]; exact ha1, upd_same, ?_, fun c hc => ?_⟩
        · rw [List.length_map, paired_len wr1]
          exact Nat.le_trans hl (by decide)
        · have em : is.map (fun i => V.ref (m i).1) = is.map (fun i => V.ref (m1 i).1) := List.map_congr_left fun j hj => by rw [u1.ag j (hlt j hj).1]
          have ln := r.mono h1
          exact q F1 m1 _ (.ref c) ((c, _) :: P) u1 ((rl1.alloc hb).pinT hc) (fun _ h => List.mem_cons_of_mem _ h) ⟨c, _, rfl, List.mem_cons_self, by
            rw [em]
            exact wrs_of_mus wr1 fun j hj => ⟨Nat.lt_of_lt_of_le (hlt j hj).1 ln, by rw [u1.ag j (hlt j hj).1]; exact (hlt j hj).2⟩⟩
    · cases run
  · cases run
def gAppAt (i k : Nat) (f : SE) : SS := ⟨fun en S => (f.run en S).bind fun p => (fz p.1 p.2).bind fun r => match en[i]? with
  | some (some (.ml is)) => match is[k]? with
    | some j => match r.2[j]? with
      | some (true, ds) => if few ds = true then some (.nx, en, r.2.set j (true, ds ++ [r.1])) else none
      | _ => none
    | none => none
  | _ => none, fun {en S r} e => by
  obtain ⟨p, h1, e⟩ := bind_some_of e
  obtain ⟨z, h3, e⟩ := bind_some_of e
  have l := f.mono h1
  rw [fz_len h3] at l
  split at e
  · split at e
    · split at e
      · split at e <;> cases e
        show S.length ≤ (z.2.set _ _).length
        rw [List.length_set]
        exact l
      · cases e
    · cases e
  · cases e⟩
theorem y_appAt {kk : Expr} (he : PE X e (tI X.K f)) (hv : PE X (.Name x px) (tVar i)) (hk : PE X kk (tI X.K (sC (.int (k : Nat))))) (hpl : PlainIx kk)
    (hp : ∀ {to t}, PE X (.Subscript (.Name x px) kk sp) to → PA X [e] t → PS X (.Expr (.Call (.Attribute (.Subscript (.Name x px) kk sp) "append" apos) [e] [] cpos) pos) (tDrop (tBM X.K "list" rAppend to t))) (hs : starEach [e] X.env = (false, eval e X.env) :: starEach [] X.env := by rfl) :
    PS X (.Expr (.Call (.Attribute (.Subscript (.Name x px) kk sp) "append" apos) [e] [] cpos) pos) (tS X.K (gAppAt i k f)) := by
  refine ps_imp (hp (pe_ix ix_seq hv hk hpl) (pa_cons he pa_nil hs)) fun D σ H ⟨F, m, S, P, en, r, rl, er, run, q⟩ => ?_
  obtain ⟨⟨w, S1⟩, h1, e⟩ := bind_some_of run
  obtain ⟨⟨d, S3⟩, h3, e⟩ := bind_some_of e
  split at e
  · rename_i is hi
    split at e
    · rename_i j hj
      split at e
      · rename_i ds hds
        split at e
        · rename_i hf
          cases e
          obtain ⟨v, hσ, a, rfl, ha, hlt⟩ := er.at' i _ hi
          have jl := (hlt j (List.mem_of_getElem? hj)).1
          have jk := (hlt j (List.mem_of_getElem? hj)).2
          refine ⟨.ref a, hσ, F, m, S, P, en, .pu (.int (k : Nat)), S, rl, er, rfl, fun F0 m0 H0 v0 u0 rl0 wr0 => ?_⟩
          have e0 : v0 = .int (k : Nat) := by cases wr0; rfl
          subst e0
          have ha0 := rl0.ex _ _ (u0.ex _ _ ha)
          have kl : k < is.length := (List.getElem?_eq_some_iff.mp hj).1
          have ix : atI (is.map fun i => V.ref (m i).1) ((k : Nat) : Int) = some (.ref (m j).1) := by
            have l2 : k < (is.map fun i => V.ref (m i).1).length := by rw [List.length_map]; exact kl
            unfold atI ixN
            rw [if_pos (by omega), if_pos (by omega)]
            have := (List.getElem?_eq_some_iff.mp hj).2
            simp [kl, this]
          refine .inl ⟨a, _, (k : Nat), _, rfl, rfl, SqL.of ha0, ix, ?_⟩
          have hS : ∃ b xs, S[j]? = some (b, xs) := ⟨_, _, List.getElem?_eq_getElem jl⟩
          obtain ⟨b, xs, hS⟩ := hS
          have mj0 : m0 j = m j := u0.ag j jl
          refine ⟨?_, F0, m0, S, P, en, w, S1, rl0, er.up u0 (Nat.le_refl _), h1, fun F1 m1 H1 v u1 rl1 wr1 => ?_⟩
          · rw [← mj0]
            cases b with
            | true =>
              obtain ⟨vs, g1, g2, g3⟩ := rl0.mt j _ hS (by rw [mj0]; exact jk)
              exact .inl ⟨rfl, vs, SqL.of g3⟩
            | false =>
              obtain ⟨vs, g1, g2⟩ := rl0.fr j _ hS
              exact .inl ⟨rfl, vs, SqL.of (rl0.ex _ _ g2)⟩
          · obtain ⟨F3, s3, rl3, at3⟩ := fz_ok rl1 wr1 h3
            have l3 : S1.length = S3.length := fz_len h3
            have mj : m1 j = m j := (u1.ag j jl).trans mj0
            have kj : (m1 j).2 = false := by rw [mj]; exact jk
            obtain ⟨vs, g1, g2, g3⟩ := rl3.mt j ds hds kj
            rw [mj] at g2 g3
            refine ⟨(m j).1, vs, v, rfl, rfl, g3, by rw [g1.length]; exact few_lt hf, ?_⟩
            have rl4 := rl3.write hds kj (g1.append (.cons at3 .nil))
            rw [mj] at rl4
            have u01 : Up F m S.length F1 m1 := u0.trans u1 (Nat.le_refl _)
            have u4 : Up F m S.length F3 m1 := u01.trans ⟨s3, fun _ _ => rfl⟩ (f.mono h1)
            have er4 : ER X.K F3 m1 (S3.set j (true, ds ++ [d])).length en σ := by
              rw [List.length_set, ← l3]
              exact (er.up u01 (f.mono h1)).up ⟨s3, fun _ _ => rfl⟩ (Nat.le_refl _)
            exact q F3 m1 _ u4 rl4 σ er4
        · cases e
      · cases e
    · cases e
  · cases e
end
section
variable {en : En} {S : Sto} {f : SE} {r : SA} {i k : Nat}
@[simp] theorem r_lstM : (sLstM r).run en S = (r.run en S).bind fun p => if p.1.length ≤ 100000 then (musOf p.1).map fun is => (.ml is, p.2) else none := rfl
@[simp] theorem musOf_nil : musOf [] = some [] := rfl
@[simp] theorem musOf_cons {ws : List W} : musOf (.mu i :: ws) = (musOf ws).map fun is => i :: is := rfl
def appAtK (en : En) (i k : Nat) (d : PyData) (S : Sto) : Option (Fl × En × Sto) := match en[i]? with
  | some (some (.ml is)) => match is[k]? with
    | some j => match S[j]? with
      | some (true, ds) => if few ds = true then some (.nx, en, S.set j (true, ds ++ [d])) else none
      | _ => none
    | none => none
  | _ => none
theorem r_appAt : (gAppAt i k f).run en S = (f.run en S).bind fun p => (fz p.1 p.2).bind fun r => appAtK en i k r.1 r.2 := rfl
theorem tmpC_run {is : List Nat} (h : en[i]? = some (some (.ml is))) : (TmpA.c i r).run en S = (r.run en S).bind fun p => if is.length + p.1.length ≤ 100000 then some (is.map W.mu ++ p.1, p.2) else none := by
  show (match en[i]? with
    | some (some (.ml is)) => (r.run en S).bind fun p => if is.length + p.1.length ≤ 100000 then some (is.map W.mu ++ p.1, p.2) else none
    | _ => none) = _
  rw [h]
@[simp] theorem tmpC_dat {ws : List W} : (TmpA.c i r).dat ws S = (looks ws S).map .list := rfl
end
end Z

namespace Z
open PySem L2 PyProof.Rows
/-! ### dicts with numbers as keys: a cell holds the pairs -/
def keyD : PyData → Option Int
  | .tuple (.int k :: _) => some k
  | _ => none
def valD : PyData → PyData
  | .tuple [_, d] => d
  | _ => .none
def dGet : List PyData → Int → Option PyData
  | [], _ => none
  | p :: ps, k => if keyD p = some k then some (valD p) else dGet ps k
def dRepl (ds : List PyData) (k : Int) (d : PyData) : List PyData := ds.map fun p => if keyD p = some k then .tuple [.int k, d] else p
def dPut (ds : List PyData) (k : Int) (d : PyData) : List PyData := if (dGet ds k).isSome = true then dRepl ds k d else ds ++ [.tuple [.int k, d]]
theorem dPut_len (k : Int) (d : PyData) (ds : List PyData) : (dPut ds k d).length ≤ ds.length + 1 := by
  unfold dPut dRepl
  split
  · rw [List.length_map]; omega
  · simp
theorem dGet_repl (k j : Int) (d : PyData) : ∀ ds : List PyData, dGet (dRepl ds k d) j = if j = k then (dGet ds k).map (fun _ => d) else dGet ds j
  | [] => by by_cases h : j = k <;> simp [dRepl, dGet, h]
  | p :: ps => by
    have ih := dGet_repl k j d ps
    show dGet ((if keyD p = some k then .tuple [.int k, d] else p) :: dRepl ps k d) j = _
    by_cases h : keyD p = some k
    · rw [if_pos h]
      unfold dGet
      rw [ih, if_pos h]
      show (if some k = some j then _ else _) = _
      by_cases e : j = k
      · subst e
        rw [if_pos rfl, if_pos rfl]
        rfl
      · rw [if_neg (fun q => e (Option.some.inj q).symm), if_neg e, if_neg e, if_neg (fun q => e (Option.some.inj (h.symm.trans q)).symm)]
    · rw [if_neg h]
      unfold dGet
      rw [ih, if_neg h]
      by_cases e : j = k
      · subst e
        rw [if_neg h, if_pos rfl, if_pos rfl]
      · rw [if_neg e, if_neg e]
theorem dGet_app (j k : Int) (d : PyData) : ∀ ds : List PyData, dGet (ds ++ [.tuple [.int k, d]]) j = match dGet ds j with
    | some x => some x
    | none => if k = j then some d else none
  | [] => by
    show (if some k = some j then _ else _) = (if k = j then _ else _)
    by_cases h : k = j
    · rw [if_pos h, if_pos (by rw [h])]
      rfl
    · rw [if_neg h, if_neg (fun q => h (Option.some.inj q))]
      rfl
  | p :: ps => by
    show (if keyD p = some j then _ else dGet (ps ++ _) j) = match (if keyD p = some j then some (valD p) else dGet ps j) with
      | some x => some x
      | none => _
    by_cases h : keyD p = some j
    · rw [if_pos h, if_pos h]
    · rw [if_neg h, if_neg h]
      exact dGet_app j k d ps
theorem dGet_put (k j : Int) (d : PyData) (ds : List PyData) : dGet (dPut ds k d) j = if j = k then some d else dGet ds j := by
  unfold dPut
  cases h : dGet ds k with
  | some x =>
    rw [if_pos (show (some x).isSome = true from rfl), dGet_repl, h]
    rfl
  | none =>
    rw [if_neg (show ¬ (none : Option PyData).isSome = true by simp), dGet_app]
    by_cases e : j = k
    · subst e
      simp [h]
    · rw [if_neg e]
      cases dGet ds j with
      | some x => rfl
      | none => exact if_neg (fun q => e q.symm)
theorem KvAll.len {F : Hp} {kvs : List (Key × V)} {ds : List PyData} (h : KvAll F kvs ds) : kvs.length = ds.length := by
  induction h with
  | nil => rfl
  | cons _ _ ih => rw [List.length_cons, List.length_cons, ih]
theorem KvAll.get {F : Hp} {kvs : List (Key × V)} {ds : List PyData} (h : KvAll F kvs ds) (k : Int) : (dGet ds k = none ∧ valV kvs (.inl k) = none) ∨ ∃ v d, dGet ds k = some d ∧ valV kvs (.inl k) = some v ∧ At F v d := by
  induction h with
  | nil => exact .inl ⟨rfl, rfl⟩
  | @cons j v d kvs ds a _ ih =>
    unfold dGet
    show ((if some j = some k then _ else _) = _ ∧ _) ∨ ∃ v' d', (if some j = some k then some d else _) = _ ∧ _
    by_cases e : j = k
    · subst e
      rw [if_pos rfl]
      exact .inr ⟨v, d, by rw [if_pos rfl], valV_pos rfl, a⟩
    · have n1 : ¬ some j = some k := fun q => e (Option.some.inj q)
      have n2 : ¬ ((Sum.inl j : Key) = .inl k) := fun q => e (Sum.inl.inj q)
      have e3 : valV (((Sum.inl j : Key), v) :: kvs) (.inl k) = valV kvs (.inl k) := valV_neg n2
      rw [e3]
      simp only [if_neg n1]
      exact ih
theorem KvAll.repl {F : Hp} {kvs : List (Key × V)} {ds : List PyData} (h : KvAll F kvs ds) (k : Int) {v : V} {d : PyData} (a : At F v d) : KvAll F (kvs.map fun kv => if kv.1 = (.inl k : Key) then (kv.1, v) else kv) (dRepl ds k d) := by
  induction h with
  | nil => exact .nil
  | @cons j v' d' kvs ds a' _ ih =>
    show KvAll F ((if (Sum.inl j : Key) = .inl k then ((.inl j : Key), v) else (.inl j, v')) :: _) ((if some j = some k then .tuple [.int k, d] else .tuple [.int j, d']) :: dRepl ds k d)
    by_cases e : j = k
    · subst e
      rw [if_pos rfl, if_pos rfl]
      exact .cons a ih
    · rw [if_neg (fun q => e (Sum.inl.inj q)), if_neg (fun q => e (Option.some.inj q))]
      exact .cons a' ih
theorem KvAll.snoc {F : Hp} {kvs : List (Key × V)} {ds : List PyData} (h : KvAll F kvs ds) (k : Int) {v : V} {d : PyData} (a : At F v d) : KvAll F (kvs ++ [(.inl k, v)]) (ds ++ [.tuple [.int k, d]]) := by
  induction h with
  | nil => exact .cons a .nil
  | cons a' _ ih => exact .cons a' ih
theorem KvAll.put {F : Hp} {kvs : List (Key × V)} {ds : List PyData} (h : KvAll F kvs ds) (k : Int) {v : V} {d : PyData} (a : At F v d) : KvAll F (putK kvs (.inl k) v) (dPut ds k d) := by
  unfold putK dPut
  rw [valV_any]
  rcases h.get k with ⟨h1, h2⟩ | ⟨v0, d0, h1, h2, _⟩
  · rw [h1, h2, if_neg (show ¬ (none : Option V).isSome = true by simp), if_neg (show ¬ (none : Option PyData).isSome = true by simp)]
    exact h.snoc k a
  · rw [h1, h2, if_pos (show (some v0).isSome = true from rfl), if_pos (show (some d0).isSome = true from rfl)]
    exact h.repl k a
theorem room1 {k : Nat} {A : Around} (r : Room k A) : A.units + 1 < cLine := by have := room65 r; omega
/-! ### {}, d.get(k), d.get(k, x), d[k], d[k] = v -/
def sDNew : SE := ⟨fun _ S => some (.dk S.length, S ++ [(true, [])]), fun e => by cases e; simp⟩
def dkAt (en : En) (i : Nat) (S : Sto) : Option (List PyData) := match en[i]? with
  | some (some (.dk j)) => match S[j]? with
    | some (true, ds) => some ds
    | _ => none
  | _ => none
def intOf (w : W) (S : Sto) : Option Int := match look w S with
  | some (.int k) => some k
  | _ => none
def sDGet1 (i : Nat) (fk : SE) : SE := ⟨fun en S => (fk.run en S).bind fun p => (intOf p.1 p.2).bind fun k => (dkAt en i p.2).map fun ds => (.pu ((dGet ds k).getD .none), p.2), fun {en S w S'} e => by
  obtain ⟨p, h1, e⟩ := bind_some_of e
  obtain ⟨k, h2, e⟩ := bind_some_of e
  obtain ⟨ds, h3, e⟩ := Option.map_eq_some_iff.mp e
  cases e
  exact fk.mono h1⟩
def sDGet2 (i : Nat) (fk fx : SE) : SE := ⟨fun en S => (fk.run en S).bind fun p => (intOf p.1 p.2).bind fun k => (fx.run en p.2).bind fun x => (fz x.1 x.2).bind fun r => (dkAt en i r.2).map fun ds => (.pu ((dGet ds k).getD r.1), r.2), fun {en S w S'} e => by
  obtain ⟨p, h1, e⟩ := bind_some_of e
  obtain ⟨k, h2, e⟩ := bind_some_of e
  obtain ⟨x, h3, e⟩ := bind_some_of e
  obtain ⟨r, h4, e⟩ := bind_some_of e
  obtain ⟨ds, h5, e⟩ := Option.map_eq_some_iff.mp e
  cases e
  rw [← fz_len h4]
  exact Nat.le_trans (fk.mono h1) (fx.mono h3)⟩
def sDIx (i : Nat) (fk : SE) : SE := ⟨fun en S => (fk.run en S).bind fun p => (intOf p.1 p.2).bind fun k => (dkAt en i p.2).bind fun ds => (dGet ds k).map fun d => (.pu d, p.2), fun {en S w S'} e => by
  obtain ⟨p, h1, e⟩ := bind_some_of e
  obtain ⟨k, h2, e⟩ := bind_some_of e
  obtain ⟨ds, h3, e⟩ := bind_some_of e
  obtain ⟨d, h4, e⟩ := Option.map_eq_some_iff.mp e
  cases e
  exact fk.mono h1⟩
def gDPut (i : Nat) (fk fv : SE) : SS := ⟨fun en S => (fv.run en S).bind fun x => (fk.run en x.2).bind fun p => (intOf p.1 p.2).bind fun k => (fz x.1 p.2).bind fun r => match en[i]? with
  | some (some (.dk j)) => match r.2[j]? with
    | some (true, ds) => if few ds = true then some (.nx, en, r.2.set j (true, dPut ds k r.1)) else none
    | _ => none
  | _ => none, fun {en S r} e => by
  obtain ⟨x, h1, e⟩ := bind_some_of e
  obtain ⟨p, h2, e⟩ := bind_some_of e
  obtain ⟨k, h3, e⟩ := bind_some_of e
  obtain ⟨z, h4, e⟩ := bind_some_of e
  have l := Nat.le_trans (fv.mono h1) (fk.mono h2)
  rw [fz_len h4] at l
  split at e
  · split at e
    · split at e <;> cases e
      show S.length ≤ (z.2.set _ _).length
      rw [List.length_set]
      exact l
    · cases e
  · cases e⟩
theorem dkAt_some {en : En} {i : Nat} {S : Sto} {ds : List PyData} (h : dkAt en i S = some ds) : ∃ j, en[i]? = some (some (.dk j)) ∧ S[j]? = some (true, ds) := by
  unfold dkAt at h
  split at h
  · rename_i j hj
    split at h
    · rename_i ds' hd
      cases h
      exact ⟨j, hj, hd⟩
    · cases h
  · cases h
theorem intOf_ok {K : PySem.W.Frag} {F : Hp} {m : Nat → Addr × Bool} {S : Sto} {P : Pn} {H : Hp} {n : Nat} {v : V} {w : W} {k : Int} (r : Rl F m S P H) (h : WR K F m n v w) (e : intOf w S = some k) : v = .int k := by
  unfold intOf at e
  split at e
  · rename_i j hj
    cases e
    exact (look_ok r h hj).int
  · cases e
theorem er_dk {K : PySem.W.Frag} {F : Hp} {m : Nat → Addr × Bool} {n : Nat} {en : En} {σ : L2.St} {i j : Nat} (r : ER K F m n en σ) (h : en[i]? = some (some (.dk j))) : σ[i]? = some (some (.ref (m j).1)) ∧ j < n ∧ (m j).2 = true := by
  obtain ⟨v, h1, rfl, h2, h3⟩ := r.at' i _ h
  exact ⟨h1, h2, h3⟩
theorem Rl.dkLive {F : Hp} {m : Nat → Addr × Bool} {S : Sto} {P : Pn} {H : Hp} (r : Rl F m S P H) {j : Nat} (hj : j < S.length) (k : (m j).2 = true) : ∃ kvs, H (m j).1 = some (.dK kvs) := by
  cases hq : S[j] with
  | mk b ds =>
    have e : S[j]? = some (b, ds) := by rw [List.getElem?_eq_getElem hj, hq]
    cases b with
    | true =>
      obtain ⟨kvs, _, _, h⟩ := r.dk j ds e k
      exact ⟨kvs, h⟩
    | false =>
      have := r.nf j ds e
      rw [k] at this
      cases this
section
variable {X : Cx} {e f : Expr} {pos px sp apos cpos : Pos} {fk fx fv : SE} {x : Str} {i : Nat}
theorem z_dnew : PE X (.Dict [] [] pos) (tI X.K sDNew) := pe_imp pe_dnewK fun σ H Q ⟨F, m, S, P, en, w, S1, rl, er, run, q⟩ p hp => by
  cases run
  have mo : ∀ {i : Nat}, i < S.length → (fun i => if i = S.length then (p, true) else m i) i = m i := fun {i} hi => if_neg (by omega)
  have mn : (fun i => if i = S.length then (p, true) else m i) S.length = (p, true) := if_pos rfl
  exact q F (fun i => if i = S.length then (p, true) else m i) _ _ ⟨Same.refl F, fun i hi => mo hi⟩ (rl.newC hp (b := true) ⟨[], .nil, rfl⟩ mo mn) ⟨by rw [mn], by show S.length < (S ++ [(true, [])]).length; simp, by rw [mn]⟩
theorem dget_of {F F' : Hp} {m : Nat → Addr × Bool} {S : Sto} {P : Pn} {H : Hp} (r : Rl F m S P H) {j : Nat} {ds : List PyData} (e : S[j]? = some (true, ds)) (hk : (m j).2 = true) (k : Int) {z : V} {dz : PyData} (az : At F z dz) : ∃ o : Option V, DGet H (m j).1 (.int k) o ∧ At F (o.getD z) ((dGet ds k).getD dz) ∧ ∀ d, dGet ds k = some d → ∃ v, o = some v ∧ At F v d := by
  obtain ⟨kvs, h1, _, h3⟩ := r.dk j ds e hk
  refine ⟨_, DGet.k (k := .inl k) h3, ?_⟩
  rcases h1.get k with ⟨g1, g2⟩ | ⟨v, d, g1, g2, g3⟩
  · rw [g1, g2]
    exact ⟨az, fun d q => by cases q⟩
  · rw [g1, g2]
    exact ⟨g3, fun d' q => by cases q; exact ⟨v, rfl, g3⟩⟩
theorem z_dget1 (hu : X.A.units + 1 < cLine) (hv : PE X (.Name x px) (tVar i)) (he : PE X e (tI X.K fk)) (m : M1 X (.Name x px) "get" apos e cpos) : PE X (.Call (.Attribute (.Name x px) "get" apos) [e] [] cpos) (tI X.K (sDGet1 i fk)) :=
  pe_imp (pe_dget1 hu hv he m) fun σ H Q ⟨F, m, S, P, en, w, S1, rl, er, run, q⟩ => by
  obtain ⟨p, h1, run⟩ := bind_some_of run
  obtain ⟨k, h2, run⟩ := bind_some_of run
  obtain ⟨ds, h3, run⟩ := Option.map_eq_some_iff.mp run
  cases run
  obtain ⟨j, hj, hd⟩ := dkAt_some h3
  obtain ⟨e1, e2, e3⟩ := er_dk er hj
  refine ⟨_, e1, _, rfl, .inl (let ⟨kvs, h⟩ := rl.dkLive e2 e3; ⟨kvs, .inl h⟩), F, m, S, P, en, p.1, p.2, rl, er, h1, fun F1 m1 H1 y u1 rl1 wr1 => ?_⟩
  obtain rfl := intOf_ok rl1 wr1 h2
  have mj : m1 j = m j := u1.ag j e2
  obtain ⟨o, g1, g2, _⟩ := dget_of (F' := F1) rl1 hd (by rw [mj]; exact e3) k (z := .non) (dz := .none) .non
  rw [mj] at g1
  exact ⟨o, g1, q F1 m1 H1 _ u1 rl1 g2⟩
theorem z_dget2 (hu : X.A.units + 1 < cLine) (hv : PE X (.Name x px) (tVar i)) (he : PE X e (tI X.K fk)) (hf : PE X f (tI X.K fx)) (m : M2 X (.Name x px) "get" apos e f cpos) : PE X (.Call (.Attribute (.Name x px) "get" apos) [e, f] [] cpos) (tI X.K (sDGet2 i fk fx)) :=
  pe_imp (pe_dget2 hu hv he hf m) fun σ H Q ⟨F, m, S, P, en, w, S1, rl, er, run, q⟩ => by
  obtain ⟨p, h1, run⟩ := bind_some_of run
  obtain ⟨k, h2, run⟩ := bind_some_of run
  obtain ⟨z, h4, run⟩ := bind_some_of run
  obtain ⟨r, h5, run⟩ := bind_some_of run
  obtain ⟨ds, h3, run⟩ := Option.map_eq_some_iff.mp run
  cases run
  obtain ⟨j, hj, hd⟩ := dkAt_some h3
  obtain ⟨e1, e2, e3⟩ := er_dk er hj
  refine ⟨_, e1, _, rfl, .inl (let ⟨kvs, h⟩ := rl.dkLive e2 e3; ⟨kvs, .inl h⟩), F, m, S, P, en, p.1, p.2, rl, er, h1, fun F1 m1 H1 y u1 rl1 wr1 => ?_⟩
  obtain rfl := intOf_ok rl1 wr1 h2
  refine ⟨F1, m1, p.2, P, en, z.1, z.2, rl1, er.up u1 (fk.mono h1), h4, fun F2 m2 H2 zv u2 rl2 wr2 => ?_⟩
  obtain ⟨F3, s3, rl3, at3⟩ := fz_ok rl2 wr2 h5
  have mj : m2 j = m j := (u2.ag j (Nat.lt_of_lt_of_le e2 (fk.mono h1))).trans (u1.ag j e2)
  obtain ⟨o, g1, g2, _⟩ := dget_of (F' := F3) rl3 hd (by rw [mj]; exact e3) k at3
  rw [mj] at g1
  exact ⟨o, g1, q F3 m2 H2 _ ((u1.trans u2 (fk.mono h1)).trans ⟨s3, fun _ _ => rfl⟩ (Nat.le_trans (fk.mono h1) (fx.mono h4))) rl3 g2⟩
theorem z_dix (hu : X.A.units + 1 < cLine) (hv : PE X (.Name x px) (tVar i)) (he : PE X e (tI X.K fk)) (hs : NoSl e) : PE X (.Subscript (.Name x px) e pos) (tI X.K (sDIx i fk)) :=
  pe_imp (pe_dget hu hv he hs) fun σ H Q ⟨F, m, S, P, en, w, S1, rl, er, run, q⟩ => by
  obtain ⟨p, h1, run⟩ := bind_some_of run
  obtain ⟨k, h2, run⟩ := bind_some_of run
  obtain ⟨ds, h3, run⟩ := bind_some_of run
  obtain ⟨d, h4, run⟩ := Option.map_eq_some_iff.mp run
  cases run
  obtain ⟨j, hj, hd⟩ := dkAt_some h3
  obtain ⟨e1, e2, e3⟩ := er_dk er hj
  refine ⟨_, e1, F, m, S, P, en, p.1, p.2, rl, er, h1, fun F1 m1 H1 y u1 rl1 wr1 => ?_⟩
  obtain rfl := intOf_ok rl1 wr1 h2
  have mj : m1 j = m j := u1.ag j e2
  obtain ⟨o, g1, _, g3⟩ := dget_of (F' := F1) rl1 hd (by rw [mj]; exact e3) k (z := .non) (dz := .none) .non
  obtain ⟨v, rfl, g4⟩ := g3 d h4
  rw [mj] at g1
  exact ⟨_, v, rfl, g1, q F1 m1 H1 _ u1 rl1 g4⟩
theorem y_dput (hu : X.A.units + 1 < cLine) (hv : PE X (.Name x px) (tVar i)) (hk : PE X e (tI X.K fk)) (hx : PE X f (tI X.K fv)) (hs : swapsWith f (some (.Subscript (.Name x px) e sp)) pos.line X.env = pure false) :
    PS X (.Assign [.Subscript (.Name x px) e sp] f pos) (tS X.K (gDPut i fk fv)) := by
  refine ps_imp (ps_dput hu hv hk hx hs) fun D σ H ⟨F, m, S, P, en, r, rl, er, run, q⟩ => ?_
  obtain ⟨⟨w, S1⟩, h1, run⟩ := bind_some_of run
  obtain ⟨⟨y, S2⟩, h2, run⟩ := bind_some_of run
  obtain ⟨k, h3, run⟩ := bind_some_of run
  obtain ⟨⟨d, S3⟩, h4, run⟩ := bind_some_of run
  split at run
  · rename_i j hj
    split at run
    · rename_i ds hds
      split at run
      · rename_i hf
        cases run
        obtain ⟨e1, e2, e3⟩ := er_dk er hj
        refine ⟨F, m, S, P, en, w, S1, rl, er, h1, fun F1 m1 H1 v u1 rl1 wr1 => ⟨.ref (m j).1, e1, F1, m1, S1, P, en, y, S2, rl1, er.up u1 (fv.mono h1), h2, fun F2 m2 H2 yv u2 rl2 wr2 => ?_⟩⟩
        obtain rfl := intOf_ok rl2 wr2 h3
        obtain ⟨F3, s3, rl3, at3⟩ := fz_ok rl2 (wr1.up u2 (fk.mono h2)) h4
        have l3 : S2.length = S3.length := fz_len h4
        have mj : m2 j = m j := (u2.ag j (Nat.lt_of_lt_of_le e2 (fv.mono h1))).trans (u1.ag j e2)
        have kj : (m2 j).2 = true := by rw [mj]; exact e3
        obtain ⟨kvs, g1, g2, g3⟩ := rl3.dk j ds hds kj
        have hl : kvs.length < sizeLine := by rw [g1.len]; exact few_lt hf
        refine ⟨(m j).1, _, rfl, DPut.k (k := .inl k) (by rw [← mj]; exact g3) hl, ?_⟩
        have rl4 := rl3.writeC hds (o := .dK (putK kvs (.inl k) v)) (by rw [kj]; exact ⟨_, g1.put k at3, rfl⟩)
        rw [mj] at rl4
        have u4 : Up F m S.length F3 m2 := (u1.trans u2 (fv.mono h1)).trans ⟨s3, fun _ _ => rfl⟩ (Nat.le_trans (fv.mono h1) (fk.mono h2))
        have er4 : ER X.K F3 m2 (S3.set j (true, dPut ds k d)).length en σ := by
          rw [List.length_set, ← l3]
          exact er.up u4 (Nat.le_trans (fv.mono h1) (fk.mono h2))
        exact q F3 m2 _ u4 rl4 σ er4
      · cases run
    · cases run
  · cases run
end
section
variable {en : En} {S : Sto} {fk fx fv : SE} {i : Nat}
@[simp] theorem r_dnew : sDNew.run en S = some (.dk S.length, S ++ [(true, [])]) := rfl
@[simp] theorem r_dget1 : (sDGet1 i fk).run en S = (fk.run en S).bind fun p => (intOf p.1 p.2).bind fun k => (dkAt en i p.2).map fun ds => (.pu ((dGet ds k).getD .none), p.2) := rfl
@[simp] theorem r_dget2 : (sDGet2 i fk fx).run en S = (fk.run en S).bind fun p => (intOf p.1 p.2).bind fun k => (fx.run en p.2).bind fun x => (fz x.1 x.2).bind fun r => (dkAt en i r.2).map fun ds => (.pu ((dGet ds k).getD r.1), r.2) := rfl
@[simp] theorem r_dix : (sDIx i fk).run en S = (fk.run en S).bind fun p => (intOf p.1 p.2).bind fun k => (dkAt en i p.2).bind fun ds => (dGet ds k).map fun d => (.pu d, p.2) := rfl
@[simp] theorem intOf_int {k : Int} : intOf (.pu (.int k)) S = some k := rfl
theorem dkAt_of {j : Nat} {ds : List PyData} (h : en[i]? = some (some (.dk j))) (g : S[j]? = some (true, ds)) : dkAt en i S = some ds := by
  unfold dkAt
  rw [h]
  show (match S[j]? with
    | some (true, ds) => some ds
    | _ => none) = _
  rw [g]
def putK' (en : En) (i : Nat) (k : Int) (d : PyData) (S : Sto) : Option (Fl × En × Sto) := match en[i]? with
  | some (some (.dk j)) => match S[j]? with
    | some (true, ds) => if few ds = true then some (.nx, en, S.set j (true, dPut ds k d)) else none
    | _ => none
  | _ => none
theorem r_dput : (gDPut i fk fv).run en S = (fv.run en S).bind fun x => (fk.run en x.2).bind fun p => (intOf p.1 p.2).bind fun k => (fz x.1 p.2).bind fun r => putK' en i k r.1 r.2 := rfl
theorem putK_of {j : Nat} {ds : List PyData} {k : Int} {d : PyData} (h : en[i]? = some (some (.dk j))) (g : S[j]? = some (true, ds)) (l : ds.length ≤ 100000) : putK' en i k d S = some (.nx, en, S.set j (true, dPut ds k d)) := by
  unfold putK'
  rw [h]
  show (match S[j]? with
    | some (true, ds) => if few ds = true then some (Fl.nx, en, S.set j (true, dPut ds k d)) else none
    | _ => none) = _
  rw [g]
  exact if_pos (decide_eq_true l)
end
end Z

namespace PySem
open Sem (wp)
section
variable {prog : Program} {w : World} {A : Around} {E : Value → Shared → Prop} {s : Shared}
/-- list.extend over a range whose bounds are not small -/
theorem xl_extend {R : Result → Shared → Prop} {r : Addr} {a b c : Int} {t u v : Tok} {n : Nat} (hh : A.handled = none) (hr : IsRange s.heap r a b c t u v) (hbig : Builtin.Range.small a b c = false)
    (hn : Builtin.Range.rangeSize a b c = n) (hlen : n ≤ 2 ^ 24) (S : Addr) (res : Value) (c₀ : Nat) (hS : s.heap.get? S = some { cls := .type "list", data := .seq #[] c₀ })
    (hR : ∀ h' tk acc' c', (∀ b o, b ≠ S → s.heap.get? b = some o → h'.get? b = some o) → h'.get? S = some { cls := .type "list", dict := none, data := .seq acc' c', slots := #[] } →
      ItemsOf (fun i v => ∃ t, v = .int (a + i * c) t) acc' n → R (.ok (.ret res)) { s with heap := h', toks := tk }) :
    wpAny (model prog w) A.in1 (Builtin.List.listExtendWith (.ref S) (.ref r) res)
      (fun fin s' => match fin with | .done f => R (.ok f) s' | .again c' => c'.quiet = true ∧ codeAny (model prog w) A c' R s') (fun e s' => R (.error e) s') s := by
  have hSr : S ≠ r := fun e => by rw [e, hr] at hS; simp at hS
  have hSI : S ≠ s.heap.objs.size := Nat.ne_of_lt (Heap.lt_size hS)
  have hSf : S ∉ [s.heap.objs.size] := fun hm => hSI (List.mem_singleton.mp hm)
  have W := (Walks.longrange (prog := prog) (w := w) (A := A.in1) hh s.heap.objs.size a c n).toS
  have key : ∀ (h : Heap) (c₁ tk : Nat), IsLongIter h s.heap.objs.size (a + ((0 : Nat) : Int) * c) ((n : Int) - ((0 : Nat) : Int)) c → (∀ b o, b ≠ S → s.heap.get? b = some o → h.get? b = some o) →
      h.get? S = some { cls := .type "list", data := .seq #[] c₁ } → codeAny (model prog w) A (.builtin "list.extend.loop" ⟨[.ref S, .ref s.heap.objs.size, res], []⟩) R { s with heap := h, toks := tk } := by
    intro h c₁ tk hit hk hS₁
    refine codeAny_extend_loopS W (by rw [sizeLine_eq]; omega) S hSf res n 0 _ #[] c₁ rfl (Nat.zero_le _) hit hS₁ (ItemsOf.nil _) fun s' acc' c' hm hS' hacc => ?_
    rw [Moved.eq_with hm]
    refine hR s'.heap s'.toks acc' c' (fun b o hb e => hm.heap b o (fun hmem => ?_) (hk b o hb e)) hS' hacc
    rcases List.mem_cons.mp hmem with e' | hmem
    · exact hb e'
    · exact absurd (Heap.lt_size e) (by rw [List.mem_singleton.mp hmem]; exact Nat.lt_irrefl _)
  unfold Builtin.List.listExtendWith
  refine wpAny_bind (wpAny_typeOf (T := "range") ⟨_, hr, rfl⟩ ?_)
  have h1 : Builtin.List.listSameRef (.ref S) (.ref r) = false := by simp [Builtin.List.listSameRef, hSr]
  have h2 : (Value.type "range" == Value.type "list") = false := by decide
  have h3 : (Value.type "range" == Value.type "tuple") = false := by decide
  simp only [h1, h2, h3, Bool.or_false, Bool.false_eq_true, if_false]
  refine wpAny_bind (wpAny_pyIter_longrange hr hbig ?_)
  refine wpAny_bind (wpAny_holding (wpAny_hint_range (n := n) (Heap.get?_push_of_some _ hr) hn hlen ?_))
  have hit₁ : IsLongIter (s.heap.push { cls := .type "longrange_iterator", data := .fields #[rawInt a, rawInt (Builtin.Range.rangeSize a b c), rawInt c] }) s.heap.objs.size (a + ((0 : Nat) : Int) * c) ((n : Int) - ((0 : Nat) : Int)) c := by
    show IsLongIter _ _ _ _ _; rw [hn]; simpa using Heap.get?_push_size _ rfl
  have hS₁ := Heap.get?_push_of_some { cls := .type "longrange_iterator", data := .fields #[rawInt a, rawInt (Builtin.Range.rangeSize a b c), rawInt c] } hS
  refine wpAny_ite_split (fun _ => ?_) (fun _ => wpAny_pure ⟨plainId_quiet F.plain_extend_loop _, key _ c₀ _ hit₁ (fun b o _ e => Heap.get?_push_of_some _ e) hS₁⟩)
  refine wpAny_bind (wpAny_rule ?_)
  refine wpAny_bind ?_
  show wpAny _ _ (updateSeq S (·.push .none) >>= fun _ => updateSeq S (·.pop)) _ _ _
  refine wpAny_bind (wpAny_updateSeq hS₁ rfl ?_)
  have hS₂ := Heap.get?_update_self (Obj.mapSeq (·.push Value.none)) hS₁ rfl
  refine wpAny_updateSeq (hz := by seq_fits) hS₂ rfl ?_
  have hS₃ := Heap.get?_update_self (Obj.mapSeq (·.pop)) hS₂ rfl
  refine wpAny_pure ⟨plainId_quiet F.plain_extend_loop _, key _ _ _ ?_ (fun b o hb e => ?_) hS₃⟩
  · exact (Heap.get?_update_other _ _ hSI).trans ((Heap.get?_update_other _ _ hSI).trans hit₁)
  · exact (Heap.get?_update_other _ _ (Ne.symm hb)).trans ((Heap.get?_update_other _ _ (Ne.symm hb)).trans (Heap.get?_push_of_some _ e))
theorem xl_init {R : Result → Shared → Prop} {r : Addr} {a b c : Int} {t u v : Tok} {n : Nat} (hh : A.handled = none) (hr : IsRange s.heap r a b c t u v) (hbig : Builtin.Range.small a b c = false)
    (hn : Builtin.Range.rangeSize a b c = n) (hlen : n ≤ 2 ^ 24) (S : Addr) (hS : s.heap.get? S = some { cls := .type "list", data := .seq #[] })
    (hR : ∀ h' tk acc' c', (∀ b o, b ≠ S → s.heap.get? b = some o → h'.get? b = some o) → h'.get? S = some { cls := .type "list", dict := none, data := .seq acc' c', slots := #[] } →
      ItemsOf (fun i v => ∃ t, v = .int (a + i * c) t) acc' n → R (.ok (.ret .none)) { s with heap := h', toks := tk }) :
    wpAny (model prog w) A.in1 (Builtin.«list.__init__» ⟨[.ref S, .ref r], []⟩)
      (fun fin s' => match fin with | .done f => R (.ok f) s' | .again c' => c'.quiet = true ∧ codeAny (model prog w) A c' R s') (fun e s' => R (.error e) s') s := by
  have hSr : S ≠ r := fun e => by rw [e, hr] at hS; simp at hS
  show wpAny _ _ (do let old ← Builtin.List.listItems (.ref S); Builtin.List.listUpdate (.ref S) (fun _ => #[]); letGo old.toList.reverse; Builtin.List.listExtendWith (.ref S) (.ref r) .none) _ _ s
  refine wpAny_bind ?_
  unfold Builtin.List.listItems
  refine wpAny_bind (wpAny_seqItems hS rfl (wpAny_pure ?_))
  show wpAny _ _ (updateSeq S (fun _ => #[]) >>= fun _ => letGo (#[] : Array Value).toList.reverse >>= fun _ => Builtin.List.listExtendWith (.ref S) (.ref r) .none) _ _ s
  refine wpAny_bind (wpAny_updateSeq hS rfl ?_)
  have hS₂ := Heap.get?_update_self (Obj.mapSeq (fun _ => (#[] : Array Value))) hS rfl
  have oth : ∀ b o, b ≠ S → s.heap.get? b = some o → (s.heap.update S (Obj.mapSeq (fun _ => (#[] : Array Value)))).get? b = some o :=
    fun b o hb e => (Heap.get?_update_other _ _ (Ne.symm hb)).trans e
  refine wpAny_bind (wpAny_letGo ?_)
  refine xl_extend hh (oth r _ (Ne.symm hSr) hr) hbig hn hlen S .none _ hS₂ fun h' tk acc' c' hk hS' hacc => ?_
  exact hR h' tk acc' c' (fun b o hb e => hk b o hb (oth b o hb e)) hS' hacc
theorem xl_call {Q : Value → Shared → Prop} {r : Addr} {a b c : Int} {t u v : Tok} {n : Nat} (hh : A.handled = none) (hr : IsRange s.heap r a b c t u v)
    (hn : Builtin.Range.rangeSize a b c = n) (hlen : n ≤ 2 ^ 24)
    (hQ : ∀ h' tk acc' c', (∀ b o, s.heap.get? b = some o → h'.get? b = some o) →
      h'.get? s.heap.objs.size = some { cls := .type "list", dict := none, data := .seq acc' c', slots := #[] } → ItemsOf (fun i v => ∃ t, v = .int (a + i * c) t) acc' n → Q (.ref s.heap.objs.size) { s with heap := h', toks := tk }) :
    wpAny (model prog w) A (call (.type "list") [.ref r]) Q E s := by
  by_cases hs : Builtin.Range.small a b c = true
  · exact call_list_range hh hr hs hn hlen hQ
  refine callType_codes (Q₁ := fun obj s₁ => obj = .ref s.heap.objs.size ∧ s₁ = { s with heap := s.heap.push { cls := .type "list", data := .seq #[] } }) F.called_list (F.typeCall_list_1 _) F.entry_list_init
    (code_list_new _ ⟨rfl, rfl⟩) fun obj s₁ h₁ => ?_
  obtain ⟨rfl, rfl⟩ := h₁
  have hS : (s.heap.push { cls := .type "list", data := .seq #[] }).get? s.heap.objs.size = some { cls := .type "list", data := .seq #[] } := Heap.get?_push_size _ rfl
  refine ⟨⟨_, hS, rfl⟩, F.args_list_init_2 _ _, xl_init (A := A.in1) hh (Heap.get?_push_of_some _ hr) (by simpa using hs) hn hlen _ hS fun h' tk acc' c' hk hS' hacc => ?_⟩
  exact ⟨rfl, hQ h' tk acc' c' (fun b o e => hk b o (Nat.ne_of_lt (Heap.lt_size e)) (Heap.get?_push_of_some _ e)) hS' hacc⟩
end
end PySem
namespace Z
open PySem L2 PyProof.Rows
/-! ### list(range(a, b)), any bounds -/
def xRg (te : L2.St → Hp → (Int → Int → Hp → Prop) → Prop) : TE := fun σ H Q => te σ H fun a b H1 => (b - a).toNat ≤ 2 ^ 24 ∧ ∀ q, H1 q = none → Q (.ref q) (upd H1 q (.lst (rgV a b)))
theorem pe_xRg {X : Cx} {e : Expr} {te : L2.St → Hp → (Int → Int → Hp → Prop) → Prop} {p pos : Pos} (hc : X.calm = true) (hg : Gl X "list") (hm : X.mg "list" = none) (he : PRg X e te) (na : starEach [e] X.env = (false, eval e X.env) :: starEach [] X.env := by rfl) : PE X (.Call (.Name "list" p) [e] [] pos) (xRg te) := by
  refine ⟨fun pins s σ H Q I h => ?_⟩
  refine Call_ (ld_blt I hg hm boot_list (PyProof.Rows.callWith_type1 (args_cons (thn (he pins s σ H _ I h) fun x s1 ⟨r, a, b, t, u, v, H1, ex, hr, I1, ok, q⟩ => args_nil ?_) na) na))
  subst ex
  refine xl_call (n := (b - a).toNat) (I1.ok.hd hc) hr (rangeSize_nat a b) ok fun h' tk acc c' hk e' hi => ?_
  refine ⟨.ref s1.heap.objs.size, upd H1 s1.heap.objs.size (.lst (rgV a b)), I1.laid hk (Nat.le_refl _) (show ObjOk X.prog X.w _ _ _ (.lst (rgV a b)) from ⟨?_, acc.toList, c', vals_rg hi, ?_⟩), rfl, q _ (I1.hok.fresh (Nat.le_refl _))⟩
  · rw [rgV_length, sizeLine_eq]; omega
  · rw [Array.toArray_toList]; exact e'
def fewOf (i j : Int) : Bool := Nat.ble (j - i).toNat 100000
def xrgK (mt : Bool) (x y : W) (S : Sto) : Option (W × Sto) := match x, y with
  | .pu (.int i), .pu (.int j) => if fewOf i j = true then some (mkL mt (rngD i j) S) else none
  | _, _ => none
def sXrg (mt : Bool) (f g : SE) : SE := ⟨fun en S => (f.run en S).bind fun p => (g.run en p.2).bind fun q => xrgK mt p.1 q.1 q.2, fun {en S w S'} e => by
  obtain ⟨p, h1, e⟩ := bind_some_of e
  obtain ⟨q, h2, e⟩ := bind_some_of e
  unfold xrgK at e
  split at e
  · split at e
    · rename_i i j _ _ _
      have h := mkL_len (mt := mt) (ds := rngD i j) (S := q.2)
      rw [Option.some.inj e] at h
      exact Nat.le_trans (Nat.le_trans (f.mono h1) (g.mono h2)) h
    · cases e
  · cases e⟩
theorem z_xrg {X : Cx} {e : Expr} {mt : Bool} {f g : SE} {p pos : Pos} {ta tb : TE} (hc : X.calm = true) (hg : Gl X "list") (hm : X.mg "list" = none) (he : PRg X e (tRg2 ta tb)) (h1 : ta = tI X.K f) (h2 : tb = tI X.K g)
    (na : starEach [e] X.env = (false, eval e X.env) :: starEach [] X.env := by rfl) : PE X (.Call (.Name "list" p) [e] [] pos) (tI X.K (sXrg mt f g)) := by
  subst h1 h2
  refine pe_imp (pe_xRg hc hg hm he na) fun σ H Q ⟨F, m, S, P, en, w, S', rl, er, run, q⟩ => ?_
  obtain ⟨⟨x, S1⟩, h1, e⟩ := bind_some_of run
  obtain ⟨⟨y, S2⟩, h2, e⟩ := bind_some_of e
  refine ⟨F, m, S, P, en, x, S1, rl, er, h1, fun F1 m1 H1 v u1 rl1 wr1 => ⟨F1, m1, S1, P, en, y, S2, rl1, er.up u1 (f.mono h1), h2, fun F2 m2 H2 v2 u2 rl2 wr2 => ?_⟩⟩
  have e : xrgK mt x y S2 = some (w, S') := e
  unfold xrgK at e
  split at e
  · split at e
    · rename_i i j _ _ hk
      cases wr1
      cases wr2
      have hk := Nat.le_of_ble_eq_true hk
      refine ⟨i, j, rfl, rfl, by omega, mkL_ok (K := X.K) (mt := mt) rl2 (atall_rng i j) fun F4 m4 H4 v4 u4 rl4 wr4 => ?_⟩
      have e' : mkL mt (rngD i j) S2 = (w, S') := Option.some.inj e
      rw [e'] at rl4 wr4
      exact q F4 m4 H4 v4 ((u1.trans u2 (f.mono h1)).trans u4 (Nat.le_trans (f.mono h1) (g.mono h2))) rl4 wr4
    · cases e
  · cases e
@[simp] theorem r_xrg {f g : SE} {mt : Bool} {en : En} {S : Sto} : (sXrg mt f g).run en S = (f.run en S).bind fun p => (g.run en p.2).bind fun q => xrgK mt p.1 q.1 q.2 := rfl
@[simp] theorem xrgK_int {i j : Int} {mt : Bool} {S : Sto} : xrgK mt (.pu (.int i)) (.pu (.int j)) S = if fewOf i j = true then some (mkL mt (dI (rngI i j)) S) else none := by
  rw [← rngD_eq]
  rfl
theorem few_of {i j : Int} (h : j - i ≤ 100000) : fewOf i j = true := Nat.ble_eq_true_of_le (by omega)
end Z

namespace Z
open PySem L2 PyProof.Rows
/-! ### sorted(x), x a list of pairs of ints -/
def leP (x y : Int × Int) : Bool := decide (x.1 < y.1 ∨ x.1 = y.1 ∧ x.2 ≤ y.2)
theorem leP_iff {x y : Int × Int} : leP x y = true ↔ x.1 < y.1 ∨ x.1 = y.1 ∧ x.2 ≤ y.2 := decide_eq_true_iff
def insP (x : Int × Int) : List (Int × Int) → List (Int × Int)
  | [] => [x]
  | y :: ys => if leP x y = true then x :: y :: ys else y :: insP x ys
def sortP : List (Int × Int) → List (Int × Int)
  | [] => []
  | x :: xs => insP x (sortP xs)
theorem insP_perm (x : Int × Int) : ∀ ys, (insP x ys).Perm (x :: ys)
  | [] => .refl _
  | y :: ys => by
    unfold insP
    split
    · exact .refl _
    · exact ((insP_perm x ys).cons y).trans (.swap x y ys)
theorem sortP_perm : ∀ xs, (sortP xs).Perm xs
  | [] => .refl _
  | x :: xs => (insP_perm x (sortP xs)).trans ((sortP_perm xs).cons x)
theorem insP_pw (x : Int × Int) : ∀ ys, ys.Pairwise (leP · · = true) → (insP x ys).Pairwise (leP · · = true)
  | [], _ => by simp [insP]
  | y :: ys, h => by
    have h' := List.pairwise_cons.mp h
    unfold insP
    split
    · rename_i c
      exact List.pairwise_cons.mpr ⟨fun z hz => by
        rcases List.mem_cons.mp hz with rfl | hz
        · exact c
        · have a := leP_iff.mp c
          have b := leP_iff.mp (h'.1 z hz)
          exact leP_iff.mpr (by omega), h⟩
    · rename_i c
      exact List.pairwise_cons.mpr ⟨fun z hz => by
        rcases List.mem_cons.mp ((insP_perm x ys).mem_iff.mp hz) with rfl | hz
        · rw [leP_iff] at c
          exact leP_iff.mpr (by omega)
        · exact h'.1 z hz, insP_pw x ys h'.2⟩
theorem sortP_pw : ∀ xs, (sortP xs).Pairwise (leP · · = true)
  | [] => .nil
  | x :: xs => insP_pw x _ (sortP_pw xs)
theorem sortP_uniq {xs ys : List (Int × Int)} (h : ys.Perm xs) (s : ys.Pairwise (leP · · = true)) : ys = sortP xs :=
  (h.trans (sortP_perm xs).symm).eq_of_pairwise (le := (leP · · = true)) (fun a b _ _ h1 h2 => by
    have a1 := leP_iff.mp h1
    have a2 := leP_iff.mp h2
    exact Prod.ext (by omega) (by omega)) s (sortP_pw xs)
def pr2 (p : Int × Int) : PyData := .tuple [.int p.1, .int p.2]
def pairOf : PyData → Option (Int × Int)
  | .tuple [.int x, .int y] => some (x, y)
  | _ => none
def pairsOf : List PyData → Option (List (Int × Int))
  | [] => some []
  | d :: ds => (pairOf d).bind fun p => (pairsOf ds).map (p :: ·)
theorem pairOf_eq {d : PyData} {p : Int × Int} (h : pairOf d = some p) : d = pr2 p := by
  unfold pairOf at h
  split at h
  · cases h; rfl
  · cases h
theorem pairsOf_eq : ∀ {ds : List PyData} {ps : List (Int × Int)}, pairsOf ds = some ps → ds = ps.map pr2
  | [], _, h => by cases h; rfl
  | d :: ds, ps, h => by
    obtain ⟨p, h1, h⟩ := bind_some_of h
    obtain ⟨qs, h2, rfl⟩ := Option.map_eq_some_iff.mp h
    rw [pairOf_eq h1, pairsOf_eq h2]
    rfl
theorem pairsOf_map : ∀ ps : List (Int × Int), pairsOf (ps.map pr2) = some ps
  | [] => rfl
  | p :: ps => by
    show (pairOf (pr2 p)).bind _ = _
    rw [show pairOf (pr2 p) = some p from rfl, Option.bind_some, pairsOf_map ps]
    rfl
def kP (F : Hp) : V → Int × Int
  | .ref t => match F t with
    | some (.tup [.int x, .int y]) => (x, y)
    | _ => (0, 0)
  | _ => (0, 0)
theorem at_pr {F : Hp} {v : V} {p : Int × Int} (h : At F v (pr2 p)) : kP F v = p ∧ ∃ t, v = .ref t ∧ F t = some (.tup [.int p.1, .int p.2]) := by
  cases h with
  | tup g a =>
    cases a with
    | cons a1 a =>
      cases a1
      cases a with
      | cons a2 a =>
        cases a2
        cases a
        refine ⟨?_, _, rfl, g⟩
        unfold kP
        simp only [g]
theorem atall_pr {F : Hp} : ∀ {vs : List V} {ps : List (Int × Int)}, AtAll F vs (ps.map pr2) → vs.map (kP F) = ps ∧ ∀ x ∈ vs, ∃ t, x = V.ref t ∧ F t = some (.tup [.int (kP F x).1, .int (kP F x).2])
  | [], ps, h => by
    cases ps with
    | nil => exact ⟨rfl, fun _ h => by cases h⟩
    | cons p ps => cases h
  | v :: vs, ps, h => by
    cases ps with
    | nil => cases h
    | cons p ps =>
      cases h with
      | cons a b =>
        obtain ⟨e, t, e1, e2⟩ := at_pr a
        obtain ⟨e', r⟩ := atall_pr b
        refine ⟨by rw [List.map_cons, e, e'], fun x hx => ?_⟩
        rcases List.mem_cons.mp hx with rfl | hx
        · rw [e]
          exact ⟨t, e1, e2⟩
        · exact r x hx
theorem atall_back {F : Hp} : ∀ {vs : List V}, (∀ x ∈ vs, ∃ t, x = V.ref t ∧ F t = some (.tup [.int (kP F x).1, .int (kP F x).2])) → AtAll F vs ((vs.map (kP F)).map pr2)
  | [], _ => .nil
  | v :: vs, h => by
    obtain ⟨t, e1, e2⟩ := h v (List.mem_cons_self ..)
    refine .cons ?_ (atall_back fun x hx => h x (List.mem_cons_of_mem _ hx))
    subst e1
    exact .tup e2 (.cons (.int _) (.cons (.int _) .nil))
def sSortP (mt : Bool) (f : SE) : SE := ⟨fun en S => (f.run en S).bind fun p => (lookS p.1 p.2).bind fun ds => (pairsOf ds).map fun ps => mkL mt ((sortP ps).map pr2) p.2, fun {en S w S'} e => by
  obtain ⟨p, h1, e⟩ := bind_some_of e
  obtain ⟨ds, h2, e⟩ := bind_some_of e
  obtain ⟨ns, h3, e⟩ := Option.map_eq_some_iff.mp e
  have := mkL_len (mt := mt) (ds := (sortP ns).map pr2) (S := p.2)
  rw [e] at this
  exact Nat.le_trans (f.mono h1) this⟩
section
variable {X : Cx} {e : Expr} {f : SE} {p pos : Pos}
theorem z_sortP (mt : Bool) (hg : Gl X "sorted") (hm : X.mg "sorted" = none) (ha : PE X e (tI X.K f)) (he : starEach [e] X.env = (false, eval e X.env) :: starEach [] X.env := by rfl) (hpl : (backTo pos (starEach [] X.env)).any (·.1) = false := by rfl) :
    PE X (.Call (.Name "sorted" p) [e] [] pos) (tI X.K (sSortP mt f)) := by
  refine pe_imp (pe_callB cr_sortedPO hg hm (by decide +kernel) (pa_cons ha pa_nil he) (by decide) (by decide) he hpl) fun σ H Q ⟨F, m, S, P, en, w, S', rl, er, run, q⟩ => ?_
  obtain ⟨⟨x, S1⟩, h1, e⟩ := bind_some_of run
  obtain ⟨ds, h2, e⟩ := bind_some_of e
  obtain ⟨ns, h3, e⟩ := Option.map_eq_some_iff.mp e
  refine ⟨F, m, S, P, en, x, S1, rl, er, h1, fun F1 m1 H1 v u1 rl1 wr1 => ?_⟩
  obtain ⟨a, vs, rfl, g1, g2⟩ := lookS_ok rl1 wr1 h2
  rw [pairsOf_eq h3] at g2
  obtain ⟨k1, k2⟩ := atall_pr g2
  refine ⟨a, vs, kP F1, rfl, g1, fun x hx => ?_, fun ys p' hs hp hf => ?_⟩
  · obtain ⟨t, e1, e2⟩ := k2 x hx
    exact ⟨t, e1, rl1.ex _ _ e2⟩
  have e3 : ys.map (kP F1) = sortP ns := by
    refine sortP_uniq (by rw [← k1]; exact hp.perm.map _) ?_
    refine List.pairwise_map.mpr (hs.imp fun h => ?_)
    have := SrtO.lexB_no.mp h
    exact leP_iff.mpr (by omega)
  have k3 : AtAll F1 ys ((sortP ns).map pr2) := by
    rw [← e3]
    exact atall_back fun x hx => k2 x (hp.perm.mem_iff.mp hx)
  refine mkL_ok (K := X.K) (mt := mt) rl1 k3 (fun F4 m4 H4 v4 u4 rl4 wr4 => ?_) p' hf
  have e' : mkL mt ((sortP ns).map pr2) S1 = (w, S') := e
  rw [e'] at rl4 wr4
  exact q F4 m4 H4 v4 (u1.trans u4 (f.mono h1)) rl4 wr4
end
@[simp] theorem r_sortP {f : SE} {mt : Bool} {en : En} {S : Sto} : (sSortP mt f).run en S = (f.run en S).bind fun p => (lookS p.1 p.2).bind fun ds => (pairsOf ds).map fun ps => mkL mt ((sortP ps).map pr2) p.2 := rfl
end Z

namespace PySem
open Sem (wp)
theorem xe_no_len : typeLookup (.type "enumerate") "__len__" = pure none := am_miss_of_fast (by decide +kernel)
theorem xe_no_hint : typeLookup (.type "enumerate") "__length_hint__" = pure none := am_miss_of_fast (by decide +kernel)
section
variable {prog : Program} {w : World} {A : Around} {E : Value → Shared → Prop} {s : Shared} {it : Addr} {fp : List Addr} {n : Nat} {P : Nat → Value → Prop} {St : Nat → Heap → Prop}
theorem xe_item {e T : Addr} {i : Nat} {old : Value} {f : Bool} {oT : Obj} {Q : Option Value → Shared → Prop} (D : Draws prog w A.in1 it fp n P St)
    (he : IsEnumHeld s.heap e it i old T f) (hT : s.heap.get? T = some oT) (hTe : T ≠ e) (hTi : T ≠ it) (hst : St i s.heap) (hlt : i < n) (hne : e ≠ it) (hef : e ∉ fp)
    (hQ : ∀ x h' tk, P i x → IsEnumHeld h' e it ((i : Int) + 1) old T true → St (i + 1) h' →
      h'.get? s.heap.objs.size = some { cls := .type "tuple", data := .seq #[.int i tk, x] } → h'.objs.size = s.heap.objs.size + 1 →
      (∀ b o, b ≠ e → b ≠ it → s.heap.get? b = some o → h'.get? b = some o) → Q (some (.ref s.heap.objs.size)) { s with heap := h', toks := tk + 1 }) :
    wpAny (model prog w) A (pyNext (.ref e)) Q E s := by
  have hTy : s.TypeIs (.ref e) "enumerate" := ⟨_, he, rfl⟩
  unfold pyNext
  refine wpAny_bind (wpAny_attempt (wpAny_callSpecial?_slot (name := Str.ofString "__next__") hTy F.slot_enumerate_next
    (wpAny_call_entry F.slot_enumerate_next hTy F.entry_enumerate_next ?_ (F.args_enumerate_next_1 _))))
  obtain ⟨hp, g, d, tk0, os⟩ := s
  show wpAny _ _ (field (.ref e) 2 >>= _) _ _ _
  refine wpAny_bind (wpAny_field he rfl (x := .ref it) rfl ?_)
  refine wpAny_bind (D.item i ⟨hp, g, d, tk0, os⟩ _ _ hlt hst fun x h₁ tk hPx hit₁ hs₁ => ?_)
  replace hs₁ : Heap.SameBut it hp h₁ := hs₁
  have he₁ : IsEnumHeld h₁ e it i old T f := (hs₁.2 e hne).trans he
  show wpAny _ _ (field (.ref e) 3 >>= _) _ _ ⟨h₁, g, d, tk, os⟩
  refine wpAny_bind (wpAny_field he₁ rfl (x := rawInt i) rfl ?_)
  show wpAny _ _ (field (.ref e) 4 >>= _) _ _ ⟨h₁, g, d, tk, os⟩
  refine wpAny_bind (wpAny_field he₁ rfl (x := .none) rfl ?_)
  show wpAny _ _ (mkInt i >>= _) _ _ ⟨h₁, g, d, tk, os⟩
  refine wpAny_bind (wpAny_mkInt ?_)
  show wpAny _ _ (setField (.ref e) 3 (rawInt ((i : Int) + 1)) >>= _) _ _ ⟨h₁, g, d, tk + 1, os⟩
  refine wpAny_bind (wpAny_setField_rec he₁ (by simp) fun h₂ he₂ hs₂ => ?_)
  replace hs₂ : Heap.SameBut e h₁ h₂ := hs₂
  replace he₂ : IsEnumHeld h₂ e it ((i : Int) + 1) old T f := he₂
  show wpAny _ _ (setField (.ref e) 4 .none >>= _) _ _ ⟨h₂, g, d, tk + 1, os⟩
  refine wpAny_bind (wpAny_setField_rec he₂ (by simp) fun h₃ he₃ hs₃ => ?_)
  replace hs₃ : Heap.SameBut e h₂ h₃ := hs₃
  replace he₃ : IsEnumHeld h₃ e it ((i : Int) + 1) old T f := he₃
  show wpAny _ _ (newTuple [.int i tk, x] >>= _) _ _ ⟨h₃, g, d, tk + 1, os⟩
  refine wpAny_bind (wpAny_newTuple ?_)
  have he₄ : IsEnumHeld (h₃.push { cls := .type "tuple", data := .seq #[.int i tk, x] }) e it ((i : Int) + 1) old T f := Heap.get?_push_of_some _ he₃
  generalize hh₄ : h₃.push { cls := .type "tuple", data := .seq #[.int i tk, x] } = h₄ at he₄
  have hsz : h₃.objs.size = hp.objs.size := by rw [hs₃.1, hs₂.1, hs₁.1]
  have hel : e < hp.objs.size := Heap.lt_size he
  have ht₄ : h₄.get? hp.objs.size = some { cls := .type "tuple", data := .seq #[.int i tk, x] } := by rw [← hh₄, ← hsz]; exact Heap.get?_push_size _ rfl
  have hz₄ : h₄.objs.size = hp.objs.size + 1 := by rw [← hh₄, Heap.size_push, hsz]
  have hk₄ : ∀ b o, b ≠ e → b ≠ it → hp.get? b = some o → h₄.get? b = some o := fun b o hbe hbi hb => by
    rw [← hh₄]; exact Heap.get?_push_of_some _ (hs₃.extBut b o hbe (hs₂.extBut b o hbe (hs₁.extBut b o hbi hb)))
  have hit₄ : St (i + 1) h₄ := D.frame _ _ _ hit₁ fun b hb o y => by
    have hbe : b ≠ e := fun q => hef (q ▸ hb)
    rw [← hh₄]; exact Heap.get?_push_of_some _ (hs₃.extBut b o hbe (hs₂.extBut b o hbe y))
  show wpAny _ _ (Builtin.SmallTypes.ownedTupleIsFree (.ref e) >>= _) _ _ ⟨h₄, g, d, tk + 1, os⟩
  rw [hsz]
  clear hh₄ he₃ hs₃ he₂ hs₂ he₁ hs₁ hit₁ hsz h₃ h₂ h₁
  refine wpAny_bind (wpAny_tupleHeld_enum (s := ⟨h₄, g, d, tk + 1, os⟩) he₄ (hk₄ T oT hTe hTi hT) fun h₅ he₅ hs₅ => ?_)
  replace hs₅ : Heap.SameBut e h₄ h₅ := hs₅
  simp only [Bool.false_eq_true, if_false]
  refine wpAny_pure ⟨_, rfl, wpAny_pure (hQ x h₅ tk hPx he₅ ?_ (hs₅.extBut _ _ (Nat.ne_of_gt hel) ht₄) ?_ fun b o hbe hbi hb => hs₅.extBut b o hbe (hk₄ b o hbe hbi hb))⟩
  · exact D.frame _ _ _ hit₄ fun b hb o y => hs₅.extBut b o (fun q => hef (q ▸ hb)) y
  · show h₅.objs.size = hp.objs.size + 1
    rw [hs₅.1, hz₄]
theorem xe_end {e T : Addr} {i : Int} {old : Value} {f : Bool} {Q : Option Value → Shared → Prop} (D : Draws prog w A.in1 it fp n P St) (he : IsEnumHeld s.heap e it i old T f) (hst : St n s.heap)
    (hQ : ∀ h', Heap.ExtBut it s.heap h' → Q none { s with heap := h' }) : wpAny (model prog w) A (pyNext (.ref e)) Q E s := by
  have hTy : s.TypeIs (.ref e) "enumerate" := ⟨_, he, rfl⟩
  unfold pyNext
  refine wpAny_bind (wpAny_attempt (wpAny_callSpecial?_slot (name := Str.ofString "__next__") hTy F.slot_enumerate_next
    (wpAny_call_entry F.slot_enumerate_next hTy F.entry_enumerate_next ?_ (F.args_enumerate_next_1 _))))
  show wpAny _ _ (field (.ref e) 2 >>= _) _ _ _
  refine wpAny_bind (wpAny_field he rfl (x := .ref it) rfl ?_)
  refine wpAny_bind (D.done _ _ _ hst fun h' x he' hx' => ?_)
  obtain ⟨o, ho, hc⟩ := hx'
  refine wpAny_bind (wpAny_isInstance (T := "StopIteration") (b := true) ⟨o, ho, hc⟩ isSubtype_stop ?_)
  exact wpAny_pure (hQ _ he')
/-- the pairs that a list got -/
def EIt (P : Nat → Value → Prop) (S e it : Addr) (h : Heap) (acc : Array Value) (i : Nat) : Prop :=
  acc.size = i ∧ ∀ j v, acc[j]? = some v → ∃ T t x, v = .ref T ∧ P j x ∧ T ≠ S ∧ T ≠ e ∧ T ≠ it ∧ S < T ∧ h.get? T = some { cls := .type "tuple", data := .seq #[.int j t, x] }
theorem EIt.keep {P : Nat → Value → Prop} {S e it : Addr} {h h' : Heap} {acc : Array Value} {i : Nat} (q : EIt P S e it h acc i) (k : ∀ b o, b ≠ S → b ≠ e → b ≠ it → h.get? b = some o → h'.get? b = some o) : EIt P S e it h' acc i :=
  ⟨q.1, fun j v hj => let ⟨T, t, x, a, b, c, d, f, lt, g⟩ := q.2 j v hj; ⟨T, t, x, a, b, c, d, f, lt, k T _ c d f g⟩⟩
theorem EIt.push {P : Nat → Value → Prop} {S e it T : Addr} {t : Tok} {x : Value} {h : Heap} {acc : Array Value} {i : Nat} (q : EIt P S e it h acc i) (px : P i x) (c : T ≠ S) (d : T ≠ e) (f : T ≠ it) (lt : S < T) (g : h.get? T = some { cls := .type "tuple", data := .seq #[.int i t, x] }) : EIt P S e it h (acc.push (.ref T)) (i + 1) :=
  ⟨by rw [Array.size_push, q.1], fun j v hj => by
    rw [Array.getElem?_push] at hj
    split at hj
    · rename_i e1
      cases hj
      have : j = i := by rw [e1, q.1]
      subst this
      exact ⟨T, t, x, rfl, px, c, d, f, lt, g⟩
    · exact q.2 j v hj⟩
/-- where the enumerate stands -/
def EnSt (S e it : Addr) (h : Heap) (i : Nat) : Prop := (∃ old, IsEnum h e it i old) ∨ ∃ old T f oT, IsEnumHeld h e it i old T f ∧ h.get? T = some oT ∧ T ≠ e ∧ T ≠ it ∧ T ≠ S
theorem xe_loop {R : Result → Shared → Prop} {S e : Addr} (D : Draws prog w A.in1.in1 it fp n P St) (hn : n ≤ sizeLine) (res : Value) (hei : e ≠ it) (hef : e ∉ fp) (hSe : S ≠ e) (hSi : S ≠ it) (hSf : S ∉ fp) :
    ∀ (k i : Nat) (h : Heap) (tk : Nat) (acc : Array Value) (c : Nat), n - i = k → i ≤ n → St i h → EnSt S e it h i → h.get? S = some { cls := .type "list", dict := none, data := .seq acc c, slots := #[] } → EIt P S e it h acc i →
    (∀ h' tk' acc' c', (∀ b o, b ≠ S → b ≠ e → b ≠ it → h.get? b = some o → h'.get? b = some o) → h'.get? S = some { cls := .type "list", dict := none, data := .seq acc' c', slots := #[] } → EIt P S e it h' acc' n → R (.ok (.ret res)) { s with heap := h', toks := tk' }) →
    codeAny (model prog w) A (.builtin "list.extend.loop" ⟨[.ref S, .ref e, res], []⟩) R { s with heap := h, toks := tk } := by
  intro k
  induction k with
  | zero =>
    intro i h tk acc c hk hi hst hen hS hacc hR
    have hin : i = n := by omega
    subst hin
    refine codeAny_builtin F.entry_extend_loop ?_
    rw [Around.under_plainId F.plain_extend_loop _]
    show wpAny _ A.in1 (pyNext (.ref e) >>= _) _ _ _
    refine wpAny_bind ?_
    have fin : ∀ h', Heap.ExtBut it h h' → _ := fun h' hx => hR h' tk acc c (fun b o _ _ hb q => hx b o hb q) (hx S _ hSi hS) (hacc.keep fun b o _ _ hb q => hx b o hb q)
    rcases hen with ⟨old, he⟩ | ⟨old, T, f, oT, he, _⟩
    · exact wpAny_pyNext_enum_endD (s := { s with heap := h, toks := tk }) D he hst fun h' hx => wpAny_pure (fin h' hx)
    · exact xe_end (s := { s with heap := h, toks := tk }) D he hst fun h' hx => wpAny_pure (fin h' hx)
  | succ k ih =>
    intro i h tk acc c hk hi hst hen hS hacc hR
    have hlt : i < n := by omega
    refine codeAny_builtin F.entry_extend_loop ?_
    rw [Around.under_plainId F.plain_extend_loop _]
    show wpAny _ A.in1 (pyNext (.ref e) >>= _) _ _ _
    have ec : ((i + 1 : Nat) : Int) = (i : Int) + 1 := by omega
    have hSl : S < h.objs.size := Heap.lt_size hS
    have hil : it < h.objs.size := by obtain ⟨o, ho⟩ := D.live i h hst; exact Heap.lt_size ho
    -- one turn
    have go : ∀ (x : Value) (h' : Heap) (tk' : Nat), P i x → EnSt S e it h' (i + 1) → St (i + 1) h' → e < h.objs.size → h'.get? h.objs.size = some { cls := .type "tuple", data := .seq #[.int i tk', x] } → (∀ b o, b ≠ e → b ≠ it → h.get? b = some o → h'.get? b = some o) →
        wpAny (model prog w) A.in1 (updateSeq S (·.push (.ref h.objs.size)) >>= fun _ => again (.builtin "list.extend.loop" ⟨[.ref S, .ref e, res], []⟩)) (fun fin s' => match fin with | .done f => R (.ok f) s' | .again c' => c'.quiet = true ∧ codeAny (model prog w) A c' R s') (fun e s' => R (.error e) s') { s with heap := h', toks := tk' + 1 } := fun x h' tk' px hen' hst' hel hT kp => by
      have hS' := kp S _ hSe hSi hS
      have oth : ∀ b o, b ≠ S → h'.get? b = some o → (h'.update S (Obj.mapSeq (·.push (.ref h.objs.size)))).get? b = some o := fun b o hb q => (Heap.get?_update_other _ _ (Ne.symm hb)).trans q
      refine wpAny_bind (wpAny_updateSeq (s := { s with heap := h', toks := tk' + 1 }) hS' rfl (wpAny_pure ⟨plainId_quiet F.plain_extend_loop _, ih (i + 1) _ (tk' + 1) (acc.push (.ref h.objs.size)) _ (by omega) hlt
        (D.frame _ _ _ hst' fun b hb o q => oth b o (fun z => hSf (z ▸ hb)) q) ?_ (Heap.get?_update_self _ hS' rfl) ?_ fun h'' tk'' acc' c' kp'' hS'' hacc'' => ?_⟩) (by rw [hacc.1]; omega) (by show (acc.push _).size ≤ sizeLine + 1; rw [Array.size_push, hacc.1]; omega))
      · rcases hen' with ⟨old, he⟩ | ⟨old, T, f, oT, he, q1, q2, q3, q4⟩
        · exact .inl ⟨old, oth e _ (Ne.symm hSe) he⟩
        · exact .inr ⟨old, T, f, oT, oth e _ (Ne.symm hSe) he, oth T _ q4 q1, q2, q3, q4⟩
      · refine (EIt.push ((hacc.keep fun b o _ hb1 hb2 q => kp b o hb1 hb2 q).keep fun b o hb _ _ q => oth b o hb q) px (Nat.ne_of_gt hSl) (Nat.ne_of_gt hel) (Nat.ne_of_gt hil) hSl (oth _ _ (Nat.ne_of_gt hSl) hT))
      · exact hR h'' tk'' acc' c' (fun b o h1 h2 h3 q => kp'' b o h1 h2 h3 (oth b o h1 (kp b o h2 h3 q))) hS'' hacc''
    refine wpAny_bind ?_
    rcases hen with ⟨old, he⟩ | ⟨old, T, f, oT, he, q1, q2, q3, q4⟩
    · have hel : e < h.objs.size := Heap.lt_size he
      refine wpAny_pyNext_enum_itemD (s := { s with heap := h, toks := tk }) D he hst hlt hei hef fun x h' tk' px ho st' hT hsz kp => ?_
      exact go x h' tk' px (.inr ⟨x, h.objs.size, false, _, by rw [ec]; exact ho, hT, Nat.ne_of_gt hel, Nat.ne_of_gt hil, Nat.ne_of_gt hSl⟩) st' hel hT kp
    · have hel : e < h.objs.size := Heap.lt_size he
      refine xe_item (s := { s with heap := h, toks := tk }) D he q1 q2 q3 hst hlt hei hef fun x h' tk' px ho st' hT hsz kp => ?_
      exact go x h' tk' px (.inr ⟨old, T, true, oT, by rw [ec]; exact ho, kp T _ q2 q3 q1, q2, q3, q4⟩) st' hel hT kp
theorem xe_extend {R : Result → Shared → Prop} {S e : Addr} (D : Draws prog w A.in1.in1 it fp n P St) (hn : n ≤ sizeLine) (res : Value) (c₀ : Nat) (hei : e ≠ it) (hef : e ∉ fp) (hSe : S ≠ e) (hSi : S ≠ it) (hSf : S ∉ fp)
    (hst : St 0 s.heap) {old : Value} (he : IsEnum s.heap e it 0 old) (hS : s.heap.get? S = some { cls := .type "list", data := .seq #[] c₀ })
    (hR : ∀ h' tk' acc' c', (∀ b o, b ≠ S → b ≠ e → b ≠ it → s.heap.get? b = some o → h'.get? b = some o) → h'.get? S = some { cls := .type "list", dict := none, data := .seq acc' c', slots := #[] } → EIt P S e it h' acc' n → R (.ok (.ret res)) { s with heap := h', toks := tk' }) :
    wpAny (model prog w) A.in1 (Builtin.List.listExtendWith (.ref S) (.ref e) res)
      (fun fin s' => match fin with | .done f => R (.ok f) s' | .again c' => c'.quiet = true ∧ codeAny (model prog w) A c' R s') (fun e s' => R (.error e) s') s := by
  have hT : s.TypeIs (.ref e) "enumerate" := ⟨_, he, rfl⟩
  unfold Builtin.List.listExtendWith
  refine wpAny_bind (wpAny_typeOf hT ?_)
  have h1 : Builtin.List.listSameRef (.ref S) (.ref e) = false := by simp [Builtin.List.listSameRef, hSe]
  have h2 : (Value.type "enumerate" == Value.type "list") = false := by decide
  have h3 : (Value.type "enumerate" == Value.type "tuple") = false := by decide
  simp only [h1, h2, h3, Bool.or_false, Bool.false_eq_true, if_false]
  refine wpAny_bind (wpAny_pyIter_enum he ?_)
  refine wpAny_bind (wpAny_holding ?_)
  unfold Builtin.List.listLengthHint
  refine wpAny_bind (wpAny_specialOf hT xe_no_len ?_)
  show wpAny _ A.in1 (specialOf (Value.ref e) (Str.ofString "__length_hint__") >>= _) _ _ _
  refine wpAny_bind (wpAny_specialOf hT xe_no_hint ?_)
  refine wpAny_pure ?_
  show wpAny _ A.in1 (rule "list.extend.makes-room" >>= fun _ => Builtin.List.listTouch (.ref S) >>= fun _ =>
    again (.builtin "list.extend.loop" ⟨[.ref S, .ref e, res], []⟩)) _ _ _
  refine wpAny_bind (wpAny_rule ?_)
  refine wpAny_bind ?_
  show wpAny _ A.in1 (updateSeq S (·.push .none) >>= fun _ => updateSeq S (·.pop)) _ _ _
  refine wpAny_bind (wpAny_updateSeq hS rfl ?_)
  have hS₂ := Heap.get?_update_self (Obj.mapSeq (·.push Value.none)) hS rfl
  refine wpAny_updateSeq (hz := by seq_fits) hS₂ rfl ?_
  have hS₃ := Heap.get?_update_self (Obj.mapSeq (·.pop)) hS₂ rfl
  have oth : ∀ b o, b ≠ S → s.heap.get? b = some o → ((s.heap.update S (Obj.mapSeq (·.push Value.none))).update S (Obj.mapSeq (·.pop))).get? b = some o :=
    fun b o hb e => (Heap.get?_update_other _ _ (Ne.symm hb)).trans ((Heap.get?_update_other _ _ (Ne.symm hb)).trans e)
  refine wpAny_pure ⟨plainId_quiet F.plain_extend_loop _, xe_loop (s := s) D hn res hei hef hSe hSi hSf n 0 _ s.toks #[] _ rfl (Nat.zero_le _) (D.frame _ _ _ hst fun b hb o q => oth b o (fun z => hSf (z ▸ hb)) q)
    (.inl ⟨old, oth e _ (Ne.symm hSe) he⟩) hS₃ ⟨rfl, fun j v hj => by simp at hj⟩ fun h' tk' acc' c' kp hS' hacc => ?_⟩
  exact hR h' tk' acc' c' (fun b o b1 b2 b3 q => kp b o b1 b2 b3 (oth b o b1 q)) hS' hacc
theorem xe_init {R : Result → Shared → Prop} {S e : Addr} (D : Draws prog w A.in1.in1 it fp n P St) (hn : n ≤ sizeLine) (hei : e ≠ it) (hef : e ∉ fp) (hSe : S ≠ e) (hSi : S ≠ it) (hSf : S ∉ fp)
    (hst : St 0 s.heap) {old : Value} (he : IsEnum s.heap e it 0 old) (hS : s.heap.get? S = some { cls := .type "list", data := .seq #[] })
    (hR : ∀ h' tk' acc' c', (∀ b o, b ≠ S → b ≠ e → b ≠ it → s.heap.get? b = some o → h'.get? b = some o) → h'.get? S = some { cls := .type "list", dict := none, data := .seq acc' c', slots := #[] } → EIt P S e it h' acc' n → R (.ok (.ret .none)) { s with heap := h', toks := tk' }) :
    wpAny (model prog w) A.in1 (Builtin.«list.__init__» ⟨[.ref S, .ref e], []⟩)
      (fun fin s' => match fin with | .done f => R (.ok f) s' | .again c' => c'.quiet = true ∧ codeAny (model prog w) A c' R s') (fun e s' => R (.error e) s') s := by
  show wpAny _ A.in1 (do let old ← Builtin.List.listItems (.ref S); Builtin.List.listUpdate (.ref S) (fun _ => #[]); letGo old.toList.reverse; Builtin.List.listExtendWith (.ref S) (.ref e) .none) _ _ s
  refine wpAny_bind ?_
  unfold Builtin.List.listItems
  refine wpAny_bind (wpAny_seqItems hS rfl (wpAny_pure ?_))
  show wpAny _ A.in1 (updateSeq S (fun _ => #[]) >>= fun _ => letGo (#[] : Array Value).toList.reverse >>= fun _ => Builtin.List.listExtendWith (.ref S) (.ref e) .none) _ _ s
  refine wpAny_bind (wpAny_updateSeq hS rfl ?_)
  have hS₂ := Heap.get?_update_self (Obj.mapSeq (fun _ => (#[] : Array Value))) hS rfl
  have oth : ∀ b o, b ≠ S → s.heap.get? b = some o → (s.heap.update S (Obj.mapSeq (fun _ => (#[] : Array Value)))).get? b = some o :=
    fun b o hb e => (Heap.get?_update_other _ _ (Ne.symm hb)).trans e
  refine wpAny_bind (wpAny_letGo ?_)
  refine xe_extend (s := { s with heap := s.heap.update S (Obj.mapSeq (fun _ => (#[] : Array Value))) }) D hn .none _ hei hef hSe hSi hSf (D.frame _ _ _ hst fun b hb o q => oth b o (fun z => hSf (z ▸ hb)) q) (oth e _ (Ne.symm hSe) he) hS₂ fun h' tk' acc' c' kp hS' hacc => ?_
  exact hR h' tk' acc' c' (fun b o b1 b2 b3 q => kp b o b1 b2 b3 (oth b o b1 q)) hS' hacc
theorem xe_call {Q : Value → Shared → Prop} {e : Addr} (D : ∀ A : Around, A.handled = none → Draws prog w A it fp n P St) (hh : A.handled = none) (hn : n ≤ sizeLine) (hei : e ≠ it) (hef : e ∉ fp) (hlt : ∀ b ∈ fp, b < s.heap.objs.size) (hil : it < s.heap.objs.size)
    (hst : St 0 s.heap) {old : Value} (he : IsEnum s.heap e it 0 old)
    (hQ : ∀ h' tk acc' c', (∀ b o, b ≠ e → b ≠ it → s.heap.get? b = some o → h'.get? b = some o) → h'.get? s.heap.objs.size = some { cls := .type "list", dict := none, data := .seq acc' c', slots := #[] } → EIt P s.heap.objs.size e it h' acc' n → Q (.ref s.heap.objs.size) { s with heap := h', toks := tk }) :
    wpAny (model prog w) A (call (.type "list") [.ref e]) Q E s := by
  refine callType_codes (Q₁ := fun obj s₁ => obj = .ref s.heap.objs.size ∧ s₁ = { s with heap := s.heap.push { cls := .type "list", data := .seq #[] } }) F.called_list (F.typeCall_list_1 _) F.entry_list_init
    (code_list_new _ ⟨rfl, rfl⟩) fun obj s₁ h₁ => ?_
  obtain ⟨rfl, rfl⟩ := h₁
  have hS : (s.heap.push { cls := .type "list", data := .seq #[] }).get? s.heap.objs.size = some { cls := .type "list", data := .seq #[] } := Heap.get?_push_size _ rfl
  have hel : e < s.heap.objs.size := Heap.lt_size he
  refine ⟨⟨_, hS, rfl⟩, F.args_list_init_2 _ _, xe_init (A := A.in1) (D A.in1.in1.in1 hh) hn hei hef (Nat.ne_of_gt hel) (Nat.ne_of_gt hil) (fun hm => Nat.lt_irrefl _ (hlt _ hm)) ((D A.in1.in1.in1 hh).frame _ _ _ hst fun b _ o q => Heap.get?_push_of_some _ q) (Heap.get?_push_of_some _ he) hS fun h' tk acc' c' kp hS' hacc => ?_⟩
  exact ⟨rfl, hQ h' tk acc' c' (fun b o b1 b2 q => kp b o (Nat.ne_of_lt (Heap.lt_size q)) b1 b2 (Heap.get?_push_of_some _ q)) hS' hacc⟩
end
end PySem
namespace Z
open PySem L2 PyProof.Rows
/-! ### list(enumerate(x)) -/
def addT : Hp → List (Addr × V) → Nat → Hp
  | H, [], _ => H
  | H, p :: r, j => addT (upd H p.1 (.tup [.int (j : Nat), p.2])) r (j + 1)
theorem addT_off : ∀ (L : List (Addr × V)) (H : Hp) (j : Nat) {b : Addr}, b ∉ L.map (·.1) → addT H L j b = H b
  | [], H, j, b, _ => rfl
  | p :: L, H, j, b, h => by
    rw [List.map_cons, List.mem_cons, not_or] at h
    show addT (upd H p.1 _) L (j + 1) b = _
    rw [addT_off L _ _ h.2, upd_ne h.1]
theorem addT_ok {F : Hp} {m : Nat → Addr × Bool} {S : Sto} {P : Pn} : ∀ (L : List (Addr × V)) (H : Hp) (j : Nat) {ds : List PyData} (F : Hp), Rl F m S P H → (L.map (·.1)).Nodup → (∀ p ∈ L, H p.1 = none) → AtAll F (L.map (·.2)) ds →
    ∃ F', Same F F' ∧ Rl F' m S P (addT H L j) ∧ AtAll F' (L.map fun p => V.ref p.1) (enumD j ds)
  | [], H, j, ds, F, rl, nd, hn, ha => by
    cases ha
    exact ⟨F, Same.refl F, rl, .nil⟩
  | p :: L, H, j, ds, F, rl, nd, hn, ha => by
    cases ha with
    | @cons v vs d ds' a1 a2 =>
      rw [List.map_cons, List.nodup_cons] at nd
      have hp := hn p List.mem_cons_self
      have sm : Same F (upd F p.1 (.tup [.int (j : Nat), p.2])) := same_upd (rl.ex.free hp)
      obtain ⟨F', s1, r1, t1⟩ := addT_ok (m := m) (S := S) (P := P) (F := F) L (upd H p.1 (.tup [.int (j : Nat), p.2])) (j + 1) (upd F p.1 (.tup [.int (j : Nat), p.2])) (rl.new hp) nd.2 (fun q hq => by
        rw [upd_ne (fun e => nd.1 (by rw [← e]; exact List.mem_map.mpr ⟨q, hq, rfl⟩))]
        exact hn q (List.mem_cons_of_mem _ hq)) (a2.mono sm)
      refine ⟨F', sm.trans s1, r1, .cons (.tup (s1 _ _ upd_same) (.cons (.int _) (.cons ((a1.mono sm).mono s1) .nil))) t1⟩
theorem laidT {X : Cx} {pins : List (Addr × Obj)} {σ : L2.St} {s : Shared} {h'' : Heap} {tk : Nat} : ∀ (L : List (Addr × V)) (j : Nat) (H : Hp) (G : Heap), Inv X pins σ H { s with heap := G, toks := tk } → (L.map (·.1)).Nodup → (∀ p ∈ L, G.get? p.1 = none ∧ H p.1 = none) → (∀ b o, G.get? b = some o → h''.get? b = some o) →
    (∀ (i : Nat) (p : Addr × V), L[i]? = some p → ∃ t u, RelV p.2 u ∧ h''.get? p.1 = some { cls := .type "tuple", data := .seq #[.int ((j + i : Nat) : Int) t, u] }) →
    ∃ G', Inv X pins σ (addT H L j) { s with heap := G', toks := tk } ∧ (∀ b o, G'.get? b = some o → h''.get? b = some o) ∧ ∀ b, b ∉ L.map (·.1) → G'.get? b = G.get? b
  | [], j, H, G, I, nd, hn, k, ho => ⟨G, I, k, fun _ _ => rfl⟩
  | p :: L, j, H, G, I, nd, hn, k, ho => by
    rw [List.map_cons, List.nodup_cons] at nd
    obtain ⟨g0, hp⟩ := hn p List.mem_cons_self
    obtain ⟨t, u, ru, hT⟩ := ho 0 p rfl
    obtain ⟨G1, q1, q2⟩ := restrict h'' fun b => (G.get? b).isSome || decide (b = p.1)
    have k1 : ∀ b o, G.get? b = some o → G1.get? b = some o := fun b o e => (q1 b (by rw [e]; rfl)).trans (k b o e)
    have hT1 : G1.get? p.1 = some { cls := .type "tuple", data := .seq #[.int ((j : Nat) : Int) t, u] } := (q1 p.1 (by rw [decide_eq_true rfl, Bool.or_true])).trans hT
    have off : ∀ b, b ≠ p.1 → G1.get? b = G.get? b := fun b hb => by
      cases e : G.get? b with
      | none => exact q2 b (by rw [e, decide_eq_false hb]; rfl)
      | some o => exact k1 b o e
    have I1 : Inv X pins σ (upd H p.1 (.tup [.int (j : Nat), p.2])) { s with heap := G1, toks := tk } := I.laidN (t' := tk) k1 g0 hp
      (show ObjOk X.prog X.w _ G1 p.1 (.tup [.int (j : Nat), p.2]) from ⟨by show 2 ≤ sizeLine; decide, [.int (j : Nat) t, u], .cons ⟨_, rfl⟩ (.cons ru .nil), ⟨_, hT1, rfl, _, rfl⟩⟩)
    obtain ⟨G2, I2, k2, o2⟩ := laidT (h'' := h'') L (j + 1) _ G1 I1 nd.2 (fun q hq => by
      have ne : q.1 ≠ p.1 := fun e => nd.1 (by rw [← e]; exact List.mem_map.mpr ⟨q, hq, rfl⟩)
      obtain ⟨a1, a2⟩ := hn q (List.mem_cons_of_mem _ hq)
      exact ⟨by rw [off _ ne]; exact a1, by rw [upd_ne ne]; exact a2⟩) (fun b o e => by
      by_cases hb : b = p.1
      · subst hb
        rw [hT1] at e
        rw [← e]
        exact hT
      · rw [off b hb] at e
        exact k b o e) (fun i q hq => by
      obtain ⟨t', u', a, b⟩ := ho (i + 1) q hq
      exact ⟨t', u', a, by rw [show j + 1 + i = j + (i + 1) by omega]; exact b⟩)
    refine ⟨G2, I2, k2, fun b hb => ?_⟩
    rw [List.map_cons, List.mem_cons, not_or] at hb
    rw [o2 b hb.2, off b hb.1]
def xEn (K : PySem.W.Frag) (te : TE) : TE := fun σ H Q => te σ H fun v H1 => ∃ a xs, v = .ref a ∧ (SqL K H1 a xs ∨ SqT K H1 a xs) ∧ ∀ (L : List (Addr × V)) (q : Addr), L.map (·.2) = xs → (L.map (·.1)).Nodup → (∀ p ∈ L, H1 p.1 = none) → q ∉ L.map (·.1) → H1 q = none → Q (.ref q) (upd (addT H1 L 0) q (.lst (L.map fun p => V.ref p.1)))
theorem xEn_go {X : Cx} {pins : List (Addr × Obj)} {σ : L2.St} {H1 : Hp} {s1 : Shared} {Q : VK} {a : Addr} {xs : List V} {its : List Value} {St : Nat → Heap → Prop} {h' : Heap} {e it : Addr} (I1 : Inv X pins σ H1 s1) (rv : Vals xs its) (hz : xs.length ≤ sizeLine) (hc : X.calm = true)
    (D : ∀ A : Around, A.handled = none → Draws X.prog X.w A it [it, a] its.toArray.size (fun i v => its.toArray[i]? = some v) St) (ee : e = s1.heap.objs.size + 1) (ei : it = s1.heap.objs.size) (hst : St 0 h') (he : IsEnum h' e it 0 .none) (hsz : h'.objs.size = s1.heap.objs.size + 2) (al : a < s1.heap.objs.size)
    (hk : ∀ b o, s1.heap.get? b = some o → h'.get? b = some o)
    (q : ∀ (L : List (Addr × V)) (q : Addr), L.map (·.2) = xs → (L.map (·.1)).Nodup → (∀ p ∈ L, H1 p.1 = none) → q ∉ L.map (·.1) → H1 q = none → Q (.ref q) (upd (addT H1 L 0) q (.lst (L.map fun p => V.ref p.1)))) :
    wpAny (model X.prog X.w) X.A (call (.type "list") [.ref e]) (EP X pins σ Q) X.xe { s1 with heap := h' } := by
  have I2 : Inv X pins σ H1 { s1 with heap := h' } := I1.kept (t' := s1.toks) hk
  have ee : @Eq Nat e (s1.heap.objs.size + 1) := ee
  have ei : @Eq Nat it s1.heap.objs.size := ei
  have ne : e ≠ it := fun z => by
    rw [ee, ei] at z
    exact Nat.succ_ne_self _ z
  have na : e ≠ a := fun z => by
    rw [ee] at z
    rw [← z] at al
    exact absurd al (Nat.not_lt_of_le (Nat.le_succ _))
  have el : e < h'.objs.size := by rw [ee, hsz]; exact Nat.lt_succ_self _
  have il : it < h'.objs.size := by rw [ei, hsz]; exact Nat.lt_add_of_pos_right (by decide)
  have al' : a < h'.objs.size := Nat.lt_trans al (by rw [hsz]; omega)
  have eg : s1.heap.objs.size ≤ e := by rw [ee]; exact Nat.le_succ _
  have ig : s1.heap.objs.size ≤ it := by rw [ei]; exact Nat.le_refl _
  have hl := rv.length
  have hn : its.toArray.size = xs.length := by simp [hl]
  refine xe_call (s := { s1 with heap := h' }) D (I1.ok.hd hc) (by rw [hn]; exact hz) ne (fun hb => by
    simp only [List.mem_cons, List.not_mem_nil, or_false] at hb
    exact hb.elim ne na) (fun b hb => by
    simp only [List.mem_cons, List.not_mem_nil, or_false] at hb
    rcases hb with rfl | rfl
    · exact il
    · exact al') il hst he fun h'' tk acc c kp hD hacc => ?_
  have hD : h''.get? h'.objs.size = some { cls := .type "list", dict := none, data := .seq acc c, slots := #[] } := hD
  have hacc : EIt (fun i v => its.toArray[i]? = some v) h'.objs.size e it h'' acc its.toArray.size := hacc
  have kp : ∀ b o, b ≠ e → b ≠ it → h'.get? b = some o → h''.get? b = some o := kp
  -- the pairs
  have sz : acc.size = xs.length := hacc.1.trans hn
  let Ts : List Addr := acc.toList.map fun v => match v with | .ref T => T | _ => 0
  have tl : Ts.length = xs.length := by rw [List.length_map, Array.length_toList, sz]
  have at' : ∀ (j : Nat) (T : Addr), Ts[j]? = some T → acc[j]? = some (.ref T) ∧ ∃ t x, its[j]? = some x ∧ h'.objs.size < T ∧ h''.get? T = some { cls := .type "tuple", data := .seq #[.int j t, x] } := fun j T hj => by
    rw [List.getElem?_map] at hj
    obtain ⟨v, hv, e1⟩ := Option.map_eq_some_iff.mp hj
    have hv : acc[j]? = some v := by rw [← Array.getElem?_toList]; exact hv
    obtain ⟨T', t, x, e2, p, _, _, _, lt, g⟩ := hacc.2 j v hv
    subst e2
    have e1 : T' = T := e1
    subst e1
    exact ⟨hv, t, x, by simpa using p, lt, g⟩
  have nd : Ts.Nodup := by
    refine List.pairwise_iff_getElem.mpr fun i j hi hj ij e1 => ?_
    obtain ⟨_, t, x, _, _, g⟩ := at' i Ts[i] (List.getElem?_eq_getElem hi)
    obtain ⟨_, t', x', _, _, g'⟩ := at' j Ts[j] (List.getElem?_eq_getElem hj)
    rw [e1, g'] at g
    simp at g
    omega
  have l1 : (Ts.zip xs).map (·.1) = Ts := List.map_fst_zip (by omega)
  have l2 : (Ts.zip xs).map (·.2) = xs := List.map_snd_zip (by omega)
  have big : ∀ T ∈ Ts, h'.objs.size < T := fun T hT => by
    obtain ⟨j, hj⟩ := List.mem_iff_getElem?.mp hT
    obtain ⟨_, _, _, _, lt, _⟩ := at' j T hj
    exact lt
  have fresh : ∀ b, h'.objs.size ≤ b → H1 b = none := fun b hb => I2.hok.fresh hb
  have fp : ∀ b ∈ [e, it], FpOk X pins H1 b := fun b hb => by
    have : s1.heap.objs.size ≤ b := by
      simp only [List.mem_cons, List.not_mem_nil, or_false] at hb
      rcases hb with rfl | rfl
      · exact eg
      · exact ig
    exact I1.fpOk this (I1.hok.fresh this)
  obtain ⟨G, g1, g2⟩ := restrict h'' fun b => decide (b < h'.objs.size)
  have I3 : Inv X pins σ H1 { s1 with heap := G, toks := tk } := Inv.turnedL (s := { s1 with heap := h' }) (h' := G) (t' := tk) (I := I2) (ch := [e, it]) (fun b o hb e1 => by
    have hb' : b < h'.objs.size := Heap.lt_size e1
    rw [g1 b (decide_eq_true hb')]
    exact kp b o (fun z => hb (by simp [z])) (fun z => hb (by simp [z])) e1) fp
  have gN : ∀ b, h'.objs.size ≤ b → G.get? b = none := fun b hb => g2 b (decide_eq_false (Nat.not_lt_of_le hb))
  obtain ⟨G', I4, k4, o4⟩ := laidT (h'' := h'') (Ts.zip xs) 0 H1 G I3 (by rw [l1]; exact nd) (fun p hp => by
    have : p.1 ∈ Ts := by rw [← l1]; exact List.mem_map.mpr ⟨p, hp, rfl⟩
    have := big _ this
    exact ⟨gN _ (Nat.le_of_lt this), fresh _ (Nat.le_of_lt this)⟩) (fun b o e1 => by
    by_cases hb : b < h'.objs.size
    · rw [g1 b (decide_eq_true hb)] at e1
      exact e1
    · rw [gN b (Nat.le_of_not_lt hb)] at e1
      cases e1) (fun i p hp => by
    obtain ⟨h1, h2⟩ : Ts[i]? = some p.1 ∧ xs[i]? = some p.2 := by
      have := List.getElem?_zip_eq_some.mp hp
      exact this
    obtain ⟨_, t, x, e1, _, g⟩ := at' i p.1 h1
    obtain ⟨u, hu, ru⟩ := rv.get h2
    have : x = u := by rw [e1] at hu; exact Option.some.inj hu
    subst this
    exact ⟨t, x, ru, by rw [Nat.zero_add]; exact g⟩)
  have dN : h'.objs.size ∉ (Ts.zip xs).map (·.1) := by
    rw [l1]
    intro hm
    exact Nat.lt_irrefl _ (big _ hm)
  have rvs : Vals ((Ts.zip xs).map fun p => V.ref p.1) acc.toList := by
    have e1 : (Ts.zip xs).map (fun p => V.ref p.1) = Ts.map V.ref := by
      have := congrArg (List.map V.ref) l1
      rw [List.map_map] at this
      exact this
    rw [e1]
    refine vals_of_at ((List.length_map ..).trans (tl.trans (sz.symm.trans (Array.length_toList (xs := acc)).symm))) fun j x u h1 h2 => ?_
    rw [List.getElem?_map] at h1
    obtain ⟨T, hT, e2⟩ := Option.map_eq_some_iff.mp h1
    obtain ⟨hv, _⟩ := at' j T hT
    rw [Array.getElem?_toList, hv] at h2
    cases h2
    subst e2
    rfl
  have I5 : Inv X pins σ (upd (addT H1 (Ts.zip xs) 0) h'.objs.size (.lst ((Ts.zip xs).map fun p => V.ref p.1))) { s1 with heap := h'', toks := tk } := I4.laidN (t' := tk) k4 (by show G'.get? _ = none; rw [o4 _ dN]; exact gN _ (Nat.le_refl _)) (by rw [addT_off _ _ _ dN]; exact fresh _ (Nat.le_refl _))
    (show ObjOk X.prog X.w _ h'' h'.objs.size (.lst ((Ts.zip xs).map fun p => V.ref p.1)) from ⟨by
      have := congrArg List.length l1
      rw [List.length_map] at this
      rw [List.length_map, this, tl]
      exact hz, acc.toList, c, rvs, by rw [Array.toArray_toList]; exact hD⟩)
  exact ⟨.ref h'.objs.size, _, I5, rfl, q (Ts.zip xs) h'.objs.size l2 (by rw [l1]; exact nd) (fun p hp => by
    have : p.1 ∈ Ts := by rw [← l1]; exact List.mem_map.mpr ⟨p, hp, rfl⟩
    exact fresh _ (Nat.le_of_lt (big _ this))) dN (fresh _ (Nat.le_refl _))⟩
theorem pe_xEn {X : Cx} {e1 : Expr} {te : TE} {p p2 pos pos2 : Pos} (hc : X.calm = true) (hg : Gl X "list") (hm : X.mg "list" = none) (hg2 : Gl X "enumerate") (hm2 : X.mg "enumerate" = none) (ha : PE X e1 te)
    (na2 : starEach [e1] X.env = (false, eval e1 X.env) :: starEach [] X.env := by rfl) (na : starEach [.Call (.Name "enumerate" p2) [e1] [] pos2] X.env = (false, eval (.Call (.Name "enumerate" p2) [e1] [] pos2) X.env) :: starEach [] X.env := by rfl) :
    PE X (.Call (.Name "list" p) [.Call (.Name "enumerate" p2) [e1] [] pos2] [] pos) (xEn X.K te) := by
  refine ⟨fun pins s σ H Q I h => ?_⟩
  refine Call_ (ld_blt I hg hm boot_list (PyProof.Rows.callWith_type1 (args_cons (Call_ (ld_blt I hg2 hm2 boot_enumerate (PyProof.Rows.callWith_type1 (args_cons (thn (ha.run pins s σ H _ I h) fun u s1 ⟨v, H1, I1, ru, q1⟩ => args_nil ?_) na2) na2))) na) na))
  obtain ⟨a, xs, ex, hq, q⟩ := q1
  subst ex
  obtain rfl : u = Value.ref a := ru
  rcases hq with hq | hq
  · obtain ⟨its, rv, p', hz⟩ := I1.list hq
    refine call_enumerate_list p'.isList fun h' he hit hsz hk => args_nil ?_
    have al : a < s1.heap.objs.size := by obtain ⟨o, ho, _⟩ := p'.isList; exact Heap.lt_size ho
    exact xEn_go I1 rv hz hc (fun A hA => Draws.list hA s1.heap.objs.size a (Nat.ne_of_lt al) its.toArray) rfl rfl ⟨hit, p'.isList.at fun o e => hk a o e⟩ he hsz al hk q
  · obtain ⟨its, rv, p', hz⟩ := I1.tuple hq
    have al : a < s1.heap.objs.size := by obtain ⟨_, q, _⟩ := p'; exact Heap.lt_size q
    refine call_enumerate_B (begins_tuple a its.toArray) p' fun h' he hit hsz hk => args_nil ?_
    exact xEn_go I1 rv hz hc (fun A hA => Draws.tuple hA s1.heap.objs.size a (Nat.ne_of_lt al) its.toArray) rfl rfl ⟨⟨_, hit, rfl, rfl⟩, (by obtain ⟨o, q1, q2⟩ := p'; exact ⟨o, hk a o q1, q2⟩)⟩ he hsz al hk q
def sListEn (f : SE) : SE := ⟨fun en S => (f.run en S).bind fun p => (fz p.1 p.2).bind fun q => (enumK q.1 q.2).map fun r => (.pu (.list r.1), r.2), fun {en S w S'} e => by
  obtain ⟨p, h1, e⟩ := bind_some_of e
  obtain ⟨q, h2, e⟩ := bind_some_of e
  obtain ⟨r, h3, e⟩ := Option.map_eq_some_iff.mp e
  cases e
  have : r.2 = q.2 := by
    unfold enumK at h3
    split at h3 <;> cases h3 <;> rfl
  rw [this, ← fz_len h2]
  exact f.mono h1⟩
theorem z_listEn {X : Cx} {e1 : Expr} {f : SE} {p p2 pos pos2 : Pos} (hc : X.calm = true) (hg : Gl X "list") (hm : X.mg "list" = none) (hg2 : Gl X "enumerate") (hm2 : X.mg "enumerate" = none) (ha : PE X e1 (tI X.K f))
    (na2 : starEach [e1] X.env = (false, eval e1 X.env) :: starEach [] X.env := by rfl) (na : starEach [.Call (.Name "enumerate" p2) [e1] [] pos2] X.env = (false, eval (.Call (.Name "enumerate" p2) [e1] [] pos2) X.env) :: starEach [] X.env := by rfl) :
    PE X (.Call (.Name "list" p) [.Call (.Name "enumerate" p2) [e1] [] pos2] [] pos) (tI X.K (sListEn f)) := by
  refine pe_imp (pe_xEn hc hg hm hg2 hm2 ha na2 na) fun σ H Q ⟨F, m, S, P, en, w, S', rl, er, run, q⟩ => ?_
  obtain ⟨⟨x, S1⟩, h1, e⟩ := bind_some_of run
  obtain ⟨⟨d, S2⟩, h2, e⟩ := bind_some_of e
  refine ⟨F, m, S, P, en, x, S1, rl, er, h1, fun F1 m1 H1 v u1 rl1 wr1 => ?_⟩
  obtain ⟨F2, s2, rl2, at2⟩ := fz_ok rl1 wr1 h2
  have fin : ∀ {a : Addr} {xs : List V} {ds : List PyData}, v = .ref a → AtAll F2 xs ds → (SqL X.K H1 a xs ∨ SqT X.K H1 a xs) → some (W.pu (.list (enumD 0 ds)), S2) = some (w, S') →
      ∃ a xs, v = .ref a ∧ (SqL X.K H1 a xs ∨ SqT X.K H1 a xs) ∧ ∀ (L : List (Addr × V)) (q : Addr), L.map (·.2) = xs → (L.map (·.1)).Nodup → (∀ p ∈ L, H1 p.1 = none) → q ∉ L.map (·.1) → H1 q = none → Q (.ref q) (upd (addT H1 L 0) q (.lst (L.map fun p => V.ref p.1))) := by
    intro a xs ds ev ha hq e'
    refine ⟨a, xs, ev, hq, fun L b lx nd hn hb hb1 => ?_⟩
    obtain ⟨F3, s3, rl3, at3⟩ := addT_ok (F := F2) L H1 0 F2 rl2 nd hn (by rw [lx]; exact ha)
    have hbn : addT H1 L 0 b = none := by rw [addT_off _ _ _ hb]; exact hb1
    have s4 : Same F3 (upd F3 b (.lst (L.map fun p => V.ref p.1))) := same_upd (rl3.ex.free hbn)
    cases e'
    refine q _ m1 _ _ (u1.trans ⟨(s2.trans s3).trans s4, fun _ _ => rfl⟩ (f.mono h1)) (rl3.new hbn) ?_
    exact .lst upd_same (at3.mono s4)
  cases d with
  | list ds =>
    cases at2 with
    | @lst a vs _ g1 g2 => exact fin rfl g2 (.inl (SqL.of (rl2.ex _ _ g1))) e
  | tuple ds =>
    cases at2 with
    | @tup a vs _ g1 g2 => exact fin rfl g2 (.inr (SqT.of (rl2.ex _ _ g1))) e
  | _ => cases e
@[simp] theorem r_listEn {en : En} {S : Sto} {f : SE} : (sListEn f).run en S = (f.run en S).bind fun p => (fz p.1 p.2).bind fun q => (enumK q.1 q.2).map fun r => (.pu (.list r.1), r.2) := rfl
end Z

namespace L2
open PySem PySem.Spec PyProof.Rows
section
variable {P : Program} {w : World} {A : Around} {E : Value → Shared → Prop} {s : Shared}
theorem sp_pair {h : Heap} {v : Value} {x y : Int} (t : TS.TupInts h v [x, y]) : Srt.IsPair h v x y := by
  obtain ⟨a, xs, e, ⟨o, ho, hc, n, hd⟩, i⟩ := t
  have : ∃ t u, xs = #[.int x t, .int y u] := by
    obtain ⟨l⟩ := xs
    have i : IntsAre l [x, y] := i
    cases i
    rename_i i
    cases i
    rename_i i
    cases i
    exact ⟨_, _, rfl⟩
  obtain ⟨t, u, rfl⟩ := this
  exact ⟨a, o, t, u, n, e, ho, hc, hd⟩
def prN (ns : List Int) : Int × Int := (ns.getD 0 0, ns.getD 1 0)
theorem sp_sorted {a : Addr} {L : List (Addr × List Int)} {es : Array (Int × Value)} {ep : Nat} {t : SetTable} {Q : Value → Shared → Prop} (R : SetTR P w s.heap a L es ep t) (hh : A.handled = none)
    (hB : ∀ p ∈ L, ∃ x y, p.2 = [x, y])
    (hQ : ∀ s' p (out : Array Value) (c : Nat) (L' : List (Addr × List Int)), (∀ b o, s.heap.get? b = some o → s'.heap.get? b = some o) → s'.gens = s.gens → s'.os = s.os → s.heap.objs.size ≤ p →
      s'.heap.get? p = some (seqObj "list" out c) → out.toList = L'.map (fun q => Value.ref q.1) → L'.Perm L → L'.Pairwise (fun q r => SrtO.lexB (prN r.2) (prN q.2) = false) → Q (.ref p) s') :
    wpAny (model P w) A (call (.builtin "sorted") [.ref a]) Q E s := by
  obtain ⟨o, ho, hex, hd⟩ := R.ob
  have hsz := R.size
  have hfew := R.few
  refine Calls.call_function_entry kind_sorted plain_sorted entry_sorted (args_sorted1 _) ?_
  unfold Builtin.«sorted»
  refine wpAny_bind (m := checkCount "sorted" 1 1 _) (wpAny_pure ?_)
  refine wpAny_bind (collect_set (A := A.in1) hh ⟨o, ho, hex.1, hd⟩ R.fits (by unfold scanBound; omega) R.tab.ris R.led fun s1 vs k1 hz g1 o1 pm => ?_)
  have hes : es.toList.map (·.2) = L.map fun q => Value.ref q.1 := by
    rw [R.rows]
    unfold rowsOf
    rw [List.map_map] <;> rfl
  rw [hes] at pm
  have ord : ∀ vs : List Value, (∀ v ∈ vs, ∃ q ∈ L, v = Value.ref q.1) → ∃ L1 : List (Addr × List Int), vs = L1.map (fun q => Value.ref q.1) ∧ ∀ q ∈ L1, q ∈ L := by
    intro vs
    induction vs with
    | nil => intro _; exact ⟨[], rfl, fun q hq => (by cases hq)⟩
    | cons v vs ih =>
      intro hv
      obtain ⟨q, hq, e⟩ := hv v List.mem_cons_self
      obtain ⟨L1, e1, hs⟩ := ih fun u hu => hv u (List.mem_cons_of_mem _ hu)
      refine ⟨q :: L1, by rw [List.map_cons, e, e1], fun r hr => ?_⟩
      rcases List.mem_cons.mp hr with z | z
      · rw [z]; exact hq
      · exact hs r z
  have one : ∀ q ∈ L, ∀ r ∈ L, q.1 = r.1 → q = r := fun q hq r hr e => by
    have a1 := R.tup q hq
    have a2 := R.tup r hr
    rw [e] at a1
    have e2 : q.2 = r.2 := a1.inj a2
    exact Prod.ext e e2
  have hvl : vs.length < 64 := by rw [pm.length_eq, List.length_map]; exact hfew
  refine wpAny_bind (wpAny_newList ?_ (by rw [sizeLine_eq]; omega))
  have hoL : (s1.heap.push (seqObj "list" vs.toArray 0)).get? s1.heap.objs.size = some (seqObj "list" vs.toArray 0) := Heap.get?_push_size _ rfl
  have tk : ∀ q ∈ L, TS.TupInts (s1.heap.push (seqObj "list" vs.toArray 0)) (.ref q.1) q.2 := fun q hq => tupInts_of (P := P) (w := w) (isT_keep (R.tup q hq) fun b u e => Heap.get?_push_of_some _ (k1 b u e))
  have kv : ∀ q ∈ L, TS.intsOf (s1.heap.push (seqObj "list" vs.toArray 0)) (.ref q.1) = q.2 := fun q hq => (tk q hq).ints
  have fin : ∀ out : List Value, SrtO.Srtd (fun v u => SrtO.lexB (prN (TS.intsOf (s1.heap.push (seqObj "list" vs.toArray 0)) v)) (prN (TS.intsOf (s1.heap.push (seqObj "list" vs.toArray 0)) u))) out → out.Perm vs → Q (.ref s1.heap.objs.size) { s1 with heap := sortedHeap (s1.heap.push (seqObj "list" vs.toArray 0)) s1.heap.objs.size vs out.toArray } := fun out a2 a1 => by
    obtain ⟨c, hc⟩ := sortedHeap_at (vs := vs) (out := out.toArray) hoL
    obtain ⟨L', e', hs'⟩ := ord out fun v hv => by
      obtain ⟨q, hq, e⟩ := List.mem_map.mp (pm.mem_iff.mp (a1.mem_iff.mp hv))
      exact ⟨q, hq, e.symm⟩
    have pL : L'.Perm L := by
      have nL : L.Nodup := nodup_of_map R.nd
      have pm2 : (L'.map fun q => Value.ref q.1).Perm (L.map fun q => Value.ref q.1) := by rw [← e']; exact a1.trans pm
      have nd1 : (L.map fun q => Value.ref q.1).Nodup := List.pairwise_map.mpr (nL.imp_of_mem fun {q r} hq hr hne e => hne (one q hq r hr (by injection e)))
      have nd2 : L'.Nodup := nodup_of_map (pm2.nodup_iff.mpr nd1)
      refine (List.perm_ext_iff_of_nodup nd2 nL).mpr fun q => ⟨hs' q, fun hq => ?_⟩
      obtain ⟨r, hr, e⟩ := List.mem_map.mp (pm2.mem_iff.mpr (List.mem_map.mpr ⟨q, hq, rfl⟩))
      rw [← one r (hs' r hr) q hq (by injection e)]
      exact hr
    have pw : L'.Pairwise (fun q r => SrtO.lexB (prN r.2) (prN q.2) = false) := by
      rw [e'] at a2
      refine List.Pairwise.imp_of_mem (fun {q r} hq hr hle => ?_) (List.pairwise_map.mp a2)
      have hle : SrtO.lexB (prN (TS.intsOf (s1.heap.push (seqObj "list" vs.toArray 0)) (.ref r.1))) (prN (TS.intsOf (s1.heap.push (seqObj "list" vs.toArray 0)) (.ref q.1))) = false := hle
      rw [kv q (hs' q hq), kv r (hs' r hr)] at hle
      exact hle
    refine hQ _ s1.heap.objs.size out.toArray c L' (fun b u e => ?_) g1 o1 hz hc (by simpa using e') pL pw
    have q := k1 b u e
    have hlt := Heap.lt_size q
    show (sortedHeap (s1.heap.push (seqObj "list" vs.toArray 0)) s1.heap.objs.size vs out.toArray).get? b = some u
    rw [sortedHeap_old (Nat.ne_of_lt hlt) (by rw [size_push']; exact Nat.lt_succ_of_lt hlt)]
    exact Heap.get?_push_of_some _ q
  refine wpAny_bind (wpAny_holding (wpAny_call_entry slot_list_sort ⟨_, hoL, rfl⟩ entry_list_sort (SrtO.list_sort_ord (SrtO.swo_lex fun v => prN (TS.intsOf (s1.heap.push (seqObj "list" vs.toArray 0)) v)) hoL (by rw [sizeLine_eq]; omega) (fun h2 => SrtO.pairs_sortableO (s := { s1 with heap := s1.heap.push (seqObj "list" vs.toArray 0) }) (by omega) (fun v hv => ?_) fun o e => ?_) fun out a2 sb => ⟨_, rfl, ?_⟩) (args_list_sort _)))
  · obtain ⟨q, hq, e⟩ := List.mem_map.mp (pm.mem_iff.mp hv)
    obtain ⟨x, y, exy⟩ := hB q hq
    subst e
    show Srt.IsPair _ _ (prN (TS.intsOf _ (.ref q.1))).1 (prN (TS.intsOf _ (.ref q.1))).2
    rw [kv q hq]
    have tq := tk q hq
    rw [exy] at tq ⊢
    exact sp_pair tq
  · have e' : some o = some (seqObj "list" vs.toArray 0) := e.symm.trans hoL
    cases e'
    intro c
    exact absurd (Value.type.inj c) (by decide)
  · exact wpAny_pure ⟨_, rfl, fin out a2 sb.perm⟩
end
end L2
namespace Z
open PySem PySem.Spec PyProof.Rows L2
/-! ### sorted(set(x)), x a list of pairs of ints -/
def tSP (K : PySem.W.Frag) (te : TE) : TE := fun σ H Q => te σ H fun x H1 => ∃ (l : Addr) (ks : List (Addr × List Int)), x = V.ref l ∧ SqL K H1 l (ks.map fun p => V.ref p.1) ∧ (∀ p ∈ ks, SqT K H1 p.1 (p.2.map V.int)) ∧ ks.length < 64 ∧ (∀ p ∈ ks, ∃ x y, p.2 = [x, y]) ∧
  ∀ (L' : List (Addr × List Int)) (p : Addr), (∀ q ∈ L', q ∈ ks) → (∀ q ∈ ks, q.2 ∈ L'.map (·.2)) → (L'.map (·.2)).Nodup → L'.Pairwise (fun q r => SrtO.lexB (prN r.2) (prN q.2) = false) → H1 p = none → Q (.ref p) (upd H1 p (.lst (L'.map fun q => V.ref q.1)))
theorem pe_sortSP {X : Cx} {e : Expr} {te : TE} {p p2 q pos : Pos} (hc : X.calm = true) (hu : X.A.units + 64 < cLine) (hg : Gl X "sorted") (hm : X.mg "sorted" = none) (hg2 : Gl X "set") (hm2 : X.mg "set" = none) (ha : PE X e te)
    (na : starEach [e] X.env = (false, eval e X.env) :: starEach [] X.env := by rfl) : PE X (.Call (.Name "sorted" p) [.Call (.Name "set" p2) [e] [] q] [] pos) (tSP X.K te) := by
  refine ⟨fun pins s σ H Q I h => ?_⟩
  refine Call_ (ld_blt I hg hm PyProof.Rows.boot_sorted ?_)
  refine PyProof.Rows.callWith_builtin1 (PyProof.Rows.args_cons ?_ rfl) rfl rfl
  refine Call_ (ld_blt I hg2 hm2 PyProof.Rows.boot_set ?_)
  refine PyProof.Rows.callWith_type1 (PyProof.Rows.args_cons (thn (ha.run pins s σ H _ I h) fun v s1 ⟨x, H1, I1, r1, q1⟩ => PyProof.Rows.args_nil ?_) na) na rfl
  obtain ⟨l, ks, rfl, hl, hk, hf, h2, q1⟩ := q1
  cases r1
  obtain ⟨its, rv, pl, hz⟩ := I1.list hl
  refine call_set_tups (P := X.prog) (w := X.w) ks (I1.ok.hd hc) pl.isList (by simpa using refs_of_vals rv) (fun p hp => I1.isT (hk p hp)) hf (by omega) fun h' tk L es ep t R g k => ?_
  have sub : ∀ p ∈ L, p ∈ ks := fun p hp => List.mem_of_mem_take (g.sub p hp)
  have all : ∀ p ∈ ks, p.2 ∈ L.map (·.2) := fun p hp => g.all p (by rw [List.take_length]; exact hp)
  refine PyProof.Rows.args_nil ?_
  have I2 : Inv X pins σ H1 { s1 with heap := h', toks := tk } := I1.kept (t' := tk) k
  refine sp_sorted (s := { s1 with heap := h', toks := tk }) R (I2.ok.hd hc) (fun p hp => h2 p (sub p hp)) fun s' p out c L' k' g' o' hp hg' hout pm pw => ?_
  have hfew : L'.length < 64 := by rw [pm.length_eq]; exact R.few
  have hlen : (L'.map fun q => V.ref q.1).length ≤ sizeLine := by rw [List.length_map, sizeLine_eq]; omega
  have hn : H1 p = none := I2.hok.fresh hp
  have hv : Vals (L'.map fun q => V.ref q.1) out.toList := by rw [hout]; exact vals_of_refs L'
  have J : Inv X pins σ (upd H1 p (.lst (L'.map fun q => V.ref q.1))) { s1 with heap := s'.heap, gens := s'.gens, drawn := s'.drawn, toks := s'.toks } :=
    Inv.call (s := { s1 with heap := h', toks := tk }) (ch := []) I2 (Un.laid k' hp hn) (I2.hok.laid k' hp ⟨hlen, out.toList, c, hv, hg'⟩) (by rw [g']; exact I2.bare) (fun _ z => nomatch z)
  have e : s' = { s1 with heap := s'.heap, gens := s'.gens, drawn := s'.drawn, toks := s'.toks } := by
    cases s'
    cases s1
    cases o'
    rfl
  rw [e]
  exact ⟨.ref p, _, J, rfl, q1 L' p (fun q hq => sub q (pm.mem_iff.mp hq)) (fun q hq => (pm.map (·.2)).mem_iff.mpr (all q hq)) ((pm.map (·.2)).nodup_iff.mpr R.nd) pw hn⟩
def dedP : List (Int × Int) → List (Int × Int)
  | [] => []
  | x :: xs => if x ∈ xs then dedP xs else x :: dedP xs
theorem dedP_mem : ∀ {xs : List (Int × Int)} {p : Int × Int}, p ∈ dedP xs ↔ p ∈ xs
  | [], _ => Iff.rfl
  | x :: xs, p => by
    unfold dedP
    have ih := dedP_mem (xs := xs) (p := p)
    split
    · rename_i h
      rw [ih, List.mem_cons]
      exact ⟨.inr, fun z => z.elim (fun e => e ▸ h) id⟩
    · rw [List.mem_cons, List.mem_cons, ih]
theorem dedP_nd : ∀ xs : List (Int × Int), (dedP xs).Nodup
  | [] => .nil
  | x :: xs => by
    unfold dedP
    split
    · exact dedP_nd xs
    · rename_i h
      exact List.nodup_cons.mpr ⟨fun z => h (dedP_mem.mp z), dedP_nd xs⟩
/-- the members, each once, in their order -/
def setP (ps : List (Int × Int)) : List (Int × Int) := sortP (dedP ps)
theorem setP_mem {ps : List (Int × Int)} {p : Int × Int} : p ∈ setP ps ↔ p ∈ ps := (sortP_perm _).mem_iff.trans dedP_mem
theorem setP_uniq {ps Y : List (Int × Int)} (nd : Y.Nodup) (mem : ∀ p, p ∈ Y ↔ p ∈ ps) (pw : Y.Pairwise (leP · · = true)) : Y = setP ps :=
  sortP_uniq ((List.perm_ext_iff_of_nodup nd (dedP_nd ps)).mpr fun p => (mem p).trans dedP_mem.symm) pw
def adV : V → Addr
  | .ref t => t
  | _ => 0
def sSortSetP (mt : Bool) (f : SE) : SE := ⟨fun en S => (f.run en S).bind fun p => (lookS p.1 p.2).bind fun ds => (Z.pairsOf ds).bind fun ps => if ps.length < 64 then some (mkL mt ((setP ps).map pr2) p.2) else none, fun {en S w S'} e => by
  obtain ⟨p, h1, e⟩ := bind_some_of e
  obtain ⟨ds, h2, e⟩ := bind_some_of e
  obtain ⟨ns, h3, e⟩ := bind_some_of e
  split at e
  · have := mkL_len (mt := mt) (ds := (setP ns).map pr2) (S := p.2)
    rw [Option.some.inj e] at this
    exact Nat.le_trans (f.mono h1) this
  · cases e⟩
theorem z_sortSetP {X : Cx} {e : Expr} {f : SE} {p p2 q pos : Pos} (mt : Bool) (hc : X.calm = true) (hu : X.A.units + 64 < cLine) (hg : Gl X "sorted") (hm : X.mg "sorted" = none) (hg2 : Gl X "set") (hm2 : X.mg "set" = none) (he : PE X e (tI X.K f))
    (na : starEach [e] X.env = (false, eval e X.env) :: starEach [] X.env := by rfl) : PE X (.Call (.Name "sorted" p) [.Call (.Name "set" p2) [e] [] q] [] pos) (tI X.K (sSortSetP mt f)) := by
  refine pe_imp (pe_sortSP hc hu hg hm hg2 hm2 he na) fun σ H Q ⟨F, m, S, P, en, w, S', rl, er, run, q⟩ => ?_
  obtain ⟨⟨x, S1⟩, h1, e⟩ := bind_some_of run
  obtain ⟨ds, h2, e⟩ := bind_some_of e
  obtain ⟨ns, h3, e⟩ := bind_some_of e
  split at e
  · rename_i hl
    refine ⟨F, m, S, P, en, x, S1, rl, er, h1, fun F1 m1 H1 v u1 rl1 wr1 => ?_⟩
    obtain ⟨a, vs, rfl, g1, g2⟩ := lookS_ok rl1 wr1 h2
    rw [pairsOf_eq h3] at g2
    obtain ⟨k1, k2⟩ := atall_pr g2
    have ev : (vs.map fun v => (adV v, [(kP F1 v).1, (kP F1 v).2])).map (fun p => V.ref p.1) = vs := by
      rw [List.map_map]
      refine (List.map_congr_left fun v hv => ?_).trans (List.map_id vs)
      obtain ⟨t, rfl, _⟩ := k2 v hv
      rfl
    refine ⟨a, vs.map fun v => (adV v, [(kP F1 v).1, (kP F1 v).2]), rfl, by rw [ev]; exact g1, fun p hp => ?_, ?_, fun p hp => ?_, fun L' p' sub all nd pw hf => ?_⟩
    · obtain ⟨v, hv, rfl⟩ := List.mem_map.mp hp
      obtain ⟨t, rfl, e2⟩ := k2 v hv
      exact SqT.of (rl1.ex _ _ e2)
    · rw [List.length_map]
      have := congrArg List.length k1
      rw [List.length_map] at this
      omega
    · obtain ⟨v, hv, rfl⟩ := List.mem_map.mp hp
      exact ⟨_, _, rfl⟩
    have mk : ∀ r ∈ L', ∃ v ∈ vs, r = (adV v, [(kP F1 v).1, (kP F1 v).2]) := fun r hr => by
      obtain ⟨v, hv, e⟩ := List.mem_map.mp (sub r hr)
      exact ⟨v, hv, e.symm⟩
    have e3 : L'.map (fun r => prN r.2) = setP ns := by
      refine setP_uniq ?_ (fun p => ?_) ?_
      · have nd2 : L'.Pairwise (fun r t => r.2 ≠ t.2) := List.pairwise_map.mp nd
        refine List.pairwise_map.mpr (nd2.imp_of_mem fun {r t} hr ht hne e => hne ?_)
        obtain ⟨v, hv, rfl⟩ := mk r hr
        obtain ⟨u, hu, rfl⟩ := mk t ht
        have e : kP F1 v = kP F1 u := e
        show [(kP F1 v).1, (kP F1 v).2] = [(kP F1 u).1, (kP F1 u).2]
        rw [e]
      · rw [← k1, List.mem_map, List.mem_map]
        constructor
        · rintro ⟨r, hr, rfl⟩
          obtain ⟨v, hv, rfl⟩ := mk r hr
          exact ⟨v, hv, rfl⟩
        · rintro ⟨v, hv, rfl⟩
          obtain ⟨r, hr, e⟩ := List.mem_map.mp (all _ (List.mem_map.mpr ⟨v, hv, rfl⟩))
          exact ⟨r, hr, by rw [e]; rfl⟩
      · refine List.pairwise_map.mpr (pw.imp fun h => ?_)
        have := SrtO.lexB_no.mp h
        exact leP_iff.mpr (by omega)
    have k3 : AtAll F1 (L'.map fun q => V.ref q.1) ((setP ns).map pr2) := by
      have back := atall_back (F := F1) (vs := L'.map fun q => V.ref q.1) fun x hx => by
        obtain ⟨r, hr, rfl⟩ := List.mem_map.mp hx
        obtain ⟨v, hv, rfl⟩ := mk r hr
        obtain ⟨t, rfl, e2⟩ := k2 v hv
        exact ⟨t, rfl, e2⟩
      have e4 : (L'.map fun q => V.ref q.1).map (kP F1) = setP ns := by
        rw [← e3, List.map_map]
        apply List.map_congr_left
        intro r hr
        obtain ⟨v, hv, rfl⟩ := mk r hr
        obtain ⟨t, rfl, e2⟩ := k2 v hv
        rfl
      rw [e4] at back
      exact back
    refine mkL_ok (K := X.K) (mt := mt) rl1 k3 (fun F4 m4 H4 v4 u4 rl4 wr4 => ?_) p' hf
    have e' : mkL mt ((setP ns).map pr2) S1 = (w, S') := Option.some.inj e
    rw [e'] at rl4 wr4
    exact q F4 m4 H4 v4 (u1.trans u4 (f.mono h1)) rl4 wr4
  · cases e
@[simp] theorem r_sortSetP {mt : Bool} {f : SE} {en : En} {S : Sto} : (sSortSetP mt f).run en S = (f.run en S).bind fun p => (lookS p.1 p.2).bind fun ds => (Z.pairsOf ds).bind fun ps => if ps.length < 64 then some (mkL mt ((setP ps).map pr2) p.2) else none := rfl
theorem roomC {k : Nat} {A : Around} (r : Room k A) : A.units + 64 < cLine := by have := room65 r; omega
end Z

namespace Z
open PySem L2 PyProof.Rows
/-! ### list(range(a, b, c)), c a number from 1 -/
def rngN (i j : Int) (c : Nat) : Nat := (Builtin.Range.rangeSize i j (c : Int)).toNat
theorem rngN_eq {i j : Int} {c : Nat} (hc : 0 < c) : Builtin.Range.rangeSize i j (c : Int) = rngN i j c := by
  have : 0 ≤ Builtin.Range.rangeSize i j (c : Int) := by
    unfold Builtin.Range.rangeSize
    rw [if_pos (by omega)]
    split
    · have : 0 ≤ (j - i - 1) / (c : Int) := Int.ediv_nonneg (by omega) (by omega)
      omega
    · exact Int.le_refl _
  unfold rngN
  omega
def rngCV (i : Int) (c n : Nat) : List V := (List.range n).map fun (k : Nat) => V.int (i + (k : Int) * (c : Int))
def rngCI (i : Int) (c n : Nat) : List Int := (List.range n).map fun (k : Nat) => i + (k : Int) * (c : Int)
theorem vals_items {g : Nat → Int} : ∀ {n : Nat} {acc : Array Value}, ItemsOf (fun i v => ∃ t, v = .int (g i) t) acc n → Vals ((List.range n).map fun k => V.int (g k)) acc.toList := by
  intro n acc ⟨hs, h⟩
  have gen : ∀ (l : List Value) (f : Nat), (∀ (j : Nat) v, l[j]? = some v → ∃ t, v = .int (g (f + j)) t) → Vals ((List.range l.length).map fun k => V.int (g (f + k))) l := by
    intro l
    induction l with
    | nil => intro f _; exact .nil
    | cons v l ih =>
      intro f hl
      rw [List.length_cons, List.range_succ_eq_map, List.map_cons, List.map_map]
      refine .cons (hl 0 v rfl) ?_
      have := ih (f + 1) fun j u hu => by
        have := hl (j + 1) u (by simpa using hu)
        rw [show f + 1 + j = f + (j + 1) by omega]
        exact this
      have e : (List.range l.length).map (fun k => V.int (g (f + 1 + k))) = (List.range l.length).map ((fun k => V.int (g (f + k))) ∘ Nat.succ) := by
        refine List.map_congr_left fun k _ => ?_
        show _ = V.int (g (f + (k + 1)))
        rw [show f + 1 + k = f + (k + 1) by omega]
      rw [← e]
      exact this
  have := gen acc.toList 0 fun j v hv => by
    rw [Nat.zero_add]
    exact h j v (by rw [← Array.getElem?_toList]; exact hv)
  rw [Array.length_toList, hs] at this
  simpa using this
def tRgC (K : PySem.W.Frag) (c : Nat) (ta : TA) : TE := fun σ H Q => ta σ H fun vs H1 => ∃ i j : Int, vs = [.int i, .int j, .int c] ∧ rngN i j c ≤ 2 ^ 24 ∧ ∀ q, H1 q = none → Q (.ref q) (upd H1 q (.lst (rngCV i c (rngN i j c))))
theorem pe_rngC {X : Cx} {a b k : Expr} {ta : TA} {c : Nat} {p p2 pos q0 : Pos} (h0 : 0 < c) (h9 : c ≤ 1000) (hc : X.calm = true) (hg : Gl X "list") (hm : X.mg "list" = none) (hg2 : Gl X "range") (hm2 : X.mg "range" = none) (he : PA X [a, b, k] ta)
    (na : starEach [.Call (.Name "range" p2) [a, b, k] [] q0] X.env = (false, eval (.Call (.Name "range" p2) [a, b, k] [] q0) X.env) :: starEach [] X.env := by rfl)
    (nb : starEach [a, b, k] X.env = (false, eval a X.env) :: starEach [b, k] X.env := by rfl) (nc : ((backTo q0 (starEach [b, k] X.env)).any fun x => x.fst) = false := by rfl) :
    PE X (.Call (.Name "list" p) [.Call (.Name "range" p2) [a, b, k] [] q0] [] pos) (tRgC X.K c ta) := by
  refine ⟨fun pins s σ H Q I h => ?_⟩
  refine Call_ (ld_blt I hg hm boot_list (PyProof.Rows.callWith_type1 (args_cons ?_ na) na))
  refine Call_ (ld_blt I hg2 hm2 boot_range (PyProof.Rows.callWith_type1 (thn (he.run q0 pins s σ H _ I h) fun us s1 ⟨vs, H1, I1, vr, q⟩ => ?_) nb nc))
  obtain ⟨i, j, rfl, hn, q⟩ := q
  cases vr with
  | cons r1 vr =>
    cases vr with
    | cons r2 vr =>
      cases vr with
      | cons r3 vr =>
        cases vr
        obtain ⟨t1, rfl⟩ := r1
        obtain ⟨t2, rfl⟩ := r2
        obtain ⟨t3, rfl⟩ := r3
        refine call_range_3 (by omega) ?_ (.inl ?_)
        · refine args_nil ?_
          have k1 : ∀ b o, s1.heap.get? b = some o → (s1.heap.push { cls := .type "range", data := .fields #[.int i t1, .int j t2, .int (c : Int) t3] }).get? b = some o := fun b o e => Heap.get?_push_of_some _ e
          have I2 := I1.kept (h' := s1.heap.push { cls := .type "range", data := .fields #[.int i t1, .int j t2, .int (c : Int) t3] }) (t' := s1.toks) k1
          have hr : IsRange (s1.heap.push { cls := .type "range", data := .fields #[.int i t1, .int j t2, .int (c : Int) t3] }) s1.heap.objs.size i j (c : Int) t1 t2 t3 := Heap.get?_push_size _ rfl
          generalize s1.heap.push { cls := .type "range", data := .fields #[.int i t1, .int j t2, .int (c : Int) t3] } = hp at *
          refine xl_call (s := { heap := hp, gens := s1.gens, drawn := s1.drawn, toks := s1.toks, os := s1.os }) (n := rngN i j c) (I2.ok.hd hc) hr (rngN_eq h0) hn fun h' tk acc c' hk e' hi => ?_
          refine ⟨.ref hp.objs.size, upd H1 hp.objs.size (.lst (rngCV i c (rngN i j c))), I2.laid hk (Nat.le_refl _) (show ObjOk X.prog X.w _ _ _ (.lst (rngCV i c (rngN i j c))) from ⟨?_, acc.toList, c', vals_items hi, ?_⟩), rfl, q _ (I2.hok.fresh (Nat.le_refl _))⟩
          · unfold rngCV
            rw [List.length_map, List.length_range, sizeLine_eq]
            omega
          · rw [Array.toArray_toList]; exact e'
        · have c0 : ((c : Int) == 0) = false := beq_eq_false_iff_ne.mpr (by omega)
          have d : decide ((c : Int).natAbs.log2 / 30 + 1 > 300) = false := decide_eq_false (by
            have := Nat.log2_le_self (c : Int).natAbs
            have e : (c : Int).natAbs = c := Int.natAbs_natCast c
            rw [e] at this ⊢
            omega)
          show (decide ((if ((c : Int) == 0) = true then 0 else (c : Int).natAbs.log2 / 30 + 1) > 300) && _) = false
          rw [c0, if_neg (by decide), d]
          rfl
def rngCK (mt : Bool) (c : Nat) (x y : W) (S : Sto) : Option (W × Sto) := match x, y with
  | .pu (.int i), .pu (.int j) => if Nat.ble (rngN i j c) 100000 = true then some (mkL mt ((rngCI i c (rngN i j c)).map .int) S) else none
  | _, _ => none
theorem atall_rngC {F : Hp} (i : Int) (c n : Nat) : AtAll F (rngCV i c n) ((rngCI i c n).map .int) := by
  unfold rngCV rngCI
  generalize List.range n = l
  induction l with
  | nil => exact .nil
  | cons x l ih => exact .cons (.int _) ih
def sRngC (mt : Bool) (c : Nat) (f g : SE) : SE := ⟨fun en S => (f.run en S).bind fun p => (g.run en p.2).bind fun q => rngCK mt c p.1 q.1 q.2, fun {en S w S'} e => by
  obtain ⟨p, h1, e⟩ := bind_some_of e
  obtain ⟨q, h2, e⟩ := bind_some_of e
  unfold rngCK at e
  split at e
  · split at e
    · rename_i i j _ _ _
      have h := mkL_len (mt := mt) (ds := (rngCI i c (rngN i j c)).map .int) (S := q.2)
      rw [Option.some.inj e] at h
      exact Nat.le_trans (Nat.le_trans (f.mono h1) (g.mono h2)) h
    · cases e
  · cases e⟩
theorem z_rngC {X : Cx} {a b k : Expr} {ta : TA} {c : Nat} {mt : Bool} {f g : SE} {p p2 pos q0 : Pos} (h0 : 0 < c) (h9 : c ≤ 1000) (hc : X.calm = true) (hg : Gl X "list") (hm : X.mg "list" = none) (hg2 : Gl X "range") (hm2 : X.mg "range" = none) (he : PA X [a, b, k] ta) (hta : ta = tIA X.K (aCons f (aCons g (aCons (sC (.int c)) aNil))))
    (na : starEach [.Call (.Name "range" p2) [a, b, k] [] q0] X.env = (false, eval (.Call (.Name "range" p2) [a, b, k] [] q0) X.env) :: starEach [] X.env := by rfl)
    (nb : starEach [a, b, k] X.env = (false, eval a X.env) :: starEach [b, k] X.env := by rfl) (nc : ((backTo q0 (starEach [b, k] X.env)).any fun x => x.fst) = false := by rfl) :
    PE X (.Call (.Name "list" p) [.Call (.Name "range" p2) [a, b, k] [] q0] [] pos) (tI X.K (sRngC mt c f g)) := by
  subst hta
  refine pe_imp (pe_rngC h0 h9 hc hg hm hg2 hm2 he na nb nc) fun σ H Q ⟨F, m, S, P, en, w, S', rl, er, run, q⟩ => ?_
  obtain ⟨⟨x, S1⟩, h1, e⟩ := bind_some_of run
  obtain ⟨⟨y, S2⟩, h2, e⟩ := bind_some_of e
  have e : rngCK mt c x y S2 = some (w, S') := e
  refine ⟨F, m, S, P, en, [x, y, .pu (.int c)], S2, rl, er, ?_, fun F1 m1 H1 vs u1 rl1 wr1 => ?_⟩
  · show (f.run en S).bind _ = _
    rw [h1]
    show ((g.run en S1).bind _).map _ = _
    rw [h2]
    rfl
  · cases wr1 with
    | cons w1 wr =>
      cases wr with
      | cons w2 wr =>
        cases wr with
        | cons w3 wr =>
          cases wr
          cases w3
          unfold rngCK at e
          split at e
          · split at e
            · rename_i i j _ _ hk
              cases w1
              cases w2
              have hk := Nat.le_of_ble_eq_true hk
              refine ⟨i, j, rfl, by omega, mkL_ok (K := X.K) (mt := mt) rl1 (atall_rngC i c _) fun F4 m4 H4 v4 u4 rl4 wr4 => ?_⟩
              have e' : mkL mt ((rngCI i c (rngN i j c)).map .int) S2 = (w, S') := Option.some.inj e
              rw [e'] at rl4 wr4
              exact q F4 m4 H4 v4 (u1.trans u4 (Nat.le_trans (f.mono h1) (g.mono h2))) rl4 wr4
            · cases e
          · cases e
@[simp] theorem r_rngC {f g : SE} {c : Nat} {mt : Bool} {en : En} {S : Sto} : (sRngC mt c f g).run en S = (f.run en S).bind fun p => (g.run en p.2).bind fun q => rngCK mt c p.1 q.1 q.2 := rfl
theorem rngCK_int {i j : Int} {c : Nat} {mt : Bool} {S : Sto} (h : rngN i j c ≤ 100000) : rngCK mt c (.pu (.int i)) (.pu (.int j)) S = some (mkL mt (dI (rngCI i c (rngN i j c))) S) := by
  show (if Nat.ble (rngN i j c) 100000 = true then _ else _) = _
  rw [if_pos (Nat.ble_eq_true_of_le h)]
end Z

namespace Z
open PySem L2 PyProof.Rows
/-! ### for .. in range(a, b), a or b far away -/
theorem own_int {M : Model} {A : Around} {E : Value → Shared → Prop} {s : Shared} {tg : Expr} {it : Addr} {i : Int} {t : Tok} {Q : Unit → Shared → Prop} (h : Q () s) : wpAny M A (letOwnedTupleGo tg (.ref it) (.int i t)) Q E s := by
  unfold letOwnedTupleGo
  cases tg <;> exact wpAny_pure h
theorem turn_longrange {P : Program} {w : World} {K : PySem.W.Frag} {tg : Expr} (it : Addr) (lo : Int) (n : Nat) : Turn P w K tg (Itr lo n) [it] it fun i h => i ≤ n ∧ IsLongIter h it (lo + (i : Int) * 1) ((n : Int) - (i : Int)) 1 := by
  refine ⟨List.mem_singleton.mpr rfl, fun i h ⟨_, e⟩ b hb => ?_, fun i h h' ⟨l, e⟩ k => ⟨l, k it (List.mem_singleton.mpr rfl) _ e⟩, ?_, ?_, fun A i s Q E ⟨_, e⟩ q => wpAny_pyIter_longiter e q⟩
  · rw [List.mem_singleton.mp hb]
    exact ⟨_, e, fun v z => by cases z⟩
  · rintro X rfl rfl rfl hc i pins s σ H E I fp ⟨hle, e⟩ go
    have W := Walks.longrange (prog := X.prog) (w := X.w) (A := X.A) (I.ok.hd hc) it lo 1 n
    have go : i < n := go
    refine W.item i s _ _ go e fun v h' tk ⟨t, hv⟩ st fr => ⟨v, rfl, ?_⟩
    subst hv
    have J := I.turnedL (h' := h') (t' := tk) (ch := [it]) fr fp
    refine own_int ⟨V.int (lo + (i : Int)), H, J, ⟨t, by rw [Int.mul_one]⟩, ⟨rfl, rfl⟩, ⟨go, st⟩, fun b hb => (fp b hb).1⟩
  · rintro X rfl rfl rfl hc i pins s σ H E I fp ⟨hle, e⟩ st
    have W := Walks.longrange (prog := X.prog) (w := X.w) (A := X.A) (I.ok.hd hc) it lo 1 n
    have st : n ≤ i := st
    have ei : i = n := Nat.le_antisymm hle st
    subst ei
    exact W.done s _ _ e fun h' tk fr => ⟨rfl, I.turnedL (h' := h') (t' := tk) (ch := [it]) fr fp⟩
def iRngL (te : L2.St → Hp → (Int → Int → Hp → Prop) → Prop) : TI := fun σ H R => te σ H fun i j H1 => Builtin.Range.small i j 1 = false ∧ R (Itr i (j - i).toNat) H1
theorem pi_rangeL {X : Cx} {tg e : Expr} {te : L2.St → Hp → (Int → Int → Hp → Prop) → Prop} (he : PRg X e te) : PI X tg e (iRngL te) := by
  refine ⟨fun pins s σ H R I h => ?_⟩
  refine thn (he pins s σ H _ I h) fun x s1 ⟨r, a, b, t, u, v, H1, ex, hr, I1, hs, q⟩ => ?_
  subst ex
  refine wpAny_pyIter_longrange hr hs ?_
  have k1 : ∀ b' o, s1.heap.get? b' = some o → (s1.heap.push { cls := .type "longrange_iterator", data := .fields #[rawInt a, rawInt (Builtin.Range.rangeSize a b 1), rawInt 1] }).get? b' = some o := fun b' o e => Heap.get?_push_of_some _ e
  have I2 := I1.kept (t' := s1.toks) k1
  refine ⟨s1.heap.objs.size, [s1.heap.objs.size], _, Itr a (b - a).toNat, H1, rfl, I2, turn_longrange s1.heap.objs.size a (b - a).toNat, ⟨Nat.zero_le _, ?_⟩, fun b' hb => ?_, q⟩
  · have hg : (s1.heap.push { cls := .type "longrange_iterator", data := .fields #[rawInt a, rawInt (Builtin.Range.rangeSize a b 1), rawInt 1] }).get? s1.heap.objs.size = some { cls := .type "longrange_iterator", data := .fields #[rawInt a, rawInt (Builtin.Range.rangeSize a b 1), rawInt 1] } := Heap.get?_push_size _ rfl
    have e1 : a + ((0 : Nat) : Int) * 1 = a := by omega
    have e2 : (((b - a).toNat : Nat) : Int) - ((0 : Nat) : Int) = Builtin.Range.rangeSize a b 1 := by rw [rangeSize_nat]; omega
    rw [e1, e2]
    exact hg
  · rw [List.mem_singleton.mp hb]
    exact I1.fpOk (Nat.le_refl _) (I1.hok.fresh (Nat.le_refl _))
def rngXK (x y : W) (S : Sto) : Option (List PyData × Sto) := match x, y with
  | .pu (.int i), .pu (.int j) => if (smallI i && smallI j) = true then some (rngD i j, S) else if (!(Builtin.Range.small i j 1)) && Nat.ble (j - i).toNat 100000 then some (rngD i j, S) else none
  | _, _ => none
def iRngX (f g : SE) : SI := ⟨fun en S => (f.run en S).bind fun p => (g.run en p.2).bind fun q => rngXK p.1 q.1 q.2, fun {en S r} e => by
  obtain ⟨p, h1, e⟩ := bind_some_of e
  obtain ⟨q, h2, e⟩ := bind_some_of e
  unfold rngXK at e
  split at e
  · split at e
    · cases e
      exact Nat.le_trans (f.mono h1) (g.mono h2)
    · split at e
      · cases e
        exact Nat.le_trans (f.mono h1) (g.mono h2)
      · cases e
  · cases e⟩
theorem i_rngX {X : Cx} {tg a b : Expr} {p pos : Pos} {f g : SE} {ta tb : TE} (hg : Gl X "range") (hm : X.mg "range" = none) (ha : PA X [a, b] (tIA X.K (aCons f (aCons g aNil)))) (he : PRg X (.Call (.Name "range" p) [a, b] [] pos) (tRg2 ta tb)) (h1 : ta = tI X.K f) (h2 : tb = tI X.K g)
    (hs : starEach [a, b] X.env = [(false, eval a X.env), (false, eval b X.env)] := by rfl) (hs2 : starEach [b] X.env = [(false, eval b X.env)] := by rfl) :
    ZI X tg (.Call (.Name "range" p) [a, b] [] pos) (iRngX f g) := by
  subst h1 h2
  obtain ⟨w1, p1, k1⟩ := i_rng2 (tg := tg) (f := f) (g := g) hg hm ha hs hs2
  refine ⟨_, PI.or p1 (pi_rangeL he), fun σ H R F m S P en ds S' rl er run q => ?_⟩
  obtain ⟨⟨x, S1⟩, e1, e⟩ := bind_some_of run
  obtain ⟨⟨y, S2⟩, e2, e⟩ := bind_some_of e
  have e : rngXK x y S2 = some (ds, S') := e
  clear run
  unfold rngXK at e
  split at e
  · rename_i i j _ _
    split at e
    · rename_i hc
      refine .inl (k1 σ H R F m S P en ds S' rl er ?_ q)
      show (f.run en S).bind _ = _
      rw [e1]
      show (g.run en S1).bind _ = _
      rw [e2]
      show (if (smallI i && smallI j) = true then _ else _) = _
      rw [if_pos hc]
      exact e
    · split at e
      · rename_i hc
        have e := Option.some.inj e
        cases e
        rw [Bool.and_eq_true, Bool.not_eq_true'] at hc
        obtain ⟨hs, _⟩ := hc
        refine .inr ⟨F, m, S, P, en, _, S1, rl, er, e1, fun F1 m1 H1 v1 u1 rl1 wr1 => ⟨F1, m1, S1, P, en, _, S', rl1, er.up u1 (f.mono e1), e2, fun F2 m2 H2 v2 u2 rl2 wr2 => ?_⟩⟩
        cases wr1
        cases wr2
        refine ⟨i, j, rfl, rfl, hs, ?_⟩
        have wk : Walk (Itr i (j - i).toNat) (rngD i j).length (fun _ => True) (YFn fun k => .int (i + k)) := by
          have hl : (rngD i j).length = (j - i).toNat := by unfold rngD; rw [List.length_map, List.length_range]
          rw [hl]
          exact walk_range
        exact q F2 m2 H2 _ _ _ (u1.trans u2 (f.mono e1)) rl2 wk (fun _ _ _ _ => trivial) yld_rng
      · cases e
  · cases e
theorem rngX_run {en : En} {S S1 S2 : Sto} {f g : SE} {i j : Int} (h1 : f.run en S = some (.pu (.int i), S1)) (h2 : g.run en S1 = some (.pu (.int j), S2)) (k1 : smallI i = true) (k2 : smallI j = true) : (iRngX f g).run en S = some (dI (rngI i j), S2) := by
  show ((f.run en S).bind fun p => (g.run en p.2).bind fun q => rngXK p.1 q.1 q.2) = _
  rw [h1]
  show ((g.run en S1).bind fun q => rngXK (.pu (.int i)) q.1 q.2) = _
  rw [h2]
  show (if (smallI i && smallI j) = true then some (rngD i j, S2) else _) = _
  rw [k1, k2, ← rngD_eq]
  rfl
end Z

-- _law_same: call of sorted: sorted(got)
-- _need_two: statement Raise: raise TooFew()
-- _law_same: call of sorted: sorted(got)
-- _law_same: call of sorted: sorted(due)
namespace My
open PySem L2 PyProof.Rows Z
def top (i : Nat) : Stmt := PySem.Challenge.pw_floorcorners_k82_bare_shifts.main.body.getD i (.Pass ⟨0, 0, 0, 0⟩)
abbrev s_greatest_quotient : Stmt := top 1
abbrev s_least_quotient : Stmt := top 2
abbrev s_u_most_of : Stmt := top 3
abbrev s_value : Stmt := top 5
abbrev s_remainder : Stmt := top 6
abbrev s_mirrored : Stmt := top 7
abbrev s_turned : Stmt := top 8
abbrev s_rounded_up : Stmt := top 9
abbrev s_upper_corners : Stmt := top 11
abbrev s_lower_corners : Stmt := top 12
abbrev s_u_upper_numbers : Stmt := top 13
abbrev s_u_nearing : Stmt := top 14
abbrev s_bare_multipliers : Stmt := top 18
abbrev s_least_bare_shift : Stmt := top 19
abbrev s_u_need_two : Stmt := top 20
abbrev s_u_starts_at_nought : Stmt := top 21
abbrev s_u_bare_sides : Stmt := top 22
abbrev s_u_tops_of_sides : Stmt := top 23
abbrev s_u_law_box : Stmt := top 25
abbrev s_u_law_take : Stmt := top 26
abbrev s_u_law_cells : Stmt := top 27
abbrev s_u_law_same : Stmt := top 28
abbrev s_u_law_rule : Stmt := top 29
abbrev s_u_law_run : Stmt := top 30
abbrev s_u_law_worth : Stmt := top 31
abbrev s_u_law_worths : Stmt := top 32
abbrev s_u_law_points : Stmt := top 33
abbrev s_u_law_two : Stmt := top 34
abbrev s_u_law_bare : Stmt := top 36
abbrev s_u_law_by_hand_right : Stmt := top 37
abbrev s_u_law_right : Stmt := top 38
abbrev s_law : Stmt := top 39
/-! ### what the defs reckon -/
def r_u_most_of_1 (n : Nat) : SI := (iAny (sVar 0))
def h_u_most_of_1 (n : Nat) : SS :=
  (gIf (sGt (sMul (sVar 1) (sSub (sMul (sIx (sVar 3) (sC (.int 0))) (sIx (sVar 2) (sC (.int 1)))) (sMul (sIx (sVar 2) (sC (.int 0))) (sIx (sVar 3) (sC (.int 1)))))) (sC (.int 0))) (gSet 2 (sVar 3)) gNop)
def b_u_most_of (n : Nat) : SS :=
  (gSeq (gSet 2 (sIx (sVar 0) (sC (.int 0))))
    (gSeq (gFor (r_u_most_of_1 n) (tgName 3) (h_u_most_of_1 n))
    (gRet (sVar 2))))
def f_u_most_of (n : Nat) : FS := mkF 2 4 (b_u_most_of n)
theorem mk_2_4 {b : SS} {S : Sto} {w0 : W} {w1 : W} : (mkF 2 4 b).run [w0, w1] S = (b.run [some w0, some w1, none, none] S).bind fin := rfl
theorem q_u_most_of {N : Nat} {S : Sto} {w0 : W} {w1 : W} : (f_u_most_of N).run [w0, w1] S = ((b_u_most_of N).run [some w0, some w1, none, none] S).bind fin := mk_2_4
def b_greatest_quotient (n : Nat) : SS :=
  (gRet (sCall (f_u_most_of n) (aCons (sVar 0) (aCons (sC (.int 1)) aNil))))
def f_greatest_quotient (n : Nat) : FS := mkF 1 1 (b_greatest_quotient n)
theorem mk_1_1 {b : SS} {S : Sto} {w0 : W} : (mkF 1 1 b).run [w0] S = (b.run [some w0] S).bind fin := rfl
theorem q_greatest_quotient {N : Nat} {S : Sto} {w0 : W} : (f_greatest_quotient N).run [w0] S = ((b_greatest_quotient N).run [some w0] S).bind fin := mk_1_1
def b_least_quotient (n : Nat) : SS :=
  (gRet (sCall (f_u_most_of n) (aCons (sVar 0) (aCons (sNeg (sC (.int 1))) aNil))))
def f_least_quotient (n : Nat) : FS := mkF 1 1 (b_least_quotient n)
theorem q_least_quotient {N : Nat} {S : Sto} {w0 : W} : (f_least_quotient N).run [w0] S = ((b_least_quotient N).run [some w0] S).bind fin := mk_1_1
def b_value (n : Nat) : SS :=
  (gSeq (gUnp (tgSeq 3 (tgCons (tgName 2) (tgCons (tgName 3) (tgCons (tgName 4) tgNil)))) (sVar 0))
    (gRet (sDiv (sAdd (sMul (sVar 2) (sVar 1)) (sVar 3)) (sVar 4))))
def f_value (n : Nat) : FS := mkF 2 5 (b_value n)
theorem mk_2_5 {b : SS} {S : Sto} {w0 : W} {w1 : W} : (mkF 2 5 b).run [w0, w1] S = (b.run [some w0, some w1, none, none, none] S).bind fin := rfl
theorem q_value {N : Nat} {S : Sto} {w0 : W} {w1 : W} : (f_value N).run [w0, w1] S = ((b_value N).run [some w0, some w1, none, none, none] S).bind fin := mk_2_5
def b_remainder (n : Nat) : SS :=
  (gSeq (gUnp (tgSeq 3 (tgCons (tgName 2) (tgCons (tgName 3) (tgCons (tgName 4) tgNil)))) (sVar 0))
    (gRet (sMod (sAdd (sMul (sVar 2) (sVar 1)) (sVar 3)) (sVar 4))))
def f_remainder (n : Nat) : FS := mkF 2 5 (b_remainder n)
theorem q_remainder {N : Nat} {S : Sto} {w0 : W} {w1 : W} : (f_remainder N).run [w0, w1] S = ((b_remainder N).run [some w0, some w1, none, none, none] S).bind fin := mk_2_5
def b_mirrored (n : Nat) : SS :=
  (gSeq (gUnp (tgSeq 3 (tgCons (tgName 1) (tgCons (tgName 2) (tgCons (tgName 3) tgNil)))) (sVar 0))
    (gRet (sTup (aCons (sNeg (sVar 1)) (aCons (sVar 2) (aCons (sVar 3) aNil))))))
def f_mirrored (n : Nat) : FS := mkF 1 4 (b_mirrored n)
theorem mk_1_4 {b : SS} {S : Sto} {w0 : W} : (mkF 1 4 b).run [w0] S = (b.run [some w0, none, none, none] S).bind fin := rfl
theorem q_mirrored {N : Nat} {S : Sto} {w0 : W} : (f_mirrored N).run [w0] S = ((b_mirrored N).run [some w0, none, none, none] S).bind fin := mk_1_4
def b_rounded_up (n : Nat) : SS :=
  (gRet (sTup (aCons (sVar 0) (aCons (sSub (sAdd (sVar 1) (sVar 2)) (sC (.int 1))) (aCons (sVar 2) aNil)))))
def f_rounded_up (n : Nat) : FS := mkF 3 3 (b_rounded_up n)
theorem mk_3_3 {b : SS} {S : Sto} {w0 : W} {w1 : W} {w2 : W} : (mkF 3 3 b).run [w0, w1, w2] S = (b.run [some w0, some w1, some w2] S).bind fin := rfl
theorem q_rounded_up {N : Nat} {S : Sto} {w0 : W} {w1 : W} {w2 : W} : (f_rounded_up N).run [w0, w1, w2] S = ((b_rounded_up N).run [some w0, some w1, some w2] S).bind fin := mk_3_3
def b_turned (n : Nat) : SS :=
  (gSeq (gUnp (tgSeq 3 (tgCons (tgName 1) (tgCons (tgName 2) (tgCons (tgName 3) tgNil)))) (sVar 0))
    (gRet (sCall (f_rounded_up n) (aCons (sNeg (sVar 1)) (aCons (sNeg (sVar 2)) (aCons (sVar 3) aNil))))))
def f_turned (n : Nat) : FS := mkF 1 4 (b_turned n)
theorem q_turned {N : Nat} {S : Sto} {w0 : W} : (f_turned N).run [w0] S = ((b_turned N).run [some w0, none, none, none] S).bind fin := mk_1_4
def t_u_nearing_1 (n : Nat) : SE := (sC (.bool true))
def w_u_nearing_1 (n : Nat) : SS :=
  (gSeq (gSet 10 (sB oMin (aCons (sDiv (sSub (sVar 3) (sVar 5)) (sVar 6)) (aCons (sDiv (sVar 2) (sVar 7)) aNil))))
    (gSeq (gIf (sGt (sVar 10) (sC (.int 0))) (gSeq (gAug 5 (i2 fun i j => .int (i + j)) (sMul (sVar 10) (sVar 6)))
    (gSeq (gAug 2 (i2 fun i j => .int (i - j)) (sMul (sVar 10) (sVar 7)))
    (gApp 4 (sVar 5)))) gNop)
    (gSeq (gIf (sOr (sEq (sVar 9) (sC (.int 0))) (sGt (sAdd (sVar 6) (sVar 8)) (sSub (sVar 3) (sVar 5)))) (gRet (sVar 4)) gNop)
    (gSeq (gSet 10 (sDiv (sSub (sSub (sVar 7) (sVar 2)) (sC (.int 1))) (sVar 9)))
    (gSeq (gAug 6 (i2 fun i j => .int (i + j)) (sMul (sVar 10) (sVar 8)))
    (gSeq (gAug 7 (i2 fun i j => .int (i - j)) (sMul (sVar 10) (sVar 9)))
    (gSeq (gIf (sGt (sAdd (sVar 6) (sVar 8)) (sSub (sVar 3) (sVar 5))) (gRet (sVar 4)) gNop)
    (gSeq (gSet 10 (sSub (sB oMin (aCons (sDiv (sAdd (sVar 2) (sVar 9)) (sVar 7)) (aCons (sDiv (sSub (sSub (sVar 3) (sVar 5)) (sVar 8)) (sVar 6)) aNil))) (sC (.int 1))))
    (gSeq (gAug 8 (i2 fun i j => .int (i + j)) (sMul (sVar 10) (sVar 6)))
    (gSeq (gAug 9 (i2 fun i j => .int (i - j)) (sMul (sVar 10) (sVar 7)))
    (gIf (sGt (sVar 7) (sVar 9)) (gSeq (gAug 6 (i2 fun i j => .int (i + j)) (sVar 8))
    (gAug 7 (i2 fun i j => .int (i - j)) (sVar 9))) (gSeq (gAug 8 (i2 fun i j => .int (i + j)) (sVar 6))
    (gAug 9 (i2 fun i j => .int (i - j)) (sVar 7))))))))))))))
def b_u_nearing (n : Nat) : SS :=
  (gSeq (gSet 4 (sLst true (aCons (sC (.int 0)) aNil)))
    (gSeq (gSet 5 (sC (.int 0)))
    (gSeq (gPar 6 7 (sC (.int 1)) (sSub (sVar 1) (sMod (sVar 0) (sVar 1))))
    (gSeq (gPar 8 9 (sC (.int 1)) (sMod (sVar 0) (sVar 1)))
    (gWh n (t_u_nearing_1 n) (w_u_nearing_1 n))))))
def f_u_nearing (n : Nat) : FS := mkF 4 11 (b_u_nearing n)
theorem mk_4_11 {b : SS} {S : Sto} {w0 : W} {w1 : W} {w2 : W} {w3 : W} : (mkF 4 11 b).run [w0, w1, w2, w3] S = (b.run [some w0, some w1, some w2, some w3, none, none, none, none, none, none, none] S).bind fin := rfl
theorem q_u_nearing {N : Nat} {S : Sto} {w0 : W} {w1 : W} {w2 : W} {w3 : W} : (f_u_nearing N).run [w0, w1, w2, w3] S = ((b_u_nearing N).run [some w0, some w1, some w2, some w3, none, none, none, none, none, none, none] S).bind fin := mk_4_11
def e_u_upper_numbers_1 (n : Nat) : SE := (sAdd (sVar 5) (sVar 9))
def i_u_upper_numbers_1 (n : Nat) : SI := (iAny (sCall (f_u_nearing n) (aCons (sVar 2) (aCons (sVar 4) (aCons (sCall (f_remainder n) (aCons (sVar 0) (aCons (sVar 5) aNil))) (aCons (sSub (sVar 6) (sVar 5)) aNil))))))
def e_u_upper_numbers_2 (n : Nat) : SE := (sSub (sVar 6) (sVar 9))
def i_u_upper_numbers_2 (n : Nat) : SI := (iAny (sCall (f_u_nearing n) (aCons (sNeg (sVar 2)) (aCons (sVar 4) (aCons (sCall (f_remainder n) (aCons (sVar 0) (aCons (sVar 6) aNil))) (aCons (sSub (sVar 6) (sVar 5)) aNil))))))
def b_u_upper_numbers (n : Nat) : SS :=
  (gSeq (gUnp (tgSeq 3 (tgCons (tgName 2) (tgCons (tgName 3) (tgCons (tgName 4) tgNil)))) (sVar 0))
    (gSeq (gUnp (tgSeq 2 (tgCons (tgName 5) (tgCons (tgName 6) tgNil))) (sVar 1))
    (gSeq (gSet 7 (sLc false [9] (i_u_upper_numbers_1 n) (tgName 9) sYes (e_u_upper_numbers_1 n)))
    (gSeq (gSet 8 (sLc true [9] (i_u_upper_numbers_2 n) (tgName 9) sYes (e_u_upper_numbers_2 n)))
    (gSeq (gIf (sEq (sIx (sVar 7) (sNeg (sC (.int 1)))) (sIx (sVar 8) (sNeg (sC (.int 1))))) (gExp (sPop 8)) gNop)
    (gRet (sAddA (sVar 7) (sRev false (sVar 8)))))))))
def f_u_upper_numbers (n : Nat) : FS := mkF 2 10 (b_u_upper_numbers n)
theorem mk_2_10 {b : SS} {S : Sto} {w0 : W} {w1 : W} : (mkF 2 10 b).run [w0, w1] S = (b.run [some w0, some w1, none, none, none, none, none, none, none, none] S).bind fin := rfl
theorem q_u_upper_numbers {N : Nat} {S : Sto} {w0 : W} {w1 : W} : (f_u_upper_numbers N).run [w0, w1] S = ((b_u_upper_numbers N).run [some w0, some w1, none, none, none, none, none, none, none, none] S).bind fin := mk_2_10
def e_upper_corners_1 (n : Nat) : SE := (sTup (aCons (sVar 2) (aCons (sCall (f_value n) (aCons (sVar 0) (aCons (sVar 2) aNil))) aNil)))
def i_upper_corners_1 (n : Nat) : SI := (iAny (sCall (f_u_upper_numbers n) (aCons (sVar 0) (aCons (sVar 1) aNil))))
def b_upper_corners (n : Nat) : SS :=
  (gRet (sLc false [2] (i_upper_corners_1 n) (tgName 2) sYes (e_upper_corners_1 n)))
def f_upper_corners (n : Nat) : FS := mkF 2 3 (b_upper_corners n)
theorem mk_2_3 {b : SS} {S : Sto} {w0 : W} {w1 : W} : (mkF 2 3 b).run [w0, w1] S = (b.run [some w0, some w1, none] S).bind fin := rfl
theorem q_upper_corners {N : Nat} {S : Sto} {w0 : W} {w1 : W} : (f_upper_corners N).run [w0, w1] S = ((b_upper_corners N).run [some w0, some w1, none] S).bind fin := mk_2_3
def e_lower_corners_1 (n : Nat) : SE := (sTup (aCons (sVar 2) (aCons (sCall (f_value n) (aCons (sVar 0) (aCons (sVar 2) aNil))) aNil)))
def i_lower_corners_1 (n : Nat) : SI := (iAny (sCall (f_u_upper_numbers n) (aCons (sCall (f_turned n) (aCons (sVar 0) aNil)) (aCons (sVar 1) aNil))))
def b_lower_corners (n : Nat) : SS :=
  (gRet (sLc false [2] (i_lower_corners_1 n) (tgName 2) sYes (e_lower_corners_1 n)))
def f_lower_corners (n : Nat) : FS := mkF 2 3 (b_lower_corners n)
theorem q_lower_corners {N : Nat} {S : Sto} {w0 : W} {w1 : W} : (f_lower_corners N).run [w0, w1] S = ((b_lower_corners N).run [some w0, some w1, none] S).bind fin := mk_2_3
def e_u_bare_sides_1 (n : Nat) : SE := (sTup (aCons (sVar 12) (aCons (sVar 11) aNil)))
def i_u_bare_sides_1 (n : Nat) : SI := (iAny (sCall (f_upper_corners n) (aCons (sVar 7) (aCons (sVar 8) aNil))))
def e_u_bare_sides_2 (n : Nat) : SE := (sTup (aCons (sAdd (sVar 12) (sC (.int 1))) (aCons (sVar 11) aNil)))
def i_u_bare_sides_2 (n : Nat) : SI := (iAny (sCall (f_lower_corners n) (aCons (sVar 7) (aCons (sVar 8) aNil))))
def r_u_bare_sides_1 (n : Nat) : SI := (iAny (sVar 4))
def h_u_bare_sides_1 (n : Nat) : SS :=
  (gSeq (gSet 9 (sCall (f_greatest_quotient n) (aCons (sLc false [11, 12] (i_u_bare_sides_1 n) (tgSeq 2 (tgCons (tgName 11) (tgCons (tgName 12) tgNil))) sYes (e_u_bare_sides_1 n)) aNil)))
    (gSeq (gSet 10 (sCall (f_least_quotient n) (aCons (sLc false [11, 12] (i_u_bare_sides_2 n) (tgSeq 2 (tgCons (tgName 11) (tgCons (tgName 12) tgNil))) sYes (e_u_bare_sides_2 n)) aNil)))
    (gApp 5 (sTup (aCons (sVar 6) (aCons (sVar 9) (aCons (sVar 10) aNil)))))))
def b_u_bare_sides (n : Nat) : SS :=
  (gSeq (gUnp (tgSeq 2 (tgCons (tgName 2) (tgCons (tgName 3) tgNil))) (sVar 1))
    (gSeq (gSet 4 (sLst true aNil))
    (gSeq (gIf (sGt (sVar 3) (sC (.int 0))) (gApp 4 (sTup (aCons (sC (.int 1)) (aCons (sVar 0) (aCons (sTup (aCons (sB oMax (aCons (sVar 2) (aCons (sC (.int 1)) aNil))) (aCons (sVar 3) aNil))) aNil))))) gNop)
    (gSeq (gIf (sLt (sVar 2) (sC (.int 0))) (gApp 4 (sTup (aCons (sNeg (sC (.int 1))) (aCons (sCall (f_mirrored n) (aCons (sVar 0) aNil)) (aCons (sTup (aCons (sB oMax (aCons (sNeg (sVar 3)) (aCons (sC (.int 1)) aNil))) (aCons (sNeg (sVar 2)) aNil))) aNil))))) gNop)
    (gSeq (gSet 5 (sLst true aNil))
    (gSeq (gFor (r_u_bare_sides_1 n) (tgSeq 3 (tgCons (tgName 6) (tgCons (tgName 7) (tgCons (tgName 8) tgNil)))) (h_u_bare_sides_1 n))
    (gRet (sVar 5))))))))
def f_u_bare_sides (n : Nat) : FS := mkF 2 13 (b_u_bare_sides n)
theorem mk_2_13 {b : SS} {S : Sto} {w0 : W} {w1 : W} : (mkF 2 13 b).run [w0, w1] S = (b.run [some w0, some w1, none, none, none, none, none, none, none, none, none, none, none] S).bind fin := rfl
theorem q_u_bare_sides {N : Nat} {S : Sto} {w0 : W} {w1 : W} : (f_u_bare_sides N).run [w0, w1] S = ((b_u_bare_sides N).run [some w0, some w1, none, none, none, none, none, none, none, none, none, none, none] S).bind fin := mk_2_13
def b_u_need_two (n : Nat) : SS :=
  (gIf (sEq (sIx (sVar 0) (sC (.int 0))) (sIx (sVar 0) (sC (.int 1)))) gBad gNop)
def f_u_need_two (n : Nat) : FS := mkF 1 1 (b_u_need_two n)
theorem q_u_need_two {N : Nat} {S : Sto} {w0 : W} : (f_u_need_two N).run [w0] S = ((b_u_need_two N).run [some w0] S).bind fin := mk_1_1
def b_u_starts_at_nought (n : Nat) : SS :=
  (gRet (sOr (sNot (sChain (i2 fun i j => .bool (decide (i ≤ j))) (i2 fun i j => .bool (decide (i ≤ j))) (sIx (sVar 1) (sC (.int 0))) (sC (.int 0)) (sIx (sVar 1) (sC (.int 1))))) (sEq (sCall (f_value n) (aCons (sVar 0) (aCons (sC (.int 0)) aNil))) (sC (.int 0)))))
def f_u_starts_at_nought (n : Nat) : FS := mkF 2 2 (b_u_starts_at_nought n)
theorem mk_2_2 {b : SS} {S : Sto} {w0 : W} {w1 : W} : (mkF 2 2 b).run [w0, w1] S = (b.run [some w0, some w1] S).bind fin := rfl
theorem q_u_starts_at_nought {N : Nat} {S : Sto} {w0 : W} {w1 : W} : (f_u_starts_at_nought N).run [w0, w1] S = ((b_u_starts_at_nought N).run [some w0, some w1] S).bind fin := mk_2_2
def r_u_tops_of_sides_1 (n : Nat) : SI := (iAny (sVar 0))
def h_u_tops_of_sides_1 (n : Nat) : SS :=
  (gSeq (gSet 7 (sTup (aCons (sNeg (sDiv (sMul (sNeg (sIx (sVar 5) (sC (.int 0)))) (sVar 1)) (sIx (sVar 5) (sC (.int 1))))) (aCons (sSub (sNeg (sDiv (sMul (sNeg (sIx (sVar 6) (sC (.int 0)))) (sVar 1)) (sIx (sVar 6) (sC (.int 1))))) (sC (.int 1))) aNil))))
    (gSeq (gApp 2 (sIte (sEq (sVar 4) (sC (.int 1))) (sIx (sVar 7) (sC (.int 0))) (sNeg (sIx (sVar 7) (sC (.int 1))))))
    (gApp 3 (sIte (sEq (sVar 4) (sC (.int 1))) (sIx (sVar 7) (sC (.int 1))) (sNeg (sIx (sVar 7) (sC (.int 0))))))))
def b_u_tops_of_sides (n : Nat) : SS :=
  (gSeq (gPar 2 3 (sLst true aNil) (sLst true aNil))
    (gSeq (gFor (r_u_tops_of_sides_1 n) (tgSeq 3 (tgCons (tgName 4) (tgCons (tgName 5) (tgCons (tgName 6) tgNil)))) (h_u_tops_of_sides_1 n))
    (gSeq (gPar 8 9 (sB oMax (aCons (sVar 2) aNil)) (sB oMin (aCons (sVar 3) aNil)))
    (gRet (sIte (sLe (sVar 8) (sVar 9)) (sTup (aCons (sVar 8) (aCons (sVar 9) aNil))) (sC .none))))))
def f_u_tops_of_sides (n : Nat) : FS := mkF 2 10 (b_u_tops_of_sides n)
theorem q_u_tops_of_sides {N : Nat} {S : Sto} {w0 : W} {w1 : W} : (f_u_tops_of_sides N).run [w0, w1] S = ((b_u_tops_of_sides N).run [some w0, some w1, none, none, none, none, none, none, none, none] S).bind fin := mk_2_10
def b_bare_multipliers (n : Nat) : SS :=
  (gSeq (gExp (sCall (f_u_need_two n) (aCons (sVar 1) aNil)))
    (gSeq (gIf (sNot (sCall (f_u_starts_at_nought n) (aCons (sVar 0) (aCons (sVar 1) aNil)))) (gRet (sC .none)) gNop)
    (gRet (sCall (f_u_tops_of_sides n) (aCons (sCall (f_u_bare_sides n) (aCons (sVar 0) (aCons (sVar 1) aNil))) (aCons (sShl (sC (.int 1)) (sVar 2)) aNil))))))
def f_bare_multipliers (n : Nat) : FS := mkF 3 3 (b_bare_multipliers n)
theorem q_bare_multipliers {N : Nat} {S : Sto} {w0 : W} {w1 : W} {w2 : W} : (f_bare_multipliers N).run [w0, w1, w2] S = ((b_bare_multipliers N).run [some w0, some w1, some w2] S).bind fin := mk_3_3
def e_least_bare_shift_1 (n : Nat) : SE := (sAdd (sBits (sIx (sVar 6) (sC (.int 1)))) (sBits (sIx (sVar 7) (sC (.int 1)))))
def i_least_bare_shift_1 (n : Nat) : SI := (iAny (sVar 2))
def r_least_bare_shift_1 (n : Nat) : SI := (iRng (sC (.int 0)) (sAdd (sVar 3) (sC (.int 1))))
def h_least_bare_shift_1 (n : Nat) : SS :=
  (gIf (sNotN (sCall (f_u_tops_of_sides n) (aCons (sVar 2) (aCons (sShl (sC (.int 1)) (sVar 4)) aNil)))) (gRet (sVar 4)) gNop)
def b_least_bare_shift (n : Nat) : SS :=
  (gSeq (gExp (sCall (f_u_need_two n) (aCons (sVar 1) aNil)))
    (gSeq (gIf (sNot (sCall (f_u_starts_at_nought n) (aCons (sVar 0) (aCons (sVar 1) aNil)))) (gRet (sC .none)) gNop)
    (gSeq (gSet 2 (sCall (f_u_bare_sides n) (aCons (sVar 0) (aCons (sVar 1) aNil))))
    (gSeq (gSet 3 (sB oSum (aCons (sLc false [5, 6, 7] (i_least_bare_shift_1 n) (tgSeq 3 (tgCons (tgName 5) (tgCons (tgName 6) (tgCons (tgName 7) tgNil)))) sYes (e_least_bare_shift_1 n)) aNil)))
    (gSeq (gFor (r_least_bare_shift_1 n) (tgName 4) (h_least_bare_shift_1 n))
    (gRet (sC .none)))))))
def f_least_bare_shift (n : Nat) : FS := mkF 2 8 (b_least_bare_shift n)
theorem mk_2_8 {b : SS} {S : Sto} {w0 : W} {w1 : W} : (mkF 2 8 b).run [w0, w1] S = (b.run [some w0, some w1, none, none, none, none, none, none] S).bind fin := rfl
theorem q_least_bare_shift {N : Nat} {S : Sto} {w0 : W} {w1 : W} : (f_least_bare_shift N).run [w0, w1] S = ((b_least_bare_shift N).run [some w0, some w1, none, none, none, none, none, none] S).bind fin := mk_2_8
def b_u_law_box (n : Nat) : SS :=
  (gSeq (gSet 2 (sIte (sLt (sVar 1) (sB oLen (aCons (sVar 0) aNil))) (sIx (sVar 0) (sVar 1)) (sC (.int 0))))
    (gRet (sLst true (aCons (sMul (sB oAbs (aCons (sVar 2) aNil)) (sB oInt (aCons (sGe (sB oAbs (aCons (sVar 2) aNil)) (sPow (sC (.int 10)) (sC (.int 18)))) aNil))) (aCons (sAdd (sAdd (sMod (sB oInt (aCons (sVar 2) aNil)) (sC (.int 2305843009213693951))) (sMul (sC (.int 39373)) (sVar 1))) (sC (.int 2717))) (aCons (sC (.int 0)) aNil))))))
def f_u_law_box (n : Nat) : FS := mkF 2 3 (b_u_law_box n)
theorem q_u_law_box {N : Nat} {S : Sto} {w0 : W} {w1 : W} : (f_u_law_box N).run [w0, w1] S = ((b_u_law_box N).run [some w0, some w1, none] S).bind fin := mk_2_3
def b_u_law_take (n : Nat) : SS :=
  (gSeq (gIf (sGt (sIx (sVar 0) (sC (.int 0))) (sC (.int 0))) (gSeq (gSet 2 (sMod (sB oInt (aCons (sIx (sVar 0) (sC (.int 0))) aNil)) (sVar 1)))
    (gSeq (gStore 0 (sC (.int 0)) (sDiv (sIx (sVar 0) (sC (.int 0))) (sVar 1)))
    (gRet (sVar 2)))) gNop)
    (gSeq (gStore 0 (sC (.int 2)) (sAdd (sIx (sVar 0) (sC (.int 2))) (sC (.int 1))))
    (gSeq (gSet 3 (sMod (sB oInt (aCons (sMul (sAdd (sIx (sVar 0) (sC (.int 1))) (sMul (sC (.int 48271)) (sIx (sVar 0) (sC (.int 2))))) (sAdd (sC (.int 39373)) (sIx (sVar 0) (sC (.int 2))))) aNil)) (sC (.int 2147483647))))
    (gSeq (gSet 4 (sAdd (sMod (sB oInt (aCons (sVar 3) aNil)) (sC (.int 40009))) (sC (.int 7))))
    (gSeq (gSet 5 (sMod (sB oInt (aCons (sMul (sAdd (sAdd (sVar 3) (sIx (sVar 0) (sC (.int 2)))) (sDiv (sIx (sVar 0) (sC (.int 1))) (sC (.int 1000003)))) (sVar 4)) aNil)) (sC (.int 2147483629))))
    (gRet (sMod (sB oInt (aCons (sDiv (sMod (sB oInt (aCons (sAdd (sMul (sVar 5) (sC (.int 48271))) (sVar 3)) aNil)) (sC (.int 2147483587))) (sC (.int 64))) aNil)) (sVar 1))))))))
def f_u_law_take (n : Nat) : FS := mkF 2 6 (b_u_law_take n)
theorem mk_2_6 {b : SS} {S : Sto} {w0 : W} {w1 : W} : (mkF 2 6 b).run [w0, w1] S = (b.run [some w0, some w1, none, none, none, none] S).bind fin := rfl
theorem q_u_law_take {N : Nat} {S : Sto} {w0 : W} {w1 : W} : (f_u_law_take N).run [w0, w1] S = ((b_u_law_take N).run [some w0, some w1, none, none, none, none] S).bind fin := mk_2_6
def b_u_law_cells (n : Nat) : SS :=
  (gSeq (gSet 2 (sOr (sListOf true (sSl false (sVar 0) oNone (oSome (sVar 1)))) (sLst true (aCons (sC (.int 0)) aNil))))
    (gSeq (gFor (iEnumS (sSl false (sVar 0) (oSome (sVar 1)) (oSome (sC (.int 63))))) (tgTup 2 (tgCons (tgName 3) (tgCons (tgName 4) tgNil))) (gSeq (gSet 5 (sMod (sB oInt (aCons (sVar 3) aNil)) (sVar 1)))
    (gStore 2 (sVar 5) (sAdd (sIx (sVar 2) (sVar 5)) (sMul (sVar 4) (sAdd (sVar 3) (sC (.int 2))))))))
    (gRet (sVar 2))))
def f_u_law_cells (n : Nat) : FS := mkF 2 6 (b_u_law_cells n)
theorem q_u_law_cells {N : Nat} {S : Sto} {w0 : W} {w1 : W} : (f_u_law_cells N).run [w0, w1] S = ((b_u_law_cells N).run [some w0, some w1, none, none, none, none] S).bind fin := mk_2_6
def b_u_law_same (n : Nat) (rc : FS) : SS :=
  (gSeq (gIf (sIsi ["list", "tuple"] (sVar 1)) (gSeq (gIf (sOr (sNe (sIsi ["list"] (sVar 0)) (sIsi ["list"] (sVar 1))) (sNe (sIsi ["tuple"] (sVar 0)) (sIsi ["tuple"] (sVar 1)))) (gRet (sC (.bool false))) gNop)
    (gRet (sAnd (sEq (sB oLen (aCons (sVar 0) aNil)) (sB oLen (aCons (sVar 1) aNil))) (sB (oAll fun bs => bs.all id) (aCons (sLc false [2, 3] (iZipS (sVar 0) (sVar 1)) (tgTup 2 (tgCons (tgName 2) (tgCons (tgName 3) tgNil))) sYes (sCall rc (aCons (sVar 2) (aCons (sVar 3) aNil)))) aNil))))) gNop)
    (gSeq (gIf (sIsi ["dict"] (sVar 1)) (gSeq (gIf (sOr (sNot (sIsi ["dict"] (sVar 0))) (sNe sBad sBad)) (gRet (sC (.bool false))) gNop)
    (gRet (sB (oAll fun bs => bs.all id) (aCons (sLc false [4] (iAny (sVar 1)) (tgName 4) sYes (sCall rc (aCons (sIx (sVar 0) (sVar 4)) (aCons (sIx (sVar 1) (sVar 4)) aNil)))) aNil)))) gNop)
    (gSeq (gIf (sOr (sIsN (sVar 1)) (sIsi ["bool", "str"] (sVar 1))) (gRet (sAnd (sEq (sVar 0) (sVar 1)) (sAnd (sEq (sIsi ["bool"] (sVar 0)) (sIsi ["bool"] (sVar 1))) (sEq (sIsN (sVar 0)) (sIsN (sVar 1)))))) gNop)
    (gRet (sAnd (sIsi ["int"] (sVar 0)) (sAnd (sNot (sIsi ["bool"] (sVar 0))) (sEq (sVar 0) (sVar 1))))))))
def f_u_law_same (n : Nat) : Nat → FS
  | 0 => fBad 2
  | d + 1 => mkF 2 5 (b_u_law_same n (f_u_law_same n d))
def b_u_law_rule (n : Nat) : SS :=
  (gSeq (gSet 2 (sAdd (sC (.int 1)) (sCall (f_u_law_take n) (aCons (sVar 0) (aCons (sVar 1) aNil)))))
    (gRet (sTup (aCons (sSub (sCall (f_u_law_take n) (aCons (sVar 0) (aCons (sAdd (sMul (sC (.int 2)) (sVar 1)) (sC (.int 1))) aNil))) (sVar 1)) (aCons (sSub (sCall (f_u_law_take n) (aCons (sVar 0) (aCons (sAdd (sMul (sC (.int 2)) (sVar 1)) (sC (.int 1))) aNil))) (sVar 1)) (aCons (sVar 2) aNil))))))
def f_u_law_rule (n : Nat) : FS := mkF 2 3 (b_u_law_rule n)
theorem q_u_law_rule {N : Nat} {S : Sto} {w0 : W} {w1 : W} : (f_u_law_rule N).run [w0, w1] S = ((b_u_law_rule N).run [some w0, some w1, none] S).bind fin := mk_2_3
def b_u_law_run (n : Nat) : SS :=
  (gSeq (gSet 3 (sSub (sCall (f_u_law_take n) (aCons (sVar 0) (aCons (sAdd (sMul (sC (.int 2)) (sVar 2)) (sC (.int 1))) aNil))) (sVar 2)))
    (gRet (sTup (aCons (sVar 3) (aCons (sAdd (sVar 3) (sCall (f_u_law_take n) (aCons (sVar 0) (aCons (sVar 1) aNil)))) aNil)))))
def f_u_law_run (n : Nat) : FS := mkF 3 4 (b_u_law_run n)
theorem mk_3_4 {b : SS} {S : Sto} {w0 : W} {w1 : W} {w2 : W} : (mkF 3 4 b).run [w0, w1, w2] S = (b.run [some w0, some w1, some w2, none] S).bind fin := rfl
theorem q_u_law_run {N : Nat} {S : Sto} {w0 : W} {w1 : W} {w2 : W} : (f_u_law_run N).run [w0, w1, w2] S = ((b_u_law_run N).run [some w0, some w1, some w2, none] S).bind fin := mk_3_4
def b_u_law_worth (n : Nat) : SS :=
  (gSeq (gSet 2 (sAdd (sMul (sIx (sVar 0) (sC (.int 0))) (sVar 1)) (sIx (sVar 0) (sC (.int 1)))))
    (gRet (sDiv (sVar 2) (sIx (sVar 0) (sC (.int 2))))))
def f_u_law_worth (n : Nat) : FS := mkF 2 3 (b_u_law_worth n)
theorem q_u_law_worth {N : Nat} {S : Sto} {w0 : W} {w1 : W} : (f_u_law_worth N).run [w0, w1] S = ((b_u_law_worth N).run [some w0, some w1, none] S).bind fin := mk_2_3
def e_u_law_worths_1 (n : Nat) : SE := (sCall (f_u_law_worth n) (aCons (sVar 0) (aCons (sVar 2) aNil)))
def i_u_law_worths_1 (n : Nat) : SI := (iRng (sIx (sVar 1) (sC (.int 0))) (sAdd (sIx (sVar 1) (sC (.int 1))) (sC (.int 1))))
def b_u_law_worths (n : Nat) : SS :=
  (gRet (sLc false [2] (i_u_law_worths_1 n) (tgName 2) sYes (e_u_law_worths_1 n)))
def f_u_law_worths (n : Nat) : FS := mkF 2 3 (b_u_law_worths n)
theorem q_u_law_worths {N : Nat} {S : Sto} {w0 : W} {w1 : W} : (f_u_law_worths N).run [w0, w1] S = ((b_u_law_worths N).run [some w0, some w1, none] S).bind fin := mk_2_3
def e_u_law_points_1 (n : Nat) : SE := (sTup (aCons (sVar 2) (aCons (sCall (f_u_law_worth n) (aCons (sVar 0) (aCons (sVar 2) aNil))) aNil)))
def i_u_law_points_1 (n : Nat) : SI := (iRng (sIx (sVar 1) (sC (.int 0))) (sAdd (sIx (sVar 1) (sC (.int 1))) (sC (.int 1))))
def b_u_law_points (n : Nat) : SS :=
  (gRet (sLc false [2] (i_u_law_points_1 n) (tgName 2) sYes (e_u_law_points_1 n)))
def f_u_law_points (n : Nat) : FS := mkF 2 3 (b_u_law_points n)
theorem q_u_law_points {N : Nat} {S : Sto} {w0 : W} {w1 : W} : (f_u_law_points N).run [w0, w1] S = ((b_u_law_points N).run [some w0, some w1, none] S).bind fin := mk_2_3
def r_u_law_two_1 (n : Nat) : SI := (iRng (sC (.int 0)) (sVar 0))
def h_u_law_two_1 (n : Nat) : SS :=
  (gSet 1 (sMul (sVar 1) (sC (.int 2))))
def b_u_law_two (n : Nat) : SS :=
  (gSeq (gSet 1 (sC (.int 1)))
    (gSeq (gFor (r_u_law_two_1 n) (tgName 2) (h_u_law_two_1 n))
    (gRet (sVar 1))))
def f_u_law_two (n : Nat) : FS := mkF 1 3 (b_u_law_two n)
theorem mk_1_3 {b : SS} {S : Sto} {w0 : W} : (mkF 1 3 b).run [w0] S = (b.run [some w0, none, none] S).bind fin := rfl
theorem q_u_law_two {N : Nat} {S : Sto} {w0 : W} : (f_u_law_two N).run [w0] S = ((b_u_law_two N).run [some w0, none, none] S).bind fin := mk_1_3
def e_u_law_bare_1 (n : Nat) : SE := (sVar 6)
def i_u_law_bare_1 (n : Nat) : SI := (iAny (sVar 3))
def c_u_law_bare_1 (n : Nat) : SE := (sNe (sDiv (sMul (sVar 5) (sIx (sVar 6) (sC (.int 0)))) (sVar 2)) (sIx (sVar 6) (sC (.int 1))))
def r_u_law_bare_1 (n : Nat) : SI := (iRng (sMul (sNeg (sC (.int 14))) (sVar 2)) (sAdd (sMul (sC (.int 14)) (sVar 2)) (sC (.int 1))))
def h_u_law_bare_1 (n : Nat) : SS :=
  (gIf (sEq (sLc false [6] (i_u_law_bare_1 n) (tgName 6) (c_u_law_bare_1 n) (e_u_law_bare_1 n)) (sLst false aNil)) (gApp 4 (sVar 5)) gNop)
def b_u_law_bare (n : Nat) : SS :=
  (gSeq (gSet 3 (sCall (f_u_law_points n) (aCons (sVar 0) (aCons (sVar 1) aNil))))
    (gSeq (gSet 4 (sLst true aNil))
    (gSeq (gFor (r_u_law_bare_1 n) (tgName 5) (h_u_law_bare_1 n))
    (gRet (sVar 4)))))
def f_u_law_bare (n : Nat) : FS := mkF 3 7 (b_u_law_bare n)
theorem mk_3_7 {b : SS} {S : Sto} {w0 : W} {w1 : W} {w2 : W} : (mkF 3 7 b).run [w0, w1, w2] S = (b.run [some w0, some w1, some w2, none, none, none, none] S).bind fin := rfl
theorem q_u_law_bare {N : Nat} {S : Sto} {w0 : W} {w1 : W} {w2 : W} : (f_u_law_bare N).run [w0, w1, w2] S = ((b_u_law_bare N).run [some w0, some w1, some w2, none, none, none, none] S).bind fin := mk_3_7
def e_u_law_by_hand_right_1 (n : Nat) : SE := (sCall (f_bare_multipliers n) (aCons (sVar 0) (aCons (sTup (aCons (sC (.int 0)) (aCons (sC (.int 5)) aNil))) (aCons (sVar 5) aNil))))
def i_u_law_by_hand_right_1 (n : Nat) : SI := (iTupS (sTup (aCons (sC (.int 2)) (aCons (sC (.int 3)) (aCons (sC (.int 4)) aNil)))))
def b_u_law_by_hand_right (n : Nat) : SS :=
  (gSeq (gUnp (tgSeq 2 (tgCons (tgName 0) (tgCons (tgName 1) tgNil))) (sTup (aCons (sTup (aCons (sC (.int 1)) (aCons (sC (.int 0)) (aCons (sC (.int 3)) aNil)))) (aCons (sPow (sC (.int 10)) (sC (.int 40))) aNil))))
    (gSeq (gSet 2 (sLst false (aCons (sCall (f_least_bare_shift n) (aCons (sVar 0) (aCons (sTup (aCons (sC (.int 0)) (aCons (sC (.int 5)) aNil))) aNil))) (aCons (sLc false [5] (i_u_law_by_hand_right_1 n) (tgName 5) sYes (e_u_law_by_hand_right_1 n)) (aCons (sCall (f_bare_multipliers n) (aCons (sVar 0) (aCons (sTup (aCons (sC (.int 0)) (aCons (sC (.int 7)) aNil))) (aCons (sC (.int 3)) aNil)))) (aCons (sCall (f_least_bare_shift n) (aCons (sVar 0) (aCons (sTup (aCons (sC (.int 0)) (aCons (sC (.int 8)) aNil))) aNil))) (aCons (sCall (f_bare_multipliers n) (aCons (sVar 0) (aCons (sTup (aCons (sC (.int 0)) (aCons (sC (.int 8)) aNil))) (aCons (sC (.int 5)) aNil)))) aNil)))))))
    (gSeq (gSet 3 (sLst false (aCons (sC (.int 3)) (aCons (sLst false (aCons (sC .none) (aCons (sTup (aCons (sC (.int 3)) (aCons (sC (.int 3)) aNil))) (aCons (sTup (aCons (sC (.int 6)) (aCons (sC (.int 6)) aNil))) aNil)))) (aCons (sTup (aCons (sC (.int 3)) (aCons (sC (.int 3)) aNil))) (aCons (sC (.int 5)) (aCons (sTup (aCons (sC (.int 11)) (aCons (sC (.int 11)) aNil))) aNil)))))))
    (gSeq (gSet 2 (sAdd (sVar 2) (sLst false (aCons (sCall (f_least_bare_shift n) (aCons (sTup (aCons (sC (.int 1)) (aCons (sC (.int 1)) (aCons (sC (.int 1)) aNil)))) (aCons (sTup (aCons (sC (.int 0)) (aCons (sC (.int 3)) aNil))) aNil))) (aCons (sCall (f_bare_multipliers n) (aCons (sTup (aCons (sC (.int 1)) (aCons (sC (.int 1)) (aCons (sC (.int 1)) aNil)))) (aCons (sTup (aCons (sC (.int 0)) (aCons (sC (.int 3)) aNil))) (aCons (sC (.int 9)) aNil)))) (aCons (sCall (f_least_bare_shift n) (aCons (sTup (aCons (sC (.int 1)) (aCons (sNeg (sC (.int 1))) (aCons (sC (.int 1)) aNil)))) (aCons (sTup (aCons (sNeg (sC (.int 1))) (aCons (sC (.int 1)) aNil))) aNil))) (aCons (sCall (f_least_bare_shift n) (aCons (sTup (aCons (sC (.int 5)) (aCons (sC (.int 0)) (aCons (sC (.int 1)) aNil)))) (aCons (sTup (aCons (sNeg (sC (.int 9))) (aCons (sC (.int 9)) aNil))) aNil))) aNil)))))))
    (gSeq (gSet 3 (sAdd (sVar 3) (sLst false (aCons (sC .none) (aCons (sC .none) (aCons (sC .none) (aCons (sC (.int 0)) aNil)))))))
    (gSeq (gSet 2 (sAdd (sVar 2) (sLst false (aCons (sCall (f_bare_multipliers n) (aCons (sTup (aCons (sC (.int 5)) (aCons (sC (.int 0)) (aCons (sC (.int 1)) aNil)))) (aCons (sTup (aCons (sNeg (sC (.int 9))) (aCons (sC (.int 9)) aNil))) (aCons (sC (.int 2)) aNil)))) (aCons (sCall (f_least_bare_shift n) (aCons (sTup (aCons (sC (.int 3)) (aCons (sC (.int 0)) (aCons (sC (.int 4)) aNil)))) (aCons (sTup (aCons (sNeg (sC (.int 9))) (aCons (sC (.int 9)) aNil))) aNil))) (aCons (sCall (f_bare_multipliers n) (aCons (sTup (aCons (sC (.int 3)) (aCons (sC (.int 0)) (aCons (sC (.int 4)) aNil)))) (aCons (sTup (aCons (sNeg (sC (.int 9))) (aCons (sC (.int 9)) aNil))) (aCons (sC (.int 2)) aNil)))) (aCons (sCall (f_bare_multipliers n) (aCons (sTup (aCons (sC (.int 3)) (aCons (sC (.int 0)) (aCons (sC (.int 4)) aNil)))) (aCons (sTup (aCons (sNeg (sC (.int 9))) (aCons (sC (.int 9)) aNil))) (aCons (sC (.int 1)) aNil)))) (aCons (sCall (f_least_bare_shift n) (aCons (sVar 0) (aCons (sTup (aCons (sNeg (sC (.int 9))) (aCons (sC (.int 9)) aNil))) aNil))) aNil))))))))
    (gSeq (gSet 3 (sAdd (sVar 3) (sLst false (aCons (sTup (aCons (sC (.int 20)) (aCons (sC (.int 20)) aNil))) (aCons (sC (.int 2)) (aCons (sTup (aCons (sC (.int 3)) (aCons (sC (.int 3)) aNil))) (aCons (sC .none) (aCons (sC .none) aNil))))))))
    (gSeq (gSet 2 (sAdd (sVar 2) (sLst false (aCons (sCall (f_least_bare_shift n) (aCons (sTup (aCons (sC (.int 1)) (aCons (sC (.int 0)) (aCons (sC (.int 2)) aNil)))) (aCons (sTup (aCons (sC (.int 5)) (aCons (sC (.int 6)) aNil))) aNil))) (aCons (sCall (f_bare_multipliers n) (aCons (sTup (aCons (sC (.int 1)) (aCons (sC (.int 0)) (aCons (sC (.int 2)) aNil)))) (aCons (sTup (aCons (sC (.int 5)) (aCons (sC (.int 6)) aNil))) (aCons (sC (.int 1)) aNil)))) (aCons (sCall (f_bare_multipliers n) (aCons (sTup (aCons (sC (.int 1)) (aCons (sC (.int 0)) (aCons (sC (.int 2)) aNil)))) (aCons (sTup (aCons (sC (.int 5)) (aCons (sC (.int 6)) aNil))) (aCons (sC (.int 4)) aNil)))) (aCons (sCall (f_bare_multipliers n) (aCons (sTup (aCons (sC (.int 1)) (aCons (sC (.int 0)) (aCons (sC (.int 2)) aNil)))) (aCons (sTup (aCons (sNeg (sC (.int 6))) (aCons (sNeg (sC (.int 5))) aNil))) (aCons (sC (.int 4)) aNil)))) (aCons (sCall (f_least_bare_shift n) (aCons (sTup (aCons (sC (.int 0)) (aCons (sC (.int 0)) (aCons (sC (.int 1)) aNil)))) (aCons (sTup (aCons (sNeg (sC (.int 1))) (aCons (sC (.int 1)) aNil))) aNil))) aNil))))))))
    (gSeq (gSet 3 (sAdd (sVar 3) (sLst false (aCons (sC (.int 1)) (aCons (sTup (aCons (sC (.int 1)) (aCons (sC (.int 1)) aNil))) (aCons (sTup (aCons (sC (.int 8)) (aCons (sC (.int 9)) aNil))) (aCons (sTup (aCons (sC (.int 7)) (aCons (sC (.int 8)) aNil))) (aCons (sC (.int 0)) aNil))))))))
    (gSeq (gSet 2 (sAdd (sVar 2) (sLst false (aCons (sCall (f_bare_multipliers n) (aCons (sTup (aCons (sC (.int 1)) (aCons (sC (.int 0)) (aCons (sC (.int 10)) aNil)))) (aCons (sTup (aCons (sC (.int 0)) (aCons (sPow (sC (.int 10)) (sC (.int 30))) aNil))) (aCons (sC (.int 103)) aNil)))) (aCons (sCall (f_least_bare_shift n) (aCons (sTup (aCons (sC (.int 1)) (aCons (sC (.int 0)) (aCons (sC (.int 10)) aNil)))) (aCons (sTup (aCons (sC (.int 0)) (aCons (sPow (sC (.int 10)) (sC (.int 30))) aNil))) aNil))) (aCons (sCall (f_least_bare_shift n) (aCons (sTup (aCons (sC (.int 1)) (aCons (sC (.int 0)) (aCons (sSub (sVar 1) (sC (.int 1))) aNil)))) (aCons (sTup (aCons (sSub (sVar 1) (sC (.int 1))) (aCons (sVar 1) aNil))) aNil))) aNil))))))
    (gSeq (gSet 4 (sDiv (sAdd (sCall (f_u_law_two n) (aCons (sC (.int 103)) aNil)) (sC (.int 9))) (sC (.int 10))))
    (gSeq (gSet 3 (sAdd (sVar 3) (sLst false (aCons (sTup (aCons (sVar 4) (aCons (sVar 4) aNil))) (aCons (sC (.int 103)) (aCons (sC (.int 132)) aNil))))))
    (gSeq (gSet 2 (sAdd (sVar 2) (sLst false (aCons (sCall (f_least_bare_shift n) (aCons (sTup (aCons (sC (.int 0)) (aCons (sC (.int 1)) (aCons (sC (.int 1)) aNil)))) (aCons (sTup (aCons (sC (.int 0)) (aCons (sC (.int 1)) aNil))) aNil))) (aCons (sCall (f_bare_multipliers n) (aCons (sTup (aCons (sC (.int 0)) (aCons (sC (.int 1)) (aCons (sC (.int 1)) aNil)))) (aCons (sTup (aCons (sC (.int 0)) (aCons (sC (.int 1)) aNil))) (aCons (sC (.int 0)) aNil)))) (aCons (sCall (f_least_bare_shift n) (aCons (sTup (aCons (sC (.int 0)) (aCons (sNeg (sC (.int 1))) (aCons (sC (.int 1)) aNil)))) (aCons (sTup (aCons (sC (.int 0)) (aCons (sC (.int 1)) aNil))) aNil))) aNil))))))
    (gSeq (gSet 3 (sAdd (sVar 3) (sLst false (aCons (sC .none) (aCons (sC .none) (aCons (sC .none) aNil))))))
    (gSeq (gSet 2 (sAdd (sVar 2) (sLst false (aCons (sCall (f_least_bare_shift n) (aCons (sTup (aCons (sC (.int 7)) (aCons (sC (.int 5)) (aCons (sC (.int 7)) aNil)))) (aCons (sTup (aCons (sC (.int 3)) (aCons (sC (.int 4)) aNil))) aNil))) (aCons (sCallK (f_bare_multipliers n) 0 3 [2, 1, 0] aNil (aCons (sC (.int 3)) (aCons (sLst false (aCons (sC (.int 0)) (aCons (sC (.int 5)) aNil))) (aCons (sListOf false (sVar 0)) aNil)))) (aCons (sCallK (f_least_bare_shift n) 0 2 [1, 0] aNil (aCons (sLst false (aCons (sC (.int 0)) (aCons (sC (.int 5)) aNil))) (aCons (sListOf false (sVar 0)) aNil))) aNil))))))
    (gRet (sCall (f_u_law_same n 12) (aCons (sVar 2) (aCons (sAdd (sVar 3) (sLst false (aCons (sC (.int 0)) (aCons (sTup (aCons (sC (.int 3)) (aCons (sC (.int 3)) aNil))) (aCons (sC (.int 3)) aNil))))) aNil)))))))))))))))))))
def f_u_law_by_hand_right (n : Nat) : FS := mkF 0 6 (b_u_law_by_hand_right n)
theorem mk_0_6 {b : SS} {S : Sto} : (mkF 0 6 b).run [] S = (b.run [none, none, none, none, none, none] S).bind fin := rfl
theorem q_u_law_by_hand_right {N : Nat} {S : Sto} : (f_u_law_by_hand_right N).run [] S = ((b_u_law_by_hand_right N).run [none, none, none, none, none, none] S).bind fin := mk_0_6
def r_u_law_right_1 (n : Nat) : SI := (iRng (sC (.int 0)) (sC (.int 9)))
def h_u_law_right_1 (n : Nat) : SS :=
  (gSeq (gSet 6 (sIte (sLt (sVar 5) (sC (.int 6))) (sCall (f_u_law_bare n) (aCons (sVar 2) (aCons (sVar 3) (aCons (sCall (f_u_law_two n) (aCons (sVar 5) aNil)) aNil)))) (sLst false aNil)))
    (gSeq (gSet 7 (sIte (sNe (sVar 6) (sLst false aNil)) (sTup (aCons (sIx (sVar 6) (sC (.int 0))) (aCons (sIx (sVar 6) (sNeg (sC (.int 1)))) aNil))) (sC .none)))
    (gSeq (gSet 8 (sLst false (aCons (sCall (f_bare_multipliers n) (aCons (sVar 2) (aCons (sVar 3) (aCons (sVar 5) aNil)))) (aCons (sCall (f_bare_multipliers n) (aCons (sListOf false (sVar 2)) (aCons (sListOf false (sVar 3)) (aCons (sVar 5) aNil)))) aNil))))
    (gSeq (gIf (sAnd (sLt (sVar 5) (sC (.int 6))) (sNot (sCall (f_u_law_same n 12) (aCons (sVar 8) (aCons (sLst false (aCons (sVar 7) (aCons (sVar 7) aNil))) aNil))))) (gRet (sC (.bool false))) gNop)
    (gIf (sAnd (sNotN (sVar 7)) (sIsN (sVar 4))) (gSet 4 (sVar 5)) gNop)))))
def r_u_law_right_2 (n : Nat) : SI := (iRng (sC (.int 0)) (sC (.int 4)))
def h_u_law_right_2 (n : Nat) : SS :=
  (gSeq (gSet 2 (sCall (f_u_law_rule n) (aCons (sVar 0) (aCons (sC (.int 9)) aNil))))
    (gSeq (gSet 3 (sIte (sGt (sCall (f_u_law_take n) (aCons (sVar 0) (aCons (sC (.int 3)) aNil))) (sC (.int 0))) (sCall (f_u_law_run n) (aCons (sVar 0) (aCons (sC (.int 9)) (aCons (sC (.int 6)) aNil)))) (sTup (aCons (sC (.int 0)) (aCons (sCall (f_u_law_take n) (aCons (sVar 0) (aCons (sC (.int 9)) aNil))) aNil)))))
    (gSeq (gSet 3 (sTup (aCons (sIx (sVar 3) (sC (.int 0))) (aCons (sAdd (sIx (sVar 3) (sC (.int 1))) (sC (.int 1))) aNil))))
    (gSeq (gSet 4 (sC .none))
    (gSeq (gFor (r_u_law_right_1 n) (tgName 5) (h_u_law_right_1 n))
    (gSeq (gSet 9 (sCall (f_least_bare_shift n) (aCons (sVar 2) (aCons (sVar 3) aNil))))
    (gSeq (gSet 8 (sLst false (aCons (sVar 9) (aCons (sCall (f_least_bare_shift n) (aCons (sListOf false (sVar 2)) (aCons (sListOf false (sVar 3)) aNil))) aNil))))
    (gSeq (gIf (sAnd (sNotN (sVar 4)) (sNot (sCall (f_u_law_same n 12) (aCons (sVar 8) (aCons (sLst false (aCons (sVar 4) (aCons (sVar 4) aNil))) aNil))))) (gRet (sC (.bool false))) gNop)
    (gIf (sAnd (sIsN (sVar 4)) (sNotN (sVar 9))) (gSeq (gSet 10 (sCall (f_bare_multipliers n) (aCons (sVar 2) (aCons (sVar 3) (aCons (sVar 9) aNil)))))
    (gSeq (gSet 11 (sTup (aCons (sIx (sVar 10) (sC (.int 0))) (aCons (sC (.int 0)) (aCons (sCall (f_u_law_two n) (aCons (sVar 9) aNil)) aNil)))))
    (gSeq (gIf (sOr (sLt (sVar 9) (sC (.int 6))) (sNe (sCall (f_u_law_worths n) (aCons (sVar 11) (aCons (sVar 3) aNil))) (sCall (f_u_law_worths n) (aCons (sVar 2) (aCons (sVar 3) aNil))))) (gRet (sC (.bool false))) gNop)
    (gIf (sNotN (sCall (f_bare_multipliers n) (aCons (sVar 2) (aCons (sVar 3) (aCons (sSub (sVar 9) (sC (.int 1))) aNil))))) (gRet (sC (.bool false))) gNop)))) gNop)))))))))
def b_u_law_right (n : Nat) : SS :=
  (gSeq (gFor (r_u_law_right_2 n) (tgName 1) (h_u_law_right_2 n))
    (gRet (sC (.bool true))))
def f_u_law_right (n : Nat) : FS := mkF 1 12 (b_u_law_right n)
theorem mk_1_12 {b : SS} {S : Sto} {w0 : W} : (mkF 1 12 b).run [w0] S = (b.run [some w0, none, none, none, none, none, none, none, none, none, none, none] S).bind fin := rfl
theorem q_u_law_right {N : Nat} {S : Sto} {w0 : W} : (f_u_law_right N).run [w0] S = ((b_u_law_right N).run [some w0, none, none, none, none, none, none, none, none, none, none, none] S).bind fin := mk_1_12
def b_law (n : Nat) : SS :=
  (gSeq (gIf (sNot (sCall (f_u_law_by_hand_right n) aNil)) (gRet (sC (.bool false))) gNop)
    (gSeq (gSet 1 (sCall (f_u_law_cells n) (aCons (sVar 0) (aCons (sC (.int 3)) aNil))))
    (gSeq (gFor (iRng (sC (.int 0)) (sB oLen (aCons (sVar 1) aNil))) (tgName 2) (gSeq (gSet 3 (sCall (f_u_law_box n) (aCons (sVar 1) (aCons (sVar 2) aNil))))
    (gIf (sOr (sNot (sCall (f_u_law_right n) (aCons (sVar 3) aNil))) (sNot (sCall (f_u_law_right n) (aCons (sVar 3) aNil)))) (gRet (sC (.bool false))) gNop)))
    (gRet (sC (.bool true))))))
def f_law (n : Nat) : FS := mkF 1 4 (b_law n)
theorem q_law {N : Nat} {S : Sto} {w0 : W} : (f_law N).run [w0] S = ((b_law N).run [some w0, none, none, none] S).bind fin := mk_1_4
/-! ### the text -/
theorem sc_greatest_quotient : FnScope ["found"] ["found"] (defScope s_greatest_quotient) := ⟨rfl, rfl, rfl, by decide +kernel, rfl, by decide +kernel, by decide +kernel⟩
theorem sc_least_quotient : FnScope ["found"] ["found"] (defScope s_least_quotient) := ⟨rfl, rfl, rfl, by decide +kernel, rfl, by decide +kernel, by decide +kernel⟩
theorem sc_u_most_of : FnScope ["found", "sign", "best", "other"] ["found", "sign"] (defScope s_u_most_of) := ⟨rfl, rfl, rfl, by decide +kernel, rfl, by decide +kernel, by decide +kernel⟩
theorem sc_value : FnScope ["line", "n", "a", "b", "d"] ["line", "n"] (defScope s_value) := ⟨rfl, rfl, rfl, by decide +kernel, rfl, by decide +kernel, by decide +kernel⟩
theorem sc_remainder : FnScope ["line", "n", "a", "b", "d"] ["line", "n"] (defScope s_remainder) := ⟨rfl, rfl, rfl, by decide +kernel, rfl, by decide +kernel, by decide +kernel⟩
theorem sc_mirrored : FnScope ["line", "a", "b", "d"] ["line"] (defScope s_mirrored) := ⟨rfl, rfl, rfl, by decide +kernel, rfl, by decide +kernel, by decide +kernel⟩
theorem sc_turned : FnScope ["line", "a", "b", "d"] ["line"] (defScope s_turned) := ⟨rfl, rfl, rfl, by decide +kernel, rfl, by decide +kernel, by decide +kernel⟩
theorem sc_rounded_up : FnScope ["a", "b", "d"] ["a", "b", "d"] (defScope s_rounded_up) := ⟨rfl, rfl, rfl, by decide +kernel, rfl, by decide +kernel, by decide +kernel⟩
theorem sc_upper_corners : FnScope ["line", "stretch", "n"] ["line", "stretch"] (defScope s_upper_corners) := ⟨rfl, rfl, rfl, by decide +kernel, rfl, by decide +kernel, by decide +kernel⟩
theorem sc_lower_corners : FnScope ["line", "stretch", "n"] ["line", "stretch"] (defScope s_lower_corners) := ⟨rfl, rfl, rfl, by decide +kernel, rfl, by decide +kernel, by decide +kernel⟩
theorem sc_u_upper_numbers : FnScope ["line", "stretch", "a", "_", "d", "first", "last", "ahead", "behind", "way"] ["line", "stretch"] (defScope s_u_upper_numbers) := ⟨rfl, rfl, rfl, by decide +kernel, rfl, by decide +kernel, by decide +kernel⟩
theorem sc_u_nearing : FnScope ["a", "d", "rest", "room", "found", "at", "up", "loss", "down", "gain", "times"] ["a", "d", "rest", "room"] (defScope s_u_nearing) := ⟨rfl, rfl, rfl, by decide +kernel, rfl, by decide +kernel, by decide +kernel⟩
theorem sc_bare_multipliers : FnScope ["line", "stretch", "shift"] ["line", "stretch", "shift"] (defScope s_bare_multipliers) := ⟨rfl, rfl, rfl, by decide +kernel, rfl, by decide +kernel, by decide +kernel⟩
theorem sc_least_bare_shift : FnScope ["line", "stretch", "sides", "most", "shift", "_", "low", "high"] ["line", "stretch"] (defScope s_least_bare_shift) := ⟨rfl, rfl, rfl, by decide +kernel, rfl, by decide +kernel, by decide +kernel⟩
theorem sc_u_need_two : FnScope ["stretch"] ["stretch"] (defScope s_u_need_two) := ⟨rfl, rfl, rfl, by decide +kernel, rfl, by decide +kernel, by decide +kernel⟩
theorem sc_u_starts_at_nought : FnScope ["line", "stretch"] ["line", "stretch"] (defScope s_u_starts_at_nought) := ⟨rfl, rfl, rfl, by decide +kernel, rfl, by decide +kernel, by decide +kernel⟩
theorem sc_u_bare_sides : FnScope ["line", "stretch", "first", "last", "sides", "found", "sign", "seen", "part", "low", "high", "n", "y"] ["line", "stretch"] (defScope s_u_bare_sides) := ⟨rfl, rfl, rfl, by decide +kernel, rfl, by decide +kernel, by decide +kernel⟩
theorem sc_u_tops_of_sides : FnScope ["sides", "bottom", "leasts", "greatests", "sign", "low", "high", "ends", "least", "greatest"] ["sides", "bottom"] (defScope s_u_tops_of_sides) := ⟨rfl, rfl, rfl, by decide +kernel, rfl, by decide +kernel, by decide +kernel⟩
theorem sc_u_law_box : FnScope ["script", "k", "great_so"] ["script", "k"] (defScope s_u_law_box) := ⟨rfl, rfl, rfl, by decide +kernel, rfl, by decide +kernel, by decide +kernel⟩
theorem sc_u_law_take : FnScope ["box", "top_so", "digit_so", "once", "far", "twice"] ["box", "top_so"] (defScope s_u_law_take) := ⟨rfl, rfl, rfl, by decide +kernel, rfl, by decide +kernel, by decide +kernel⟩
theorem sc_u_law_cells : FnScope ["script", "most", "cells", "k", "great_so", "at_so"] ["script", "most"] (defScope s_u_law_cells) := ⟨rfl, rfl, rfl, by decide +kernel, rfl, by decide +kernel, by decide +kernel⟩
theorem sc_u_law_same : FnScope ["got", "due", "mine", "its", "own"] ["got", "due"] (defScope s_u_law_same) := ⟨rfl, rfl, rfl, by decide +kernel, rfl, by decide +kernel, by decide +kernel⟩
theorem sc_u_law_rule : FnScope ["box", "wide_so", "bottom_so"] ["box", "wide_so"] (defScope s_u_law_rule) := ⟨rfl, rfl, rfl, by decide +kernel, rfl, by decide +kernel, by decide +kernel⟩
theorem sc_u_law_run : FnScope ["box", "most", "wide_so", "low_so"] ["box", "most", "wide_so"] (defScope s_u_law_run) := ⟨rfl, rfl, rfl, by decide +kernel, rfl, by decide +kernel, by decide +kernel⟩
theorem sc_u_law_worth : FnScope ["rule", "spot", "top_so"] ["rule", "spot"] (defScope s_u_law_worth) := ⟨rfl, rfl, rfl, by decide +kernel, rfl, by decide +kernel, by decide +kernel⟩
theorem sc_u_law_worths : FnScope ["rule", "run", "spot"] ["rule", "run"] (defScope s_u_law_worths) := ⟨rfl, rfl, rfl, by decide +kernel, rfl, by decide +kernel, by decide +kernel⟩
theorem sc_u_law_points : FnScope ["rule", "run", "spot"] ["rule", "run"] (defScope s_u_law_points) := ⟨rfl, rfl, rfl, by decide +kernel, rfl, by decide +kernel, by decide +kernel⟩
theorem sc_u_law_two : FnScope ["many_so", "found", "turn"] ["many_so"] (defScope s_u_law_two) := ⟨rfl, rfl, rfl, by decide +kernel, rfl, by decide +kernel, by decide +kernel⟩
theorem sc_u_law_bare : FnScope ["rule", "run", "big", "spots", "found", "fac", "own"] ["rule", "run", "big"] (defScope s_u_law_bare) := ⟨rfl, rfl, rfl, by decide +kernel, rfl, by decide +kernel, by decide +kernel⟩
theorem sc_u_law_by_hand_right : FnScope ["third", "far", "got", "due", "first_so", "k"] [] (defScope s_u_law_by_hand_right) := ⟨rfl, rfl, rfl, by decide +kernel, rfl, by decide +kernel, by decide +kernel⟩
theorem sc_u_law_right : FnScope ["box", "turn", "rule", "run", "first_so", "k", "fine", "due", "got", "many", "near", "late"] ["box"] (defScope s_u_law_right) := ⟨rfl, rfl, rfl, by decide +kernel, rfl, by decide +kernel, by decide +kernel⟩
theorem sc_law : FnScope ["script", "cells", "k", "box"] ["script"] (defScope s_law) := ⟨rfl, rfl, rfl, by decide +kernel, rfl, by decide +kernel, by decide +kernel⟩
structure Txt (K : PySem.W.Frag) (mg : Str → Option Value) (A : Nat → Addr) (D : Nat → FuncData) : Prop where
  F0 : Fun K "greatest_quotient" "greatest_quotient" s_greatest_quotient (A 0) (D 0)
  g0 : mg "greatest_quotient" = some (.ref (A 0))
  b0 : Binds K (D 0) ["found"] []
  F1 : Fun K "least_quotient" "least_quotient" s_least_quotient (A 1) (D 1)
  g1 : mg "least_quotient" = some (.ref (A 1))
  b1 : Binds K (D 1) ["found"] []
  F2 : Fun K "_most_of" "_most_of" s_u_most_of (A 2) (D 2)
  g2 : mg "_most_of" = some (.ref (A 2))
  b2 : Binds K (D 2) ["found", "sign"] []
  F3 : Fun K "value" "value" s_value (A 3) (D 3)
  g3 : mg "value" = some (.ref (A 3))
  b3 : Binds K (D 3) ["line", "n"] []
  F4 : Fun K "remainder" "remainder" s_remainder (A 4) (D 4)
  g4 : mg "remainder" = some (.ref (A 4))
  b4 : Binds K (D 4) ["line", "n"] []
  F5 : Fun K "mirrored" "mirrored" s_mirrored (A 5) (D 5)
  g5 : mg "mirrored" = some (.ref (A 5))
  b5 : Binds K (D 5) ["line"] []
  F6 : Fun K "turned" "turned" s_turned (A 6) (D 6)
  g6 : mg "turned" = some (.ref (A 6))
  b6 : Binds K (D 6) ["line"] []
  F7 : Fun K "rounded_up" "rounded_up" s_rounded_up (A 7) (D 7)
  g7 : mg "rounded_up" = some (.ref (A 7))
  b7 : Binds K (D 7) ["a", "b", "d"] []
  F8 : Fun K "upper_corners" "upper_corners" s_upper_corners (A 8) (D 8)
  g8 : mg "upper_corners" = some (.ref (A 8))
  b8 : Binds K (D 8) ["line", "stretch"] []
  F9 : Fun K "lower_corners" "lower_corners" s_lower_corners (A 9) (D 9)
  g9 : mg "lower_corners" = some (.ref (A 9))
  b9 : Binds K (D 9) ["line", "stretch"] []
  F10 : Fun K "_upper_numbers" "_upper_numbers" s_u_upper_numbers (A 10) (D 10)
  g10 : mg "_upper_numbers" = some (.ref (A 10))
  b10 : Binds K (D 10) ["line", "stretch"] []
  F11 : Fun K "_nearing" "_nearing" s_u_nearing (A 11) (D 11)
  g11 : mg "_nearing" = some (.ref (A 11))
  b11 : Binds K (D 11) ["a", "d", "rest", "room"] []
  F12 : Fun K "bare_multipliers" "bare_multipliers" s_bare_multipliers (A 12) (D 12)
  g12 : mg "bare_multipliers" = some (.ref (A 12))
  b12 : Binds K (D 12) ["line", "stretch", "shift"] []
  F13 : Fun K "least_bare_shift" "least_bare_shift" s_least_bare_shift (A 13) (D 13)
  g13 : mg "least_bare_shift" = some (.ref (A 13))
  b13 : Binds K (D 13) ["line", "stretch"] []
  F14 : Fun K "_need_two" "_need_two" s_u_need_two (A 14) (D 14)
  g14 : mg "_need_two" = some (.ref (A 14))
  b14 : Binds K (D 14) ["stretch"] []
  F15 : Fun K "_starts_at_nought" "_starts_at_nought" s_u_starts_at_nought (A 15) (D 15)
  g15 : mg "_starts_at_nought" = some (.ref (A 15))
  b15 : Binds K (D 15) ["line", "stretch"] []
  F16 : Fun K "_bare_sides" "_bare_sides" s_u_bare_sides (A 16) (D 16)
  g16 : mg "_bare_sides" = some (.ref (A 16))
  b16 : Binds K (D 16) ["line", "stretch"] []
  F17 : Fun K "_tops_of_sides" "_tops_of_sides" s_u_tops_of_sides (A 17) (D 17)
  g17 : mg "_tops_of_sides" = some (.ref (A 17))
  b17 : Binds K (D 17) ["sides", "bottom"] []
  F18 : Fun K "_law_box" "_law_box" s_u_law_box (A 18) (D 18)
  g18 : mg "_law_box" = some (.ref (A 18))
  b18 : Binds K (D 18) ["script", "k"] []
  F19 : Fun K "_law_take" "_law_take" s_u_law_take (A 19) (D 19)
  g19 : mg "_law_take" = some (.ref (A 19))
  b19 : Binds K (D 19) ["box", "top_so"] []
  F20 : Fun K "_law_cells" "_law_cells" s_u_law_cells (A 20) (D 20)
  g20 : mg "_law_cells" = some (.ref (A 20))
  b20 : Binds K (D 20) ["script", "most"] []
  F21 : Fun K "_law_same" "_law_same" s_u_law_same (A 21) (D 21)
  g21 : mg "_law_same" = some (.ref (A 21))
  b21 : Binds K (D 21) ["got", "due"] []
  F22 : Fun K "_law_rule" "_law_rule" s_u_law_rule (A 22) (D 22)
  g22 : mg "_law_rule" = some (.ref (A 22))
  b22 : Binds K (D 22) ["box", "wide_so"] []
  F23 : Fun K "_law_run" "_law_run" s_u_law_run (A 23) (D 23)
  g23 : mg "_law_run" = some (.ref (A 23))
  b23 : Binds K (D 23) ["box", "most", "wide_so"] []
  F24 : Fun K "_law_worth" "_law_worth" s_u_law_worth (A 24) (D 24)
  g24 : mg "_law_worth" = some (.ref (A 24))
  b24 : Binds K (D 24) ["rule", "spot"] []
  F25 : Fun K "_law_worths" "_law_worths" s_u_law_worths (A 25) (D 25)
  g25 : mg "_law_worths" = some (.ref (A 25))
  b25 : Binds K (D 25) ["rule", "run"] []
  F26 : Fun K "_law_points" "_law_points" s_u_law_points (A 26) (D 26)
  g26 : mg "_law_points" = some (.ref (A 26))
  b26 : Binds K (D 26) ["rule", "run"] []
  F27 : Fun K "_law_two" "_law_two" s_u_law_two (A 27) (D 27)
  g27 : mg "_law_two" = some (.ref (A 27))
  b27 : Binds K (D 27) ["many_so"] []
  F28 : Fun K "_law_bare" "_law_bare" s_u_law_bare (A 28) (D 28)
  g28 : mg "_law_bare" = some (.ref (A 28))
  b28 : Binds K (D 28) ["rule", "run", "big"] []
  F29 : Fun K "_law_by_hand_right" "_law_by_hand_right" s_u_law_by_hand_right (A 29) (D 29)
  g29 : mg "_law_by_hand_right" = some (.ref (A 29))
  b29 : Binds K (D 29) [] []
  F30 : Fun K "_law_right" "_law_right" s_u_law_right (A 30) (D 30)
  g30 : mg "_law_right" = some (.ref (A 30))
  b30 : Binds K (D 30) ["box"] []
  F31 : Fun K "law" "law" s_law (A 31) (D 31)
  g31 : mg "law" = some (.ref (A 31))
  b31 : Binds K (D 31) ["script"] []
  n_abs : mg "abs" = none
  n_all : mg "all" = none
  n_bool : mg "bool" = none
  n_dict : mg "dict" = none
  n_enumerate : mg "enumerate" = none
  n_int : mg "int" = none
  n_isinstance : mg "isinstance" = none
  n_len : mg "len" = none
  n_list : mg "list" = none
  n_max : mg "max" = none
  n_min : mg "min" = none
  n_range : mg "range" = none
  n_str : mg "str" = none
  n_sum : mg "sum" = none
  n_tuple : mg "tuple" = none
  n_zip : mg "zip" = none
section
variable {P : Program} {w : World} {K : PySem.W.Frag} {mg : Str → Option Value} {base : Heap} {A : Nat → Addr} {D : Nat → FuncData}
theorem kb_least_bare_shift_0_stretch_line (T : Txt K mg A D) : KBn K (D 13) ["line", "stretch"] 0 ["stretch", "line"] (gP [1, 0]) (gP [1, 0]) :=
  kbn_mk T.F13 [1, 0] fun _ _ _ _ _ _ us ws h1 h2 => match us, ws, h1, h2 with | [], [_, _], _, _ => rfl
theorem kb_bare_multipliers_0_shift_stretch_line (T : Txt K mg A D) : KBn K (D 12) ["line", "stretch", "shift"] 0 ["shift", "stretch", "line"] (gP [2, 1, 0]) (gP [2, 1, 0]) :=
  kbn_mk T.F12 [2, 1, 0] fun _ _ _ _ _ _ us ws h1 h2 => match us, ws, h1, h2 with | [], [_, _, _], _, _ => rfl
theorem ok_u_most_of (T : Txt K mg A D) (n : Nat) : FnOk P w K mg base CX0 1 (A 2) (D 2) ["found", "sign"] (spI K (f_u_most_of n)) :=
  z_def (k := 0) (b := b_u_most_of n) T.F2 sc_u_most_of rfl rfl (fun cdv AA outer s H E hr =>
      (y_cons (y_set (i := 2) sc_u_most_of.nd rfl (Or.inl rfl) (z_sub_ix (z_var (pv 0)) z_int (fun _ _ => rfl)))
      (y_cons (y_for PassesOwn.never rfl (i_any (z_var (pv 0))) (g_name (pg_name (i := 3) sc_u_most_of.nd rfl (by first | exact Or.inl rfl | exact Or.inr rfl))) (y_one (y_if (zt_gt (z_mul (z_var (pv 1)) (z_sub (z_mul (z_sub_ix (z_var (pv 3)) z_int (fun _ _ => rfl)) (z_sub_ix (z_var (pv 2)) z_int (fun _ _ => rfl))) (z_mul (z_sub_ix (z_var (pv 2)) z_int (fun _ _ => rfl)) (z_sub_ix (z_var (pv 3)) z_int (fun _ _ => rfl))))) z_int) (y_one (y_set (i := 2) sc_u_most_of.nd rfl (Or.inl rfl) (z_var (pv 3)))) y_nil)))
      (y_one (y_ret (z_var (pv 2)))))))
theorem ok_greatest_quotient (T : Txt K mg A D) (n : Nat) : FnOk P w K mg base CX0 2 (A 0) (D 0) ["found"] (spI K (f_greatest_quotient n)) :=
  z_def (k := 1) (b := b_greatest_quotient n) T.F0 sc_greatest_quotient rfl rfl (fun cdv AA outer s H E hr =>
      (y_one (y_ret (z_call (ok_u_most_of T n) (hr.mono (by decide)) (by rfl) T.g2 T.F2.kp T.b2 (za_cons (z_var (pv 0)) (za_cons z_int za_nil))))))
theorem ok_least_quotient (T : Txt K mg A D) (n : Nat) : FnOk P w K mg base CX0 2 (A 1) (D 1) ["found"] (spI K (f_least_quotient n)) :=
  z_def (k := 1) (b := b_least_quotient n) T.F1 sc_least_quotient rfl rfl (fun cdv AA outer s H E hr =>
      (y_one (y_ret (z_call (ok_u_most_of T n) (hr.mono (by decide)) (by rfl) T.g2 T.F2.kp T.b2 (za_cons (z_var (pv 0)) (za_cons (z_neg z_int) za_nil))))))
theorem ok_value (T : Txt K mg A D) (n : Nat) : FnOk P w K mg base CX0 1 (A 3) (D 3) ["line", "n"] (spI K (f_value n)) :=
  z_def (k := 0) (b := b_value n) T.F3 sc_value rfl rfl (fun cdv AA outer s H E hr =>
      (y_cons (y_unp (z_var (pv 0)) (g_seq (gs_cons (g_name (pg_name (i := 2) sc_value.nd rfl (by first | exact Or.inl rfl | exact Or.inr rfl))) (gs_cons (g_name (pg_name (i := 3) sc_value.nd rfl (by first | exact Or.inl rfl | exact Or.inr rfl))) (gs_cons (g_name (pg_name (i := 4) sc_value.nd rfl (by first | exact Or.inl rfl | exact Or.inr rfl))) gs_nil (fun h1 h2 => pgs_cons h1 h2)) (fun h1 h2 => pgs_cons h1 h2)) (fun h1 h2 => pgs_cons h1 h2)) (fun h => pg_tup rfl h) (fun h => pg_lst rfl h)))
      (y_one (y_ret (z_div (z_add (z_mul (z_var (pv 2)) (z_var (pv 1))) (z_var (pv 3))) (z_var (pv 4)))))))
theorem ok_remainder (T : Txt K mg A D) (n : Nat) : FnOk P w K mg base CX0 1 (A 4) (D 4) ["line", "n"] (spI K (f_remainder n)) :=
  z_def (k := 0) (b := b_remainder n) T.F4 sc_remainder rfl rfl (fun cdv AA outer s H E hr =>
      (y_cons (y_unp (z_var (pv 0)) (g_seq (gs_cons (g_name (pg_name (i := 2) sc_remainder.nd rfl (by first | exact Or.inl rfl | exact Or.inr rfl))) (gs_cons (g_name (pg_name (i := 3) sc_remainder.nd rfl (by first | exact Or.inl rfl | exact Or.inr rfl))) (gs_cons (g_name (pg_name (i := 4) sc_remainder.nd rfl (by first | exact Or.inl rfl | exact Or.inr rfl))) gs_nil (fun h1 h2 => pgs_cons h1 h2)) (fun h1 h2 => pgs_cons h1 h2)) (fun h1 h2 => pgs_cons h1 h2)) (fun h => pg_tup rfl h) (fun h => pg_lst rfl h)))
      (y_one (y_ret (z_mod (z_add (z_mul (z_var (pv 2)) (z_var (pv 1))) (z_var (pv 3))) (z_var (pv 4)))))))
theorem ok_mirrored (T : Txt K mg A D) (n : Nat) : FnOk P w K mg base CX0 1 (A 5) (D 5) ["line"] (spI K (f_mirrored n)) :=
  z_def (k := 0) (b := b_mirrored n) T.F5 sc_mirrored rfl rfl (fun cdv AA outer s H E hr =>
      (y_cons (y_unp (z_var (pv 0)) (g_seq (gs_cons (g_name (pg_name (i := 1) sc_mirrored.nd rfl (by first | exact Or.inl rfl | exact Or.inr rfl))) (gs_cons (g_name (pg_name (i := 2) sc_mirrored.nd rfl (by first | exact Or.inl rfl | exact Or.inr rfl))) (gs_cons (g_name (pg_name (i := 3) sc_mirrored.nd rfl (by first | exact Or.inl rfl | exact Or.inr rfl))) gs_nil (fun h1 h2 => pgs_cons h1 h2)) (fun h1 h2 => pgs_cons h1 h2)) (fun h1 h2 => pgs_cons h1 h2)) (fun h => pg_tup rfl h) (fun h => pg_lst rfl h)))
      (y_one (y_ret (z_tup (za_cons (z_neg (z_var (pv 1))) (za_cons (z_var (pv 2)) (za_cons (z_var (pv 3)) za_nil))))))))
theorem ok_rounded_up (T : Txt K mg A D) (n : Nat) : FnOk P w K mg base CX0 1 (A 7) (D 7) ["a", "b", "d"] (spI K (f_rounded_up n)) :=
  z_def (k := 0) (b := b_rounded_up n) T.F7 sc_rounded_up rfl rfl (fun cdv AA outer s H E hr =>
      (y_one (y_ret (z_tup (za_cons (z_var (pv 0)) (za_cons (z_sub (z_add (z_var (pv 1)) (z_var (pv 2))) z_int) (za_cons (z_var (pv 2)) za_nil)))))))
theorem ok_turned (T : Txt K mg A D) (n : Nat) : FnOk P w K mg base CX0 2 (A 6) (D 6) ["line"] (spI K (f_turned n)) :=
  z_def (k := 1) (b := b_turned n) T.F6 sc_turned rfl rfl (fun cdv AA outer s H E hr =>
      (y_cons (y_unp (z_var (pv 0)) (g_seq (gs_cons (g_name (pg_name (i := 1) sc_turned.nd rfl (by first | exact Or.inl rfl | exact Or.inr rfl))) (gs_cons (g_name (pg_name (i := 2) sc_turned.nd rfl (by first | exact Or.inl rfl | exact Or.inr rfl))) (gs_cons (g_name (pg_name (i := 3) sc_turned.nd rfl (by first | exact Or.inl rfl | exact Or.inr rfl))) gs_nil (fun h1 h2 => pgs_cons h1 h2)) (fun h1 h2 => pgs_cons h1 h2)) (fun h1 h2 => pgs_cons h1 h2)) (fun h => pg_tup rfl h) (fun h => pg_lst rfl h)))
      (y_one (y_ret (z_call (ok_rounded_up T n) (hr.mono (by decide)) (by rfl) T.g7 T.F7.kp T.b7 (za_cons (z_neg (z_var (pv 1))) (za_cons (z_neg (z_var (pv 2))) (za_cons (z_var (pv 3)) za_nil))))))))
theorem ok_u_nearing (T : Txt K mg A D) (n : Nat) : FnOk P w K mg base CX0 1 (A 11) (D 11) ["a", "d", "rest", "room"] (spI K (f_u_nearing n)) :=
  z_def (k := 0) (b := b_u_nearing n) T.F11 sc_u_nearing rfl rfl (fun cdv AA outer s H E hr =>
      (y_cons (y_set (i := 4) sc_u_nearing.nd rfl (Or.inl rfl) (z_lst true (za_cons z_int za_nil)))
      (y_cons (y_set (i := 5) sc_u_nearing.nd rfl (Or.inl rfl) z_int)
      (y_cons (y_parT (i := 6) (j := 7) rfl (ps_par rfl sc_u_nearing.nd rfl rfl (by decide) rfl rfl (za_cons z_int (za_cons (z_sub (z_var (pv 1)) (z_mod (z_var (pv 0)) (z_var (pv 1)))) za_nil)) (by rfl)))
      (y_cons (y_parT (i := 8) (j := 9) rfl (ps_par rfl sc_u_nearing.nd rfl rfl (by decide) rfl rfl (za_cons z_int (za_cons (z_mod (z_var (pv 0)) (z_var (pv 1))) za_nil)) (by rfl)))
      (y_one (y_while n PassesOwn.never (zt z_bl) (y_cons (y_set (i := 10) sc_u_nearing.nd rfl (Or.inl rfl) (z_min rfl (by rfl) T.n_min (za_cons (z_div (z_sub (z_var (pv 3)) (z_var (pv 5))) (z_var (pv 6))) (za_cons (z_div (z_var (pv 2)) (z_var (pv 7))) za_nil))))
      (y_cons (y_if (zt_gt (z_var (pv 10)) z_int) (y_cons (y_aug (os_i2 fun _ _ _ => .int _) (ps_aug (i := 5) sc_u_nearing.nd rfl (by first | exact Or.inl rfl | exact Or.inr rfl) (z_mul (z_var (pv 10)) (z_var (pv 6))) iop_add))
      (y_cons (y_aug (os_i2 fun _ _ _ => .int _) (ps_aug (i := 2) sc_u_nearing.nd rfl (by first | exact Or.inl rfl | exact Or.inr rfl) (z_mul (z_var (pv 10)) (z_var (pv 7))) iop_sub))
      (y_one (y_app (z_var (pv 5)) (pv 4) (fun h1 h2 => ps_expr (pe_bm PySem.F.plainAttrs_list PySem.F.slot_list_append PySem.F.type_list_append mt_append h1 h2)))))) y_nil)
      (y_cons (y_if (PW.pt (zw_or (zt_eq hr.units (z_var (pv 9)) z_int) (zw_or1 (zt_gt (z_add (z_var (pv 6)) (z_var (pv 8))) (z_sub (z_var (pv 3)) (z_var (pv 5))))))) (y_one (y_ret (z_var (pv 4)))) y_nil)
      (y_cons (y_set (i := 10) sc_u_nearing.nd rfl (Or.inl rfl) (z_div (z_sub (z_sub (z_var (pv 7)) (z_var (pv 2))) z_int) (z_var (pv 9))))
      (y_cons (y_aug (os_i2 fun _ _ _ => .int _) (ps_aug (i := 6) sc_u_nearing.nd rfl (by first | exact Or.inl rfl | exact Or.inr rfl) (z_mul (z_var (pv 10)) (z_var (pv 8))) iop_add))
      (y_cons (y_aug (os_i2 fun _ _ _ => .int _) (ps_aug (i := 7) sc_u_nearing.nd rfl (by first | exact Or.inl rfl | exact Or.inr rfl) (z_mul (z_var (pv 10)) (z_var (pv 9))) iop_sub))
      (y_cons (y_if (zt_gt (z_add (z_var (pv 6)) (z_var (pv 8))) (z_sub (z_var (pv 3)) (z_var (pv 5)))) (y_one (y_ret (z_var (pv 4)))) y_nil)
      (y_cons (y_set (i := 10) sc_u_nearing.nd rfl (Or.inl rfl) (z_sub (z_min rfl (by rfl) T.n_min (za_cons (z_div (z_add (z_var (pv 2)) (z_var (pv 9))) (z_var (pv 7))) (za_cons (z_div (z_sub (z_sub (z_var (pv 3)) (z_var (pv 5))) (z_var (pv 8))) (z_var (pv 6))) za_nil))) z_int))
      (y_cons (y_aug (os_i2 fun _ _ _ => .int _) (ps_aug (i := 8) sc_u_nearing.nd rfl (by first | exact Or.inl rfl | exact Or.inr rfl) (z_mul (z_var (pv 10)) (z_var (pv 6))) iop_add))
      (y_cons (y_aug (os_i2 fun _ _ _ => .int _) (ps_aug (i := 9) sc_u_nearing.nd rfl (by first | exact Or.inl rfl | exact Or.inr rfl) (z_mul (z_var (pv 10)) (z_var (pv 7))) iop_sub))
      (y_one (y_if (zt_gt (z_var (pv 7)) (z_var (pv 9))) (y_cons (y_aug (os_i2 fun _ _ _ => .int _) (ps_aug (i := 6) sc_u_nearing.nd rfl (by first | exact Or.inl rfl | exact Or.inr rfl) (z_var (pv 8)) iop_add))
      (y_one (y_aug (os_i2 fun _ _ _ => .int _) (ps_aug (i := 7) sc_u_nearing.nd rfl (by first | exact Or.inl rfl | exact Or.inr rfl) (z_var (pv 9)) iop_sub)))) (y_cons (y_aug (os_i2 fun _ _ _ => .int _) (ps_aug (i := 8) sc_u_nearing.nd rfl (by first | exact Or.inl rfl | exact Or.inr rfl) (z_var (pv 6)) iop_add))
      (y_one (y_aug (os_i2 fun _ _ _ => .int _) (ps_aug (i := 9) sc_u_nearing.nd rfl (by first | exact Or.inl rfl | exact Or.inr rfl) (z_var (pv 7)) iop_sub)))))))))))))))))))))))
theorem ok_u_upper_numbers (T : Txt K mg A D) (n : Nat) : FnOk P w K mg base CX0 2 (A 10) (D 10) ["line", "stretch"] (spI K (f_u_upper_numbers n)) :=
  z_def (k := 1) (b := b_u_upper_numbers n) T.F10 sc_u_upper_numbers rfl rfl (fun cdv AA outer s H E hr =>
      (y_cons (y_unp (z_var (pv 0)) (g_seq (gs_cons (g_name (pg_name (i := 2) sc_u_upper_numbers.nd rfl (by first | exact Or.inl rfl | exact Or.inr rfl))) (gs_cons (g_name (pg_name (i := 3) sc_u_upper_numbers.nd rfl (by first | exact Or.inl rfl | exact Or.inr rfl))) (gs_cons (g_name (pg_name (i := 4) sc_u_upper_numbers.nd rfl (by first | exact Or.inl rfl | exact Or.inr rfl))) gs_nil (fun h1 h2 => pgs_cons h1 h2)) (fun h1 h2 => pgs_cons h1 h2)) (fun h1 h2 => pgs_cons h1 h2)) (fun h => pg_tup rfl h) (fun h => pg_lst rfl h)))
      (y_cons (y_unp (z_var (pv 1)) (g_seq (gs_cons (g_name (pg_name (i := 5) sc_u_upper_numbers.nd rfl (by first | exact Or.inl rfl | exact Or.inr rfl))) (gs_cons (g_name (pg_name (i := 6) sc_u_upper_numbers.nd rfl (by first | exact Or.inl rfl | exact Or.inr rfl))) gs_nil (fun h1 h2 => pgs_cons h1 h2)) (fun h1 h2 => pgs_cons h1 h2)) (fun h => pg_tup rfl h) (fun h => pg_lst rfl h)))
      (y_cons (y_setLc (i := 7) (g := (gName 9)) (tt := tYes) (own := [("way", 9)]) false rfl sc_u_upper_numbers.nd rfl rfl (sw_true rfl rfl rfl (by decide +kernel)) (i_any (z_call (ok_u_nearing T n) (hr.mono (by decide)) (by rfl) T.g11 T.F11.kp T.b11 (za_cons (z_var (pv 2)) (za_cons (z_var (pv 4)) (za_cons (z_call (ok_remainder T n) (hr.mono (by decide)) (by rfl) T.g4 T.F4.kp T.b4 (za_cons (z_var (pv 0)) (za_cons (z_var (pv 5)) za_nil))) (za_cons (z_sub (z_var (pv 6)) (z_var (pv 5))) za_nil)))))) (blkOk_by (by kernel_rfl)) (fun _ _ _ _ _ => (pg_name (i := 9) sc_u_upper_numbers.nd rfl (by first | exact Or.inl rfl | exact Or.inr rfl))) kg_name (by kernel_rfl) (fun _ _ _ _ _ => ts_nil.1) ts_nil.2 (fun _ _ _ _ _ => (z_add (z_var (pv 5)) (z_var (pv 9)))))
      (y_cons (y_setLc (i := 8) (g := (gName 9)) (tt := tYes) (own := [("way", 9)]) true rfl sc_u_upper_numbers.nd rfl rfl (sw_true rfl rfl rfl (by decide +kernel)) (i_any (z_call (ok_u_nearing T n) (hr.mono (by decide)) (by rfl) T.g11 T.F11.kp T.b11 (za_cons (z_neg (z_var (pv 2))) (za_cons (z_var (pv 4)) (za_cons (z_call (ok_remainder T n) (hr.mono (by decide)) (by rfl) T.g4 T.F4.kp T.b4 (za_cons (z_var (pv 0)) (za_cons (z_var (pv 6)) za_nil))) (za_cons (z_sub (z_var (pv 6)) (z_var (pv 5))) za_nil)))))) (blkOk_by (by kernel_rfl)) (fun _ _ _ _ _ => (pg_name (i := 9) sc_u_upper_numbers.nd rfl (by first | exact Or.inl rfl | exact Or.inr rfl))) kg_name (by kernel_rfl) (fun _ _ _ _ _ => ts_nil.1) ts_nil.2 (fun _ _ _ _ _ => (z_sub (z_var (pv 6)) (z_var (pv 9)))))
      (y_cons (y_if (zt_eq hr.units (z_sub_ix (z_var (pv 7)) (z_neg z_int) (fun _ _ => rfl)) (z_sub_ix (z_var (pv 8)) (z_neg z_int) (fun _ _ => rfl))) (y_one (y_exp (z_pop (pv 8) (fun h => pe_bm0 PySem.F.plainAttrs_list PySem.F.slot_list_pop PySem.F.type_list_pop mt_pop h)))) y_nil)
      (y_one (y_ret (z_addA (z_var (pv 7)) (z_rev false (z_var (pv 8))))))))))))
theorem ok_upper_corners (T : Txt K mg A D) (n : Nat) : FnOk P w K mg base CX0 3 (A 8) (D 8) ["line", "stretch"] (spI K (f_upper_corners n)) :=
  z_def (k := 2) (b := b_upper_corners n) T.F8 sc_upper_corners rfl rfl (fun cdv AA outer s H E hr =>
      (y_one (y_ret (z_lc (g := (gName 2)) (tt := tYes) (own := [("n", 2)]) false rfl sc_upper_corners.nd (i_any (z_call (ok_u_upper_numbers T n) (hr.mono (by decide)) (by rfl) T.g10 T.F10.kp T.b10 (za_cons (z_var (pv 0)) (za_cons (z_var (pv 1)) za_nil)))) (blkOk_by (by kernel_rfl)) (fun _ _ _ _ _ => (pg_name (i := 2) sc_upper_corners.nd rfl (by first | exact Or.inl rfl | exact Or.inr rfl))) kg_name (by kernel_rfl) (fun _ _ _ _ _ => ts_nil.1) ts_nil.2 (fun _ _ _ _ _ => (z_tup (za_cons (z_var (pv 2)) (za_cons (z_call (ok_value T n) (hr.mono (by decide)) (by rfl) T.g3 T.F3.kp T.b3 (za_cons (z_var (pv 0)) (za_cons (z_var (pv 2)) za_nil))) za_nil))))))))
theorem ok_lower_corners (T : Txt K mg A D) (n : Nat) : FnOk P w K mg base CX0 3 (A 9) (D 9) ["line", "stretch"] (spI K (f_lower_corners n)) :=
  z_def (k := 2) (b := b_lower_corners n) T.F9 sc_lower_corners rfl rfl (fun cdv AA outer s H E hr =>
      (y_one (y_ret (z_lc (g := (gName 2)) (tt := tYes) (own := [("n", 2)]) false rfl sc_lower_corners.nd (i_any (z_call (ok_u_upper_numbers T n) (hr.mono (by decide)) (by rfl) T.g10 T.F10.kp T.b10 (za_cons (z_call (ok_turned T n) (hr.mono (by decide)) (by rfl) T.g6 T.F6.kp T.b6 (za_cons (z_var (pv 0)) za_nil)) (za_cons (z_var (pv 1)) za_nil)))) (blkOk_by (by kernel_rfl)) (fun _ _ _ _ _ => (pg_name (i := 2) sc_lower_corners.nd rfl (by first | exact Or.inl rfl | exact Or.inr rfl))) kg_name (by kernel_rfl) (fun _ _ _ _ _ => ts_nil.1) ts_nil.2 (fun _ _ _ _ _ => (z_tup (za_cons (z_var (pv 2)) (za_cons (z_call (ok_value T n) (hr.mono (by decide)) (by rfl) T.g3 T.F3.kp T.b3 (za_cons (z_var (pv 0)) (za_cons (z_var (pv 2)) za_nil))) za_nil))))))))
theorem ok_u_bare_sides (T : Txt K mg A D) (n : Nat) : FnOk P w K mg base CX0 4 (A 16) (D 16) ["line", "stretch"] (spI K (f_u_bare_sides n)) :=
  z_def (k := 3) (b := b_u_bare_sides n) T.F16 sc_u_bare_sides rfl rfl (fun cdv AA outer s H E hr =>
      (y_cons (y_unp (z_var (pv 1)) (g_seq (gs_cons (g_name (pg_name (i := 2) sc_u_bare_sides.nd rfl (by first | exact Or.inl rfl | exact Or.inr rfl))) (gs_cons (g_name (pg_name (i := 3) sc_u_bare_sides.nd rfl (by first | exact Or.inl rfl | exact Or.inr rfl))) gs_nil (fun h1 h2 => pgs_cons h1 h2)) (fun h1 h2 => pgs_cons h1 h2)) (fun h => pg_tup rfl h) (fun h => pg_lst rfl h)))
      (y_cons (y_set (i := 4) sc_u_bare_sides.nd rfl (Or.inl rfl) (z_lst true za_nil))
      (y_cons (y_if (zt_gt (z_var (pv 3)) z_int) (y_one (y_app (z_tup (za_cons z_int (za_cons (z_var (pv 0)) (za_cons (z_tup (za_cons (z_max rfl (by rfl) T.n_max (za_cons (z_var (pv 2)) (za_cons z_int za_nil))) (za_cons (z_var (pv 3)) za_nil))) za_nil)))) (pv 4) (fun h1 h2 => ps_expr (pe_bm PySem.F.plainAttrs_list PySem.F.slot_list_append PySem.F.type_list_append mt_append h1 h2)))) y_nil)
      (y_cons (y_if (zt_lt (z_var (pv 2)) z_int) (y_one (y_app (z_tup (za_cons (z_neg z_int) (za_cons (z_call (ok_mirrored T n) (hr.mono (by decide)) (by rfl) T.g5 T.F5.kp T.b5 (za_cons (z_var (pv 0)) za_nil)) (za_cons (z_tup (za_cons (z_max rfl (by rfl) T.n_max (za_cons (z_neg (z_var (pv 3))) (za_cons z_int za_nil))) (za_cons (z_neg (z_var (pv 2))) za_nil))) za_nil)))) (pv 4) (fun h1 h2 => ps_expr (pe_bm PySem.F.plainAttrs_list PySem.F.slot_list_append PySem.F.type_list_append mt_append h1 h2)))) y_nil)
      (y_cons (y_set (i := 5) sc_u_bare_sides.nd rfl (Or.inl rfl) (z_lst true za_nil))
      (y_cons (y_for PassesOwn.never rfl (i_any (z_var (pv 4))) (g_seq (gs_cons (g_name (pg_name (i := 6) sc_u_bare_sides.nd rfl (by first | exact Or.inl rfl | exact Or.inr rfl))) (gs_cons (g_name (pg_name (i := 7) sc_u_bare_sides.nd rfl (by first | exact Or.inl rfl | exact Or.inr rfl))) (gs_cons (g_name (pg_name (i := 8) sc_u_bare_sides.nd rfl (by first | exact Or.inl rfl | exact Or.inr rfl))) gs_nil (fun h1 h2 => pgs_cons h1 h2)) (fun h1 h2 => pgs_cons h1 h2)) (fun h1 h2 => pgs_cons h1 h2)) (fun h => pg_tup rfl h) (fun h => pg_lst rfl h)) (y_cons (y_set (i := 9) sc_u_bare_sides.nd rfl (Or.inl rfl) (z_call (ok_greatest_quotient T n) (hr.mono (by decide)) (by rfl) T.g0 T.F0.kp T.b0 (za_cons (z_lc (g := (gTS _ 2 (gCons (gName 11) (gCons (gName 12) L2.gNil)))) (tt := tYes) (own := [("n", 11), ("y", 12)]) false rfl sc_u_bare_sides.nd (i_any (z_call (ok_upper_corners T n) (hr.mono (by decide)) (by rfl) T.g8 T.F8.kp T.b8 (za_cons (z_var (pv 7)) (za_cons (z_var (pv 8)) za_nil)))) (blkOk_by (by kernel_rfl)) (fun _ _ _ _ _ => (pg_ts (pg_tup rfl (pgs_cons (pg_name (i := 11) sc_u_bare_sides.nd rfl (by first | exact Or.inl rfl | exact Or.inr rfl)) (pgs_cons (pg_name (i := 12) sc_u_bare_sides.nd rfl (by first | exact Or.inl rfl | exact Or.inr rfl)) pgs_nil))) (pg_lst rfl (pgs_cons (pg_name (i := 11) sc_u_bare_sides.nd rfl (by first | exact Or.inl rfl | exact Or.inr rfl)) (pgs_cons (pg_name (i := 12) sc_u_bare_sides.nd rfl (by first | exact Or.inl rfl | exact Or.inr rfl)) pgs_nil))))) (kg_seq (kg_cons kg_name (kg_cons kg_name kg_nil))) (by kernel_rfl) (fun _ _ _ _ _ => ts_nil.1) ts_nil.2 (fun _ _ _ _ _ => (z_tup (za_cons (z_var (pv 12)) (za_cons (z_var (pv 11)) za_nil))))) za_nil)))
      (y_cons (y_set (i := 10) sc_u_bare_sides.nd rfl (Or.inl rfl) (z_call (ok_least_quotient T n) (hr.mono (by decide)) (by rfl) T.g1 T.F1.kp T.b1 (za_cons (z_lc (g := (gTS _ 2 (gCons (gName 11) (gCons (gName 12) L2.gNil)))) (tt := tYes) (own := [("n", 11), ("y", 12)]) false rfl sc_u_bare_sides.nd (i_any (z_call (ok_lower_corners T n) (hr.mono (by decide)) (by rfl) T.g9 T.F9.kp T.b9 (za_cons (z_var (pv 7)) (za_cons (z_var (pv 8)) za_nil)))) (blkOk_by (by kernel_rfl)) (fun _ _ _ _ _ => (pg_ts (pg_tup rfl (pgs_cons (pg_name (i := 11) sc_u_bare_sides.nd rfl (by first | exact Or.inl rfl | exact Or.inr rfl)) (pgs_cons (pg_name (i := 12) sc_u_bare_sides.nd rfl (by first | exact Or.inl rfl | exact Or.inr rfl)) pgs_nil))) (pg_lst rfl (pgs_cons (pg_name (i := 11) sc_u_bare_sides.nd rfl (by first | exact Or.inl rfl | exact Or.inr rfl)) (pgs_cons (pg_name (i := 12) sc_u_bare_sides.nd rfl (by first | exact Or.inl rfl | exact Or.inr rfl)) pgs_nil))))) (kg_seq (kg_cons kg_name (kg_cons kg_name kg_nil))) (by kernel_rfl) (fun _ _ _ _ _ => ts_nil.1) ts_nil.2 (fun _ _ _ _ _ => (z_tup (za_cons (z_add (z_var (pv 12)) z_int) (za_cons (z_var (pv 11)) za_nil))))) za_nil)))
      (y_one (y_app (z_tup (za_cons (z_var (pv 6)) (za_cons (z_var (pv 9)) (za_cons (z_var (pv 10)) za_nil)))) (pv 5) (fun h1 h2 => ps_expr (pe_bm PySem.F.plainAttrs_list PySem.F.slot_list_append PySem.F.type_list_append mt_append h1 h2)))))))
      (y_one (y_ret (z_var (pv 5)))))))))))
theorem ok_u_need_two (T : Txt K mg A D) (n : Nat) : FnOk P w K mg base CX0 1 (A 14) (D 14) ["stretch"] (spI K (f_u_need_two n)) :=
  z_def (k := 0) (b := b_u_need_two n) T.F14 sc_u_need_two rfl rfl (fun cdv AA outer s H E hr =>
      (y_one (y_if (zt_eq hr.units (z_sub_ix (z_var (pv 0)) z_int (fun _ _ => rfl)) (z_sub_ix (z_var (pv 0)) z_int (fun _ _ => rfl))) (y_one y_bad) y_nil)))
theorem ok_u_starts_at_nought (T : Txt K mg A D) (n : Nat) : FnOk P w K mg base CX0 2 (A 15) (D 15) ["line", "stretch"] (spI K (f_u_starts_at_nought n)) :=
  z_def (k := 1) (b := b_u_starts_at_nought n) T.F15 sc_u_starts_at_nought rfl rfl (fun cdv AA outer s H E hr =>
      (y_one (y_ret (z_or (z_not (z_chain opr_le opr_le (os_i2 fun _ _ _ => .bl _) (os_i2 fun _ _ _ => .bl _) (z_sub_ix (z_var (pv 1)) z_int (fun _ _ => rfl)) z_int (z_sub_ix (z_var (pv 1)) z_int (fun _ _ => rfl)))) (z_one (z_eq hr.units (z_call (ok_value T n) (hr.mono (by decide)) (by rfl) T.g3 T.F3.kp T.b3 (za_cons (z_var (pv 0)) (za_cons z_int za_nil))) z_int))))))
theorem ok_u_tops_of_sides (T : Txt K mg A D) (n : Nat) : FnOk P w K mg base CX0 1 (A 17) (D 17) ["sides", "bottom"] (spI K (f_u_tops_of_sides n)) :=
  z_def (k := 0) (b := b_u_tops_of_sides n) T.F17 sc_u_tops_of_sides rfl rfl (fun cdv AA outer s H E hr =>
      (y_cons (y_parT (i := 2) (j := 3) rfl (ps_par rfl sc_u_tops_of_sides.nd rfl rfl (by decide) rfl rfl (za_cons (z_lst true za_nil) (za_cons (z_lst true za_nil) za_nil)) (by rfl)))
      (y_cons (y_for PassesOwn.never rfl (i_any (z_var (pv 0))) (g_seq (gs_cons (g_name (pg_name (i := 4) sc_u_tops_of_sides.nd rfl (by first | exact Or.inl rfl | exact Or.inr rfl))) (gs_cons (g_name (pg_name (i := 5) sc_u_tops_of_sides.nd rfl (by first | exact Or.inl rfl | exact Or.inr rfl))) (gs_cons (g_name (pg_name (i := 6) sc_u_tops_of_sides.nd rfl (by first | exact Or.inl rfl | exact Or.inr rfl))) gs_nil (fun h1 h2 => pgs_cons h1 h2)) (fun h1 h2 => pgs_cons h1 h2)) (fun h1 h2 => pgs_cons h1 h2)) (fun h => pg_tup rfl h) (fun h => pg_lst rfl h)) (y_cons (y_set (i := 7) sc_u_tops_of_sides.nd rfl (Or.inl rfl) (z_tup (za_cons (z_neg (z_div (z_mul (z_neg (z_sub_ix (z_var (pv 5)) z_int (fun _ _ => rfl))) (z_var (pv 1))) (z_sub_ix (z_var (pv 5)) z_int (fun _ _ => rfl)))) (za_cons (z_sub (z_neg (z_div (z_mul (z_neg (z_sub_ix (z_var (pv 6)) z_int (fun _ _ => rfl))) (z_var (pv 1))) (z_sub_ix (z_var (pv 6)) z_int (fun _ _ => rfl)))) z_int) za_nil))))
      (y_cons (y_app (z_if (zt_eq hr.units (z_var (pv 4)) z_int) (z_sub_ix (z_var (pv 7)) z_int (fun _ _ => rfl)) (z_neg (z_sub_ix (z_var (pv 7)) z_int (fun _ _ => rfl)))) (pv 2) (fun h1 h2 => ps_expr (pe_bm PySem.F.plainAttrs_list PySem.F.slot_list_append PySem.F.type_list_append mt_append h1 h2)))
      (y_one (y_app (z_if (zt_eq hr.units (z_var (pv 4)) z_int) (z_sub_ix (z_var (pv 7)) z_int (fun _ _ => rfl)) (z_neg (z_sub_ix (z_var (pv 7)) z_int (fun _ _ => rfl)))) (pv 3) (fun h1 h2 => ps_expr (pe_bm PySem.F.plainAttrs_list PySem.F.slot_list_append PySem.F.type_list_append mt_append h1 h2)))))))
      (y_cons (y_parT (i := 8) (j := 9) rfl (ps_par rfl sc_u_tops_of_sides.nd rfl rfl (by decide) rfl rfl (za_cons (z_max rfl (by rfl) T.n_max (za_cons (z_var (pv 2)) za_nil)) (za_cons (z_min rfl (by rfl) T.n_min (za_cons (z_var (pv 3)) za_nil)) za_nil)) (by rfl)))
      (y_one (y_ret (z_if (zt_le (z_var (pv 8)) (z_var (pv 9))) (z_tup (za_cons (z_var (pv 8)) (za_cons (z_var (pv 9)) za_nil))) z_non)))))))
theorem ok_bare_multipliers (T : Txt K mg A D) (n : Nat) : FnOk P w K mg base CX0 5 (A 12) (D 12) ["line", "stretch", "shift"] (spI K (f_bare_multipliers n)) :=
  z_def (k := 4) (b := b_bare_multipliers n) T.F12 sc_bare_multipliers rfl rfl (fun cdv AA outer s H E hr =>
      (y_cons (y_exp (z_call (ok_u_need_two T n) (hr.mono (by decide)) (by rfl) T.g14 T.F14.kp T.b14 (za_cons (z_var (pv 1)) za_nil)))
      (y_cons (y_if (zt_not (zt (z_call (ok_u_starts_at_nought T n) (hr.mono (by decide)) (by rfl) T.g15 T.F15.kp T.b15 (za_cons (z_var (pv 0)) (za_cons (z_var (pv 1)) za_nil))))) (y_one (y_ret z_non)) y_nil)
      (y_one (y_ret (z_call (ok_u_tops_of_sides T n) (hr.mono (by decide)) (by rfl) T.g17 T.F17.kp T.b17 (za_cons (z_call (ok_u_bare_sides T n) (hr.mono (by decide)) (by rfl) T.g16 T.F16.kp T.b16 (za_cons (z_var (pv 0)) (za_cons (z_var (pv 1)) za_nil))) (za_cons (z_shl z_int (z_var (pv 2))) za_nil))))))))
theorem ok_least_bare_shift (T : Txt K mg A D) (n : Nat) : FnOk P w K mg base CX0 5 (A 13) (D 13) ["line", "stretch"] (spI K (f_least_bare_shift n)) :=
  z_def (k := 4) (b := b_least_bare_shift n) T.F13 sc_least_bare_shift rfl rfl (fun cdv AA outer s H E hr =>
      (y_cons (y_exp (z_call (ok_u_need_two T n) (hr.mono (by decide)) (by rfl) T.g14 T.F14.kp T.b14 (za_cons (z_var (pv 1)) za_nil)))
      (y_cons (y_if (zt_not (zt (z_call (ok_u_starts_at_nought T n) (hr.mono (by decide)) (by rfl) T.g15 T.F15.kp T.b15 (za_cons (z_var (pv 0)) (za_cons (z_var (pv 1)) za_nil))))) (y_one (y_ret z_non)) y_nil)
      (y_cons (y_set (i := 2) sc_least_bare_shift.nd rfl (Or.inl rfl) (z_call (ok_u_bare_sides T n) (hr.mono (by decide)) (by rfl) T.g16 T.F16.kp T.b16 (za_cons (z_var (pv 0)) (za_cons (z_var (pv 1)) za_nil))))
      (y_cons (y_set (i := 3) sc_least_bare_shift.nd rfl (Or.inl rfl) (z_sum rfl (by rfl) T.n_sum (za_cons (z_lc (g := (gTS _ 3 (gCons (gName 5) (gCons (gName 6) (gCons (gName 7) L2.gNil))))) (tt := tYes) (own := [("_", 5), ("low", 6), ("high", 7)]) false rfl sc_least_bare_shift.nd (i_any (z_var (pv 2))) (blkOk_by (by kernel_rfl)) (fun _ _ _ _ _ => (pg_ts (pg_tup rfl (pgs_cons (pg_name (i := 5) sc_least_bare_shift.nd rfl (by first | exact Or.inl rfl | exact Or.inr rfl)) (pgs_cons (pg_name (i := 6) sc_least_bare_shift.nd rfl (by first | exact Or.inl rfl | exact Or.inr rfl)) (pgs_cons (pg_name (i := 7) sc_least_bare_shift.nd rfl (by first | exact Or.inl rfl | exact Or.inr rfl)) pgs_nil)))) (pg_lst rfl (pgs_cons (pg_name (i := 5) sc_least_bare_shift.nd rfl (by first | exact Or.inl rfl | exact Or.inr rfl)) (pgs_cons (pg_name (i := 6) sc_least_bare_shift.nd rfl (by first | exact Or.inl rfl | exact Or.inr rfl)) (pgs_cons (pg_name (i := 7) sc_least_bare_shift.nd rfl (by first | exact Or.inl rfl | exact Or.inr rfl)) pgs_nil)))))) (kg_seq (kg_cons kg_name (kg_cons kg_name (kg_cons kg_name kg_nil)))) (by kernel_rfl) (fun _ _ _ _ _ => ts_nil.1) ts_nil.2 (fun _ _ _ _ _ => (z_add (z_bits (z_sub_ix (z_var (pv 6)) z_int (fun _ _ => rfl))) (z_bits (z_sub_ix (z_var (pv 7)) z_int (fun _ _ => rfl)))))) za_nil)))
      (y_cons (y_for PassesOwn.never rfl (i_rng1 (by rfl) T.n_range (za_cons (z_add (z_var (pv 3)) z_int) za_nil)) (g_name (pg_name (i := 4) sc_least_bare_shift.nd rfl (by first | exact Or.inl rfl | exact Or.inr rfl))) (y_one (y_if (zt_notN (z_call (ok_u_tops_of_sides T n) (hr.mono (by decide)) (by rfl) T.g17 T.F17.kp T.b17 (za_cons (z_var (pv 2)) (za_cons (z_shl z_int (z_var (pv 4))) za_nil)))) (y_one (y_ret (z_var (pv 4)))) y_nil)))
      (y_one (y_ret z_non))))))))
theorem ok_u_law_box (T : Txt K mg A D) (n : Nat) : FnOk P w K mg base CX0 1 (A 18) (D 18) ["script", "k"] (spI K (f_u_law_box n)) :=
  z_def (k := 0) (b := b_u_law_box n) T.F18 sc_u_law_box rfl rfl (fun cdv AA outer s H E hr =>
      (y_cons (y_set (i := 2) sc_u_law_box.nd rfl (Or.inl rfl) (z_if (zt_lt (z_var (pv 1)) (z_len (by rfl) T.n_len (za_cons (z_var (pv 0)) za_nil))) (z_sub_ix (z_var (pv 0)) (z_var (pv 1)) (fun _ _ => rfl)) z_int))
      (y_one (y_ret (z_lst true (za_cons (z_mul (z_abs (by rfl) T.n_abs (za_cons (z_var (pv 2)) za_nil)) (z_intc (by rfl) T.n_int (za_cons (z_ge (z_abs (by rfl) T.n_abs (za_cons (z_var (pv 2)) za_nil)) (z_pow z_int z_int)) za_nil))) (za_cons (z_add (z_add (z_mod (z_intc (by rfl) T.n_int (za_cons (z_var (pv 2)) za_nil)) z_int) (z_mul z_int (z_var (pv 1)))) z_int) (za_cons z_int za_nil))))))))
theorem ok_u_law_take (T : Txt K mg A D) (n : Nat) : FnOk P w K mg base CX0 1 (A 19) (D 19) ["box", "top_so"] (spI K (f_u_law_take n)) :=
  z_def (k := 0) (b := b_u_law_take n) T.F19 sc_u_law_take rfl rfl (fun cdv AA outer s H E hr =>
      (y_cons (y_if (zt_gt (z_sub_ix (z_var (pv 0)) z_int (fun _ _ => rfl)) z_int) (y_cons (y_set (i := 2) sc_u_law_take.nd rfl (Or.inl rfl) (z_mod (z_intc (by rfl) T.n_int (za_cons (z_sub_ix (z_var (pv 0)) z_int (fun _ _ => rfl)) za_nil)) (z_var (pv 1))))
      (y_cons (y_store (z_div (z_sub_ix (z_var (pv 0)) z_int (fun _ _ => rfl)) (z_var (pv 1))) (pv 0) z_int (fun h1 h2 => ps_asg h1 h2) (fun h1 h2 h3 => pg_sub h1 h2 h3))
      (y_one (y_ret (z_var (pv 2)))))) y_nil)
      (y_cons (y_store (z_add (z_sub_ix (z_var (pv 0)) z_int (fun _ _ => rfl)) z_int) (pv 0) z_int (fun h1 h2 => ps_asg h1 h2) (fun h1 h2 h3 => pg_sub h1 h2 h3))
      (y_cons (y_set (i := 3) sc_u_law_take.nd rfl (Or.inl rfl) (z_mod (z_intc (by rfl) T.n_int (za_cons (z_mul (z_add (z_sub_ix (z_var (pv 0)) z_int (fun _ _ => rfl)) (z_mul z_int (z_sub_ix (z_var (pv 0)) z_int (fun _ _ => rfl)))) (z_add z_int (z_sub_ix (z_var (pv 0)) z_int (fun _ _ => rfl)))) za_nil)) z_int))
      (y_cons (y_set (i := 4) sc_u_law_take.nd rfl (Or.inl rfl) (z_add (z_mod (z_intc (by rfl) T.n_int (za_cons (z_var (pv 3)) za_nil)) z_int) z_int))
      (y_cons (y_set (i := 5) sc_u_law_take.nd rfl (Or.inl rfl) (z_mod (z_intc (by rfl) T.n_int (za_cons (z_mul (z_add (z_add (z_var (pv 3)) (z_sub_ix (z_var (pv 0)) z_int (fun _ _ => rfl))) (z_div (z_sub_ix (z_var (pv 0)) z_int (fun _ _ => rfl)) z_int)) (z_var (pv 4))) za_nil)) z_int))
      (y_one (y_ret (z_mod (z_intc (by rfl) T.n_int (za_cons (z_div (z_mod (z_intc (by rfl) T.n_int (za_cons (z_add (z_mul (z_var (pv 5)) z_int) (z_var (pv 3))) za_nil)) z_int) z_int) za_nil)) (z_var (pv 1)))))))))))
theorem ok_u_law_cells (T : Txt K mg A D) (n : Nat) : FnOk P w K mg base CX0 1 (A 20) (D 20) ["script", "most"] (spI K (f_u_law_cells n)) :=
  z_def (k := 0) (b := b_u_law_cells n) T.F20 sc_u_law_cells rfl rfl (fun cdv AA outer s H E hr =>
      (y_cons (y_set (i := 2) sc_u_law_cells.nd rfl (Or.inl rfl) (z_or (z_listc true (by rfl) T.n_list (z_sl false (z_var (pv 0)) zo_none (zo_some (z_var (pv 1))))) (z_one (z_lst true (za_cons z_int za_nil)))))
      (y_cons (y_for PassesOwn.never rfl (i_enum (by rfl) T.n_enumerate (za_cons (z_sl false (z_var (pv 0)) (zo_some (z_var (pv 1))) (zo_some z_int)) za_nil)) (g_tup (gs_cons (g_name (pg_name (i := 3) sc_u_law_cells.nd rfl (by first | exact Or.inl rfl | exact Or.inr rfl))) (gs_cons (g_name (pg_name (i := 4) sc_u_law_cells.nd rfl (by first | exact Or.inl rfl | exact Or.inr rfl))) gs_nil (fun h1 h2 => pgs_cons h1 h2)) (fun h1 h2 => pgs_cons h1 h2)) (fun h => pg_tup rfl h)) (y_cons (y_set (i := 5) sc_u_law_cells.nd rfl (Or.inl rfl) (z_mod (z_intc (by rfl) T.n_int (za_cons (z_var (pv 3)) za_nil)) (z_var (pv 1))))
      (y_one (y_store (z_add (z_sub_ix (z_var (pv 2)) (z_var (pv 5)) (fun _ _ => rfl)) (z_mul (z_var (pv 4)) (z_add (z_var (pv 3)) z_int))) (pv 2) (z_var (pv 5)) (fun h1 h2 => ps_asg h1 h2) (fun h1 h2 h3 => pg_sub h1 h2 h3)))))
      (y_one (y_ret (z_var (pv 2)))))))
theorem ok_u_law_same (T : Txt K mg A D) (n : Nat) : ∀ d, FnOk P w K mg base CX0 (d + 0) (A 21) (D 21) ["got", "due"] (spI K (f_u_law_same n d))
  | 0 => ok_bad
  | d + 1 => by
    have h := z_def (P := P) (w := w) (mg := mg) (base := base) (k := d + 0) (b := b_u_law_same n (f_u_law_same n d)) T.F21 sc_u_law_same rfl rfl (fun cdv AA outer s H E hr => (show PSs _ (defBody s_u_law_same) (tS _ _) from by
      have rc := ok_u_law_same T n d
      unfold b_u_law_same
      exact (y_cons (y_if (zt (z_isi2 (by rfl) T.n_isinstance (z_var (pv 1)) (ty_name (by rfl) T.n_list bt_list) (ty_name (by rfl) T.n_tuple bt_tuple) kit_list kit_tuple (fun h => pe_tup h))) (y_cons (y_if (PW.pt (zw_or (zt_ne hr.units (z_isi (by rfl) T.n_isinstance (z_var (pv 0)) (ty_name (by rfl) T.n_list bt_list) kit_list) (z_isi (by rfl) T.n_isinstance (z_var (pv 1)) (ty_name (by rfl) T.n_list bt_list) kit_list)) (zw_or1 (zt_ne hr.units (z_isi (by rfl) T.n_isinstance (z_var (pv 0)) (ty_name (by rfl) T.n_tuple bt_tuple) kit_tuple) (z_isi (by rfl) T.n_isinstance (z_var (pv 1)) (ty_name (by rfl) T.n_tuple bt_tuple) kit_tuple))))) (y_one (y_ret z_bl)) y_nil)
      (y_one (y_ret (z_and (z_eq hr.units (z_len (by rfl) T.n_len (za_cons (z_var (pv 0)) za_nil)) (z_len (by rfl) T.n_len (za_cons (z_var (pv 1)) za_nil))) (z_one (z_all rfl (by rfl) T.n_all (za_cons (z_lc (g := (gTup _ 2 (gCons (gName 2) (gCons (gName 3) L2.gNil)))) (tt := tYes) (own := [("mine", 2), ("its", 3)]) false rfl sc_u_law_same.nd (i_zip (by rfl) T.n_zip (za_cons (z_var (pv 0)) (za_cons (z_var (pv 1)) za_nil))) (blkOk_by (by kernel_rfl)) (fun _ _ _ _ _ => (pg_tup rfl (pgs_cons (pg_name (i := 2) sc_u_law_same.nd rfl (by first | exact Or.inl rfl | exact Or.inr rfl)) (pgs_cons (pg_name (i := 3) sc_u_law_same.nd rfl (by first | exact Or.inl rfl | exact Or.inr rfl)) pgs_nil)))) (kg_tup (kg_cons kg_name (kg_cons kg_name kg_nil))) (by kernel_rfl) (fun _ _ _ _ _ => ts_nil.1) ts_nil.2 (fun _ _ _ _ _ => (z_call rc (hr.mono (by omega)) (by rfl) T.g21 T.F21.kp T.b21 (za_cons (z_var (pv 2)) (za_cons (z_var (pv 3)) za_nil))))) za_nil))))))) y_nil)
      (y_cons (y_if (zt (z_isi (by rfl) T.n_isinstance (z_var (pv 1)) (ty_name (by rfl) T.n_dict bt_dict) kit_dict)) (y_cons (y_if (PW.pt (zw_or (zt_not (zt (z_isi (by rfl) T.n_isinstance (z_var (pv 0)) (ty_name (by rfl) T.n_dict bt_dict) kit_dict))) (zw_or1 (zt_ne hr.units (z_bad) (z_bad))))) (y_one (y_ret z_bl)) y_nil)
      (y_one (y_ret (z_all rfl (by rfl) T.n_all (za_cons (z_lc (g := (gName 4)) (tt := tYes) (own := [("own", 4)]) false rfl sc_u_law_same.nd (i_any (z_var (pv 1))) (blkOk_by (by kernel_rfl)) (fun _ _ _ _ _ => (pg_name (i := 4) sc_u_law_same.nd rfl (by first | exact Or.inl rfl | exact Or.inr rfl))) kg_name (by kernel_rfl) (fun _ _ _ _ _ => ts_nil.1) ts_nil.2 (fun _ _ _ _ _ => (z_call rc (hr.mono (by omega)) (by rfl) T.g21 T.F21.kp T.b21 (za_cons (z_sub_ix (z_var (pv 0)) (z_var (pv 4)) (fun _ _ => rfl)) (za_cons (z_sub_ix (z_var (pv 1)) (z_var (pv 4)) (fun _ _ => rfl)) za_nil))))) za_nil))))) y_nil)
      (y_cons (y_if (PW.pt (zw_or (zt_isN (z_var (pv 1))) (zw_or1 (zt (z_isi2 (by rfl) T.n_isinstance (z_var (pv 1)) (ty_name (by rfl) T.n_bool bt_bool) (ty_name (by rfl) T.n_str bt_str) kit_bool kit_str (fun h => pe_tup h)))))) (y_one (y_ret (z_and (z_eq hr.units (z_var (pv 0)) (z_var (pv 1))) (z_and (z_eq hr.units (z_isi (by rfl) T.n_isinstance (z_var (pv 0)) (ty_name (by rfl) T.n_bool bt_bool) kit_bool) (z_isi (by rfl) T.n_isinstance (z_var (pv 1)) (ty_name (by rfl) T.n_bool bt_bool) kit_bool)) (z_one (z_eq hr.units (z_isN (z_var (pv 0))) (z_isN (z_var (pv 1))))))))) y_nil)
      (y_one (y_ret (z_and (z_isi (by rfl) T.n_isinstance (z_var (pv 0)) (ty_name (by rfl) T.n_int bt_int) kit_int) (z_and (z_not (z_isi (by rfl) T.n_isinstance (z_var (pv 0)) (ty_name (by rfl) T.n_bool bt_bool) kit_bool)) (z_one (z_eq hr.units (z_var (pv 0)) (z_var (pv 1)))))))))))))
    rw [show d + 1 + 0 = d + 0 + 1 by omega]
    exact h
theorem ok_u_law_rule (T : Txt K mg A D) (n : Nat) : FnOk P w K mg base CX0 2 (A 22) (D 22) ["box", "wide_so"] (spI K (f_u_law_rule n)) :=
  z_def (k := 1) (b := b_u_law_rule n) T.F22 sc_u_law_rule rfl rfl (fun cdv AA outer s H E hr =>
      (y_cons (y_set (i := 2) sc_u_law_rule.nd rfl (Or.inl rfl) (z_add z_int (z_call (ok_u_law_take T n) (hr.mono (by decide)) (by rfl) T.g19 T.F19.kp T.b19 (za_cons (z_var (pv 0)) (za_cons (z_var (pv 1)) za_nil)))))
      (y_one (y_ret (z_tup (za_cons (z_sub (z_call (ok_u_law_take T n) (hr.mono (by decide)) (by rfl) T.g19 T.F19.kp T.b19 (za_cons (z_var (pv 0)) (za_cons (z_add (z_mul z_int (z_var (pv 1))) z_int) za_nil))) (z_var (pv 1))) (za_cons (z_sub (z_call (ok_u_law_take T n) (hr.mono (by decide)) (by rfl) T.g19 T.F19.kp T.b19 (za_cons (z_var (pv 0)) (za_cons (z_add (z_mul z_int (z_var (pv 1))) z_int) za_nil))) (z_var (pv 1))) (za_cons (z_var (pv 2)) za_nil))))))))
theorem ok_u_law_run (T : Txt K mg A D) (n : Nat) : FnOk P w K mg base CX0 2 (A 23) (D 23) ["box", "most", "wide_so"] (spI K (f_u_law_run n)) :=
  z_def (k := 1) (b := b_u_law_run n) T.F23 sc_u_law_run rfl rfl (fun cdv AA outer s H E hr =>
      (y_cons (y_set (i := 3) sc_u_law_run.nd rfl (Or.inl rfl) (z_sub (z_call (ok_u_law_take T n) (hr.mono (by decide)) (by rfl) T.g19 T.F19.kp T.b19 (za_cons (z_var (pv 0)) (za_cons (z_add (z_mul z_int (z_var (pv 2))) z_int) za_nil))) (z_var (pv 2))))
      (y_one (y_ret (z_tup (za_cons (z_var (pv 3)) (za_cons (z_add (z_var (pv 3)) (z_call (ok_u_law_take T n) (hr.mono (by decide)) (by rfl) T.g19 T.F19.kp T.b19 (za_cons (z_var (pv 0)) (za_cons (z_var (pv 1)) za_nil)))) za_nil)))))))
theorem ok_u_law_worth (T : Txt K mg A D) (n : Nat) : FnOk P w K mg base CX0 1 (A 24) (D 24) ["rule", "spot"] (spI K (f_u_law_worth n)) :=
  z_def (k := 0) (b := b_u_law_worth n) T.F24 sc_u_law_worth rfl rfl (fun cdv AA outer s H E hr =>
      (y_cons (y_set (i := 2) sc_u_law_worth.nd rfl (Or.inl rfl) (z_add (z_mul (z_sub_ix (z_var (pv 0)) z_int (fun _ _ => rfl)) (z_var (pv 1))) (z_sub_ix (z_var (pv 0)) z_int (fun _ _ => rfl))))
      (y_one (y_ret (z_div (z_var (pv 2)) (z_sub_ix (z_var (pv 0)) z_int (fun _ _ => rfl)))))))
theorem ok_u_law_worths (T : Txt K mg A D) (n : Nat) : FnOk P w K mg base CX0 2 (A 25) (D 25) ["rule", "run"] (spI K (f_u_law_worths n)) :=
  z_def (k := 1) (b := b_u_law_worths n) T.F25 sc_u_law_worths rfl rfl (fun cdv AA outer s H E hr =>
      (y_one (y_ret (z_lc (g := (gName 2)) (tt := tYes) (own := [("spot", 2)]) false rfl sc_u_law_worths.nd (i_rng2 (by rfl) T.n_range (za_cons (z_sub_ix (z_var (pv 1)) z_int (fun _ _ => rfl)) (za_cons (z_add (z_sub_ix (z_var (pv 1)) z_int (fun _ _ => rfl)) z_int) za_nil))) (blkOk_by (by kernel_rfl)) (fun _ _ _ _ _ => (pg_name (i := 2) sc_u_law_worths.nd rfl (by first | exact Or.inl rfl | exact Or.inr rfl))) kg_name (by kernel_rfl) (fun _ _ _ _ _ => ts_nil.1) ts_nil.2 (fun _ _ _ _ _ => (z_call (ok_u_law_worth T n) (hr.mono (by decide)) (by rfl) T.g24 T.F24.kp T.b24 (za_cons (z_var (pv 0)) (za_cons (z_var (pv 2)) za_nil))))))))
theorem ok_u_law_points (T : Txt K mg A D) (n : Nat) : FnOk P w K mg base CX0 2 (A 26) (D 26) ["rule", "run"] (spI K (f_u_law_points n)) :=
  z_def (k := 1) (b := b_u_law_points n) T.F26 sc_u_law_points rfl rfl (fun cdv AA outer s H E hr =>
      (y_one (y_ret (z_lc (g := (gName 2)) (tt := tYes) (own := [("spot", 2)]) false rfl sc_u_law_points.nd (i_rng2 (by rfl) T.n_range (za_cons (z_sub_ix (z_var (pv 1)) z_int (fun _ _ => rfl)) (za_cons (z_add (z_sub_ix (z_var (pv 1)) z_int (fun _ _ => rfl)) z_int) za_nil))) (blkOk_by (by kernel_rfl)) (fun _ _ _ _ _ => (pg_name (i := 2) sc_u_law_points.nd rfl (by first | exact Or.inl rfl | exact Or.inr rfl))) kg_name (by kernel_rfl) (fun _ _ _ _ _ => ts_nil.1) ts_nil.2 (fun _ _ _ _ _ => (z_tup (za_cons (z_var (pv 2)) (za_cons (z_call (ok_u_law_worth T n) (hr.mono (by decide)) (by rfl) T.g24 T.F24.kp T.b24 (za_cons (z_var (pv 0)) (za_cons (z_var (pv 2)) za_nil))) za_nil))))))))
theorem ok_u_law_two (T : Txt K mg A D) (n : Nat) : FnOk P w K mg base CX0 1 (A 27) (D 27) ["many_so"] (spI K (f_u_law_two n)) :=
  z_def (k := 0) (b := b_u_law_two n) T.F27 sc_u_law_two rfl rfl (fun cdv AA outer s H E hr =>
      (y_cons (y_set (i := 1) sc_u_law_two.nd rfl (Or.inl rfl) z_int)
      (y_cons (y_for PassesOwn.never rfl (i_rng1 (by rfl) T.n_range (za_cons (z_var (pv 0)) za_nil)) (g_name (pg_name (i := 2) sc_u_law_two.nd rfl (by first | exact Or.inl rfl | exact Or.inr rfl))) (y_one (y_set (i := 1) sc_u_law_two.nd rfl (Or.inl rfl) (z_mul (z_var (pv 1)) z_int))))
      (y_one (y_ret (z_var (pv 1)))))))
theorem ok_u_law_bare (T : Txt K mg A D) (n : Nat) : FnOk P w K mg base CX0 3 (A 28) (D 28) ["rule", "run", "big"] (spI K (f_u_law_bare n)) :=
  z_def (k := 2) (b := b_u_law_bare n) T.F28 sc_u_law_bare rfl rfl (fun cdv AA outer s H E hr =>
      (y_cons (y_set (i := 3) sc_u_law_bare.nd rfl (Or.inl rfl) (z_call (ok_u_law_points T n) (hr.mono (by decide)) (by rfl) T.g26 T.F26.kp T.b26 (za_cons (z_var (pv 0)) (za_cons (z_var (pv 1)) za_nil))))
      (y_cons (y_set (i := 4) sc_u_law_bare.nd rfl (Or.inl rfl) (z_lst true za_nil))
      (y_cons (y_for PassesOwn.never rfl (i_rng2 (by rfl) T.n_range (za_cons (z_mul (z_neg z_int) (z_var (pv 2))) (za_cons (z_add (z_mul z_int (z_var (pv 2))) z_int) za_nil))) (g_name (pg_name (i := 5) sc_u_law_bare.nd rfl (by first | exact Or.inl rfl | exact Or.inr rfl))) (y_one (y_if (zt_eq hr.units (z_lc (g := (gName 6)) (tt := (tIT _ (c_u_law_bare_1 n))) (own := [("own", 6)]) false rfl sc_u_law_bare.nd (i_any (z_var (pv 3))) (blkOk_by (by kernel_rfl)) (fun _ _ _ _ _ => (pg_name (i := 6) sc_u_law_bare.nd rfl (by first | exact Or.inl rfl | exact Or.inr rfl))) kg_name (by kernel_rfl) (fun _ _ _ _ _ => pts_one (zt_ne hr.units (z_div (z_mul (z_var (pv 5)) (z_sub_ix (z_var (pv 6)) z_int (fun _ _ => rfl))) (z_var (pv 2))) (z_sub_ix (z_var (pv 6)) z_int (fun _ _ => rfl)))) (fun _ _ _ h => h) (fun _ _ _ _ _ => (z_var (pv 6)))) (z_lst false za_nil)) (y_one (y_app (z_var (pv 5)) (pv 4) (fun h1 h2 => ps_expr (pe_bm PySem.F.plainAttrs_list PySem.F.slot_list_append PySem.F.type_list_append mt_append h1 h2)))) y_nil)))
      (y_one (y_ret (z_var (pv 4))))))))
theorem ok_u_law_by_hand_right (T : Txt K mg A D) (n : Nat) : FnOk P w K mg base CX0 13 (A 29) (D 29) [] (spI K (f_u_law_by_hand_right n)) :=
  z_def (k := 12) (b := b_u_law_by_hand_right n) T.F29 sc_u_law_by_hand_right rfl rfl (fun cdv AA outer s H E hr =>
      (y_cons (y_unp (z_tup (za_cons (z_tup (za_cons z_int (za_cons z_int (za_cons z_int za_nil)))) (za_cons (z_pow z_int z_int) za_nil))) (g_seq (gs_cons (g_name (pg_name (i := 0) sc_u_law_by_hand_right.nd rfl (by first | exact Or.inl rfl | exact Or.inr rfl))) (gs_cons (g_name (pg_name (i := 1) sc_u_law_by_hand_right.nd rfl (by first | exact Or.inl rfl | exact Or.inr rfl))) gs_nil (fun h1 h2 => pgs_cons h1 h2)) (fun h1 h2 => pgs_cons h1 h2)) (fun h => pg_tup rfl h) (fun h => pg_lst rfl h)))
      (y_cons (y_set (i := 2) sc_u_law_by_hand_right.nd rfl (Or.inl rfl) (z_lst false (za_cons (z_call (ok_least_bare_shift T n) (hr.mono (by decide)) (by rfl) T.g13 T.F13.kp T.b13 (za_cons (z_var (pv 0)) (za_cons (z_tup (za_cons z_int (za_cons z_int za_nil))) za_nil))) (za_cons (z_lc (g := (gName 5)) (tt := tYes) (own := [("k", 5)]) false rfl sc_u_law_by_hand_right.nd (i_tup (z_tup (za_cons z_int (za_cons z_int (za_cons z_int za_nil))))) (blkOk_by (by kernel_rfl)) (fun _ _ _ _ _ => (pg_name (i := 5) sc_u_law_by_hand_right.nd rfl (by first | exact Or.inl rfl | exact Or.inr rfl))) kg_name (by kernel_rfl) (fun _ _ _ _ _ => ts_nil.1) ts_nil.2 (fun _ _ _ _ _ => (z_call (ok_bare_multipliers T n) (hr.mono (by decide)) (by rfl) T.g12 T.F12.kp T.b12 (za_cons (z_var (pv 0)) (za_cons (z_tup (za_cons z_int (za_cons z_int za_nil))) (za_cons (z_var (pv 5)) za_nil)))))) (za_cons (z_call (ok_bare_multipliers T n) (hr.mono (by decide)) (by rfl) T.g12 T.F12.kp T.b12 (za_cons (z_var (pv 0)) (za_cons (z_tup (za_cons z_int (za_cons z_int za_nil))) (za_cons z_int za_nil)))) (za_cons (z_call (ok_least_bare_shift T n) (hr.mono (by decide)) (by rfl) T.g13 T.F13.kp T.b13 (za_cons (z_var (pv 0)) (za_cons (z_tup (za_cons z_int (za_cons z_int za_nil))) za_nil))) (za_cons (z_call (ok_bare_multipliers T n) (hr.mono (by decide)) (by rfl) T.g12 T.F12.kp T.b12 (za_cons (z_var (pv 0)) (za_cons (z_tup (za_cons z_int (za_cons z_int za_nil))) (za_cons z_int za_nil)))) za_nil)))))))
      (y_cons (y_set (i := 3) sc_u_law_by_hand_right.nd rfl (Or.inl rfl) (z_lst false (za_cons z_int (za_cons (z_lst false (za_cons z_non (za_cons (z_tup (za_cons z_int (za_cons z_int za_nil))) (za_cons (z_tup (za_cons z_int (za_cons z_int za_nil))) za_nil)))) (za_cons (z_tup (za_cons z_int (za_cons z_int za_nil))) (za_cons z_int (za_cons (z_tup (za_cons z_int (za_cons z_int za_nil))) za_nil)))))))
      (y_cons (y_set (i := 2) sc_u_law_by_hand_right.nd rfl (Or.inl rfl) (z_add (z_var (pv 2)) (z_lst false (za_cons (z_call (ok_least_bare_shift T n) (hr.mono (by decide)) (by rfl) T.g13 T.F13.kp T.b13 (za_cons (z_tup (za_cons z_int (za_cons z_int (za_cons z_int za_nil)))) (za_cons (z_tup (za_cons z_int (za_cons z_int za_nil))) za_nil))) (za_cons (z_call (ok_bare_multipliers T n) (hr.mono (by decide)) (by rfl) T.g12 T.F12.kp T.b12 (za_cons (z_tup (za_cons z_int (za_cons z_int (za_cons z_int za_nil)))) (za_cons (z_tup (za_cons z_int (za_cons z_int za_nil))) (za_cons z_int za_nil)))) (za_cons (z_call (ok_least_bare_shift T n) (hr.mono (by decide)) (by rfl) T.g13 T.F13.kp T.b13 (za_cons (z_tup (za_cons z_int (za_cons (z_neg z_int) (za_cons z_int za_nil)))) (za_cons (z_tup (za_cons (z_neg z_int) (za_cons z_int za_nil))) za_nil))) (za_cons (z_call (ok_least_bare_shift T n) (hr.mono (by decide)) (by rfl) T.g13 T.F13.kp T.b13 (za_cons (z_tup (za_cons z_int (za_cons z_int (za_cons z_int za_nil)))) (za_cons (z_tup (za_cons (z_neg z_int) (za_cons z_int za_nil))) za_nil))) za_nil)))))))
      (y_cons (y_set (i := 3) sc_u_law_by_hand_right.nd rfl (Or.inl rfl) (z_add (z_var (pv 3)) (z_lst false (za_cons z_non (za_cons z_non (za_cons z_non (za_cons z_int za_nil)))))))
      (y_cons (y_set (i := 2) sc_u_law_by_hand_right.nd rfl (Or.inl rfl) (z_add (z_var (pv 2)) (z_lst false (za_cons (z_call (ok_bare_multipliers T n) (hr.mono (by decide)) (by rfl) T.g12 T.F12.kp T.b12 (za_cons (z_tup (za_cons z_int (za_cons z_int (za_cons z_int za_nil)))) (za_cons (z_tup (za_cons (z_neg z_int) (za_cons z_int za_nil))) (za_cons z_int za_nil)))) (za_cons (z_call (ok_least_bare_shift T n) (hr.mono (by decide)) (by rfl) T.g13 T.F13.kp T.b13 (za_cons (z_tup (za_cons z_int (za_cons z_int (za_cons z_int za_nil)))) (za_cons (z_tup (za_cons (z_neg z_int) (za_cons z_int za_nil))) za_nil))) (za_cons (z_call (ok_bare_multipliers T n) (hr.mono (by decide)) (by rfl) T.g12 T.F12.kp T.b12 (za_cons (z_tup (za_cons z_int (za_cons z_int (za_cons z_int za_nil)))) (za_cons (z_tup (za_cons (z_neg z_int) (za_cons z_int za_nil))) (za_cons z_int za_nil)))) (za_cons (z_call (ok_bare_multipliers T n) (hr.mono (by decide)) (by rfl) T.g12 T.F12.kp T.b12 (za_cons (z_tup (za_cons z_int (za_cons z_int (za_cons z_int za_nil)))) (za_cons (z_tup (za_cons (z_neg z_int) (za_cons z_int za_nil))) (za_cons z_int za_nil)))) (za_cons (z_call (ok_least_bare_shift T n) (hr.mono (by decide)) (by rfl) T.g13 T.F13.kp T.b13 (za_cons (z_var (pv 0)) (za_cons (z_tup (za_cons (z_neg z_int) (za_cons z_int za_nil))) za_nil))) za_nil))))))))
      (y_cons (y_set (i := 3) sc_u_law_by_hand_right.nd rfl (Or.inl rfl) (z_add (z_var (pv 3)) (z_lst false (za_cons (z_tup (za_cons z_int (za_cons z_int za_nil))) (za_cons z_int (za_cons (z_tup (za_cons z_int (za_cons z_int za_nil))) (za_cons z_non (za_cons z_non za_nil))))))))
      (y_cons (y_set (i := 2) sc_u_law_by_hand_right.nd rfl (Or.inl rfl) (z_add (z_var (pv 2)) (z_lst false (za_cons (z_call (ok_least_bare_shift T n) (hr.mono (by decide)) (by rfl) T.g13 T.F13.kp T.b13 (za_cons (z_tup (za_cons z_int (za_cons z_int (za_cons z_int za_nil)))) (za_cons (z_tup (za_cons z_int (za_cons z_int za_nil))) za_nil))) (za_cons (z_call (ok_bare_multipliers T n) (hr.mono (by decide)) (by rfl) T.g12 T.F12.kp T.b12 (za_cons (z_tup (za_cons z_int (za_cons z_int (za_cons z_int za_nil)))) (za_cons (z_tup (za_cons z_int (za_cons z_int za_nil))) (za_cons z_int za_nil)))) (za_cons (z_call (ok_bare_multipliers T n) (hr.mono (by decide)) (by rfl) T.g12 T.F12.kp T.b12 (za_cons (z_tup (za_cons z_int (za_cons z_int (za_cons z_int za_nil)))) (za_cons (z_tup (za_cons z_int (za_cons z_int za_nil))) (za_cons z_int za_nil)))) (za_cons (z_call (ok_bare_multipliers T n) (hr.mono (by decide)) (by rfl) T.g12 T.F12.kp T.b12 (za_cons (z_tup (za_cons z_int (za_cons z_int (za_cons z_int za_nil)))) (za_cons (z_tup (za_cons (z_neg z_int) (za_cons (z_neg z_int) za_nil))) (za_cons z_int za_nil)))) (za_cons (z_call (ok_least_bare_shift T n) (hr.mono (by decide)) (by rfl) T.g13 T.F13.kp T.b13 (za_cons (z_tup (za_cons z_int (za_cons z_int (za_cons z_int za_nil)))) (za_cons (z_tup (za_cons (z_neg z_int) (za_cons z_int za_nil))) za_nil))) za_nil))))))))
      (y_cons (y_set (i := 3) sc_u_law_by_hand_right.nd rfl (Or.inl rfl) (z_add (z_var (pv 3)) (z_lst false (za_cons z_int (za_cons (z_tup (za_cons z_int (za_cons z_int za_nil))) (za_cons (z_tup (za_cons z_int (za_cons z_int za_nil))) (za_cons (z_tup (za_cons z_int (za_cons z_int za_nil))) (za_cons z_int za_nil))))))))
      (y_cons (y_set (i := 2) sc_u_law_by_hand_right.nd rfl (Or.inl rfl) (z_add (z_var (pv 2)) (z_lst false (za_cons (z_call (ok_bare_multipliers T n) (hr.mono (by decide)) (by rfl) T.g12 T.F12.kp T.b12 (za_cons (z_tup (za_cons z_int (za_cons z_int (za_cons z_int za_nil)))) (za_cons (z_tup (za_cons z_int (za_cons (z_pow z_int z_int) za_nil))) (za_cons z_int za_nil)))) (za_cons (z_call (ok_least_bare_shift T n) (hr.mono (by decide)) (by rfl) T.g13 T.F13.kp T.b13 (za_cons (z_tup (za_cons z_int (za_cons z_int (za_cons z_int za_nil)))) (za_cons (z_tup (za_cons z_int (za_cons (z_pow z_int z_int) za_nil))) za_nil))) (za_cons (z_call (ok_least_bare_shift T n) (hr.mono (by decide)) (by rfl) T.g13 T.F13.kp T.b13 (za_cons (z_tup (za_cons z_int (za_cons z_int (za_cons (z_sub (z_var (pv 1)) z_int) za_nil)))) (za_cons (z_tup (za_cons (z_sub (z_var (pv 1)) z_int) (za_cons (z_var (pv 1)) za_nil))) za_nil))) za_nil))))))
      (y_cons (y_set (i := 4) sc_u_law_by_hand_right.nd rfl (Or.inl rfl) (z_div (z_add (z_call (ok_u_law_two T n) (hr.mono (by decide)) (by rfl) T.g27 T.F27.kp T.b27 (za_cons z_int za_nil)) z_int) z_int))
      (y_cons (y_set (i := 3) sc_u_law_by_hand_right.nd rfl (Or.inl rfl) (z_add (z_var (pv 3)) (z_lst false (za_cons (z_tup (za_cons (z_var (pv 4)) (za_cons (z_var (pv 4)) za_nil))) (za_cons z_int (za_cons z_int za_nil))))))
      (y_cons (y_set (i := 2) sc_u_law_by_hand_right.nd rfl (Or.inl rfl) (z_add (z_var (pv 2)) (z_lst false (za_cons (z_call (ok_least_bare_shift T n) (hr.mono (by decide)) (by rfl) T.g13 T.F13.kp T.b13 (za_cons (z_tup (za_cons z_int (za_cons z_int (za_cons z_int za_nil)))) (za_cons (z_tup (za_cons z_int (za_cons z_int za_nil))) za_nil))) (za_cons (z_call (ok_bare_multipliers T n) (hr.mono (by decide)) (by rfl) T.g12 T.F12.kp T.b12 (za_cons (z_tup (za_cons z_int (za_cons z_int (za_cons z_int za_nil)))) (za_cons (z_tup (za_cons z_int (za_cons z_int za_nil))) (za_cons z_int za_nil)))) (za_cons (z_call (ok_least_bare_shift T n) (hr.mono (by decide)) (by rfl) T.g13 T.F13.kp T.b13 (za_cons (z_tup (za_cons z_int (za_cons (z_neg z_int) (za_cons z_int za_nil)))) (za_cons (z_tup (za_cons z_int (za_cons z_int za_nil))) za_nil))) za_nil))))))
      (y_cons (y_set (i := 3) sc_u_law_by_hand_right.nd rfl (Or.inl rfl) (z_add (z_var (pv 3)) (z_lst false (za_cons z_non (za_cons z_non (za_cons z_non za_nil))))))
      (y_cons (y_set (i := 2) sc_u_law_by_hand_right.nd rfl (Or.inl rfl) (z_add (z_var (pv 2)) (z_lst false (za_cons (z_call (ok_least_bare_shift T n) (hr.mono (by decide)) (by rfl) T.g13 T.F13.kp T.b13 (za_cons (z_tup (za_cons z_int (za_cons z_int (za_cons z_int za_nil)))) (za_cons (z_tup (za_cons z_int (za_cons z_int za_nil))) za_nil))) (za_cons (z_callK0 (ks := ["shift", "stretch", "line"]) (ok_bare_multipliers T n) (hr.mono (by decide)) (by rfl) T.g12 T.F12.kp (kb_bare_multipliers_0_shift_stretch_line T) (zk_cons z_int (zk_cons (z_lst false (za_cons z_int (za_cons z_int za_nil))) (zk_cons (z_listc false (by rfl) T.n_list (z_var (pv 0))) zk_nil)))) (za_cons (z_callK0 (ks := ["stretch", "line"]) (ok_least_bare_shift T n) (hr.mono (by decide)) (by rfl) T.g13 T.F13.kp (kb_least_bare_shift_0_stretch_line T) (zk_cons (z_lst false (za_cons z_int (za_cons z_int za_nil))) (zk_cons (z_listc false (by rfl) T.n_list (z_var (pv 0))) zk_nil))) za_nil))))))
      (y_one (y_ret (z_call (ok_u_law_same T n 12) (hr.mono (by decide)) (by rfl) T.g21 T.F21.kp T.b21 (za_cons (z_var (pv 2)) (za_cons (z_add (z_var (pv 3)) (z_lst false (za_cons z_int (za_cons (z_tup (za_cons z_int (za_cons z_int za_nil))) (za_cons z_int za_nil))))) za_nil)))))))))))))))))))))
theorem ok_u_law_right (T : Txt K mg A D) (n : Nat) : FnOk P w K mg base CX0 13 (A 30) (D 30) ["box"] (spI K (f_u_law_right n)) :=
  z_def (k := 12) (b := b_u_law_right n) T.F30 sc_u_law_right rfl rfl (fun cdv AA outer s H E hr =>
      (y_cons (y_for PassesOwn.never rfl (i_rng1 (by rfl) T.n_range (za_cons z_int za_nil)) (g_name (pg_name (i := 1) sc_u_law_right.nd rfl (by first | exact Or.inl rfl | exact Or.inr rfl))) (y_cons (y_set (i := 2) sc_u_law_right.nd rfl (Or.inl rfl) (z_call (ok_u_law_rule T n) (hr.mono (by decide)) (by rfl) T.g22 T.F22.kp T.b22 (za_cons (z_var (pv 0)) (za_cons z_int za_nil))))
      (y_cons (y_set (i := 3) sc_u_law_right.nd rfl (Or.inl rfl) (z_if (zt_gt (z_call (ok_u_law_take T n) (hr.mono (by decide)) (by rfl) T.g19 T.F19.kp T.b19 (za_cons (z_var (pv 0)) (za_cons z_int za_nil))) z_int) (z_call (ok_u_law_run T n) (hr.mono (by decide)) (by rfl) T.g23 T.F23.kp T.b23 (za_cons (z_var (pv 0)) (za_cons z_int (za_cons z_int za_nil)))) (z_tup (za_cons z_int (za_cons (z_call (ok_u_law_take T n) (hr.mono (by decide)) (by rfl) T.g19 T.F19.kp T.b19 (za_cons (z_var (pv 0)) (za_cons z_int za_nil))) za_nil)))))
      (y_cons (y_set (i := 3) sc_u_law_right.nd rfl (Or.inl rfl) (z_tup (za_cons (z_sub_ix (z_var (pv 3)) z_int (fun _ _ => rfl)) (za_cons (z_add (z_sub_ix (z_var (pv 3)) z_int (fun _ _ => rfl)) z_int) za_nil))))
      (y_cons (y_set (i := 4) sc_u_law_right.nd rfl (Or.inl rfl) z_non)
      (y_cons (y_for PassesOwn.never rfl (i_rng1 (by rfl) T.n_range (za_cons z_int za_nil)) (g_name (pg_name (i := 5) sc_u_law_right.nd rfl (by first | exact Or.inl rfl | exact Or.inr rfl))) (y_cons (y_set (i := 6) sc_u_law_right.nd rfl (Or.inl rfl) (z_if (zt_lt (z_var (pv 5)) z_int) (z_call (ok_u_law_bare T n) (hr.mono (by decide)) (by rfl) T.g28 T.F28.kp T.b28 (za_cons (z_var (pv 2)) (za_cons (z_var (pv 3)) (za_cons (z_call (ok_u_law_two T n) (hr.mono (by decide)) (by rfl) T.g27 T.F27.kp T.b27 (za_cons (z_var (pv 5)) za_nil)) za_nil)))) (z_lst false za_nil)))
      (y_cons (y_set (i := 7) sc_u_law_right.nd rfl (Or.inl rfl) (z_if (zt_ne hr.units (z_var (pv 6)) (z_lst false za_nil)) (z_tup (za_cons (z_sub_ix (z_var (pv 6)) z_int (fun _ _ => rfl)) (za_cons (z_sub_ix (z_var (pv 6)) (z_neg z_int) (fun _ _ => rfl)) za_nil))) z_non))
      (y_cons (y_set (i := 8) sc_u_law_right.nd rfl (Or.inl rfl) (z_lst false (za_cons (z_call (ok_bare_multipliers T n) (hr.mono (by decide)) (by rfl) T.g12 T.F12.kp T.b12 (za_cons (z_var (pv 2)) (za_cons (z_var (pv 3)) (za_cons (z_var (pv 5)) za_nil)))) (za_cons (z_call (ok_bare_multipliers T n) (hr.mono (by decide)) (by rfl) T.g12 T.F12.kp T.b12 (za_cons (z_listc false (by rfl) T.n_list (z_var (pv 2))) (za_cons (z_listc false (by rfl) T.n_list (z_var (pv 3))) (za_cons (z_var (pv 5)) za_nil)))) za_nil))))
      (y_cons (y_if (PW.pt (zw_and (zt_lt (z_var (pv 5)) z_int) (zw_and1 (zt_not (zt (z_call (ok_u_law_same T n 12) (hr.mono (by decide)) (by rfl) T.g21 T.F21.kp T.b21 (za_cons (z_var (pv 8)) (za_cons (z_lst false (za_cons (z_var (pv 7)) (za_cons (z_var (pv 7)) za_nil))) za_nil)))))))) (y_one (y_ret z_bl)) y_nil)
      (y_one (y_if (PW.pt (zw_and (zt_notN (z_var (pv 7))) (zw_and1 (zt_isN (z_var (pv 4)))))) (y_one (y_set (i := 4) sc_u_law_right.nd rfl (Or.inl rfl) (z_var (pv 5)))) y_nil)))))))
      (y_cons (y_set (i := 9) sc_u_law_right.nd rfl (Or.inl rfl) (z_call (ok_least_bare_shift T n) (hr.mono (by decide)) (by rfl) T.g13 T.F13.kp T.b13 (za_cons (z_var (pv 2)) (za_cons (z_var (pv 3)) za_nil))))
      (y_cons (y_set (i := 8) sc_u_law_right.nd rfl (Or.inl rfl) (z_lst false (za_cons (z_var (pv 9)) (za_cons (z_call (ok_least_bare_shift T n) (hr.mono (by decide)) (by rfl) T.g13 T.F13.kp T.b13 (za_cons (z_listc false (by rfl) T.n_list (z_var (pv 2))) (za_cons (z_listc false (by rfl) T.n_list (z_var (pv 3))) za_nil))) za_nil))))
      (y_cons (y_if (PW.pt (zw_and (zt_notN (z_var (pv 4))) (zw_and1 (zt_not (zt (z_call (ok_u_law_same T n 12) (hr.mono (by decide)) (by rfl) T.g21 T.F21.kp T.b21 (za_cons (z_var (pv 8)) (za_cons (z_lst false (za_cons (z_var (pv 4)) (za_cons (z_var (pv 4)) za_nil))) za_nil)))))))) (y_one (y_ret z_bl)) y_nil)
      (y_one (y_if (PW.pt (zw_and (zt_isN (z_var (pv 4))) (zw_and1 (zt_notN (z_var (pv 9)))))) (y_cons (y_set (i := 10) sc_u_law_right.nd rfl (Or.inl rfl) (z_call (ok_bare_multipliers T n) (hr.mono (by decide)) (by rfl) T.g12 T.F12.kp T.b12 (za_cons (z_var (pv 2)) (za_cons (z_var (pv 3)) (za_cons (z_var (pv 9)) za_nil)))))
      (y_cons (y_set (i := 11) sc_u_law_right.nd rfl (Or.inl rfl) (z_tup (za_cons (z_sub_ix (z_var (pv 10)) z_int (fun _ _ => rfl)) (za_cons z_int (za_cons (z_call (ok_u_law_two T n) (hr.mono (by decide)) (by rfl) T.g27 T.F27.kp T.b27 (za_cons (z_var (pv 9)) za_nil)) za_nil)))))
      (y_cons (y_if (PW.pt (zw_or (zt_lt (z_var (pv 9)) z_int) (zw_or1 (zt_ne hr.units (z_call (ok_u_law_worths T n) (hr.mono (by decide)) (by rfl) T.g25 T.F25.kp T.b25 (za_cons (z_var (pv 11)) (za_cons (z_var (pv 3)) za_nil))) (z_call (ok_u_law_worths T n) (hr.mono (by decide)) (by rfl) T.g25 T.F25.kp T.b25 (za_cons (z_var (pv 2)) (za_cons (z_var (pv 3)) za_nil))))))) (y_one (y_ret z_bl)) y_nil)
      (y_one (y_if (zt_notN (z_call (ok_bare_multipliers T n) (hr.mono (by decide)) (by rfl) T.g12 T.F12.kp T.b12 (za_cons (z_var (pv 2)) (za_cons (z_var (pv 3)) (za_cons (z_sub (z_var (pv 9)) z_int) za_nil))))) (y_one (y_ret z_bl)) y_nil))))) y_nil)))))))))))
      (y_one (y_ret z_bl))))
theorem ok_law (T : Txt K mg A D) (n : Nat) : FnOk P w K mg base CX0 14 (A 31) (D 31) ["script"] (spI K (f_law n)) :=
  z_def (k := 13) (b := b_law n) T.F31 sc_law rfl rfl (fun cdv AA outer s H E hr =>
      (y_cons (y_if (zt_not (zt (z_call0 (ok_u_law_by_hand_right T n) (hr.mono (by decide)) (by rfl) T.g29 T.F29.kp T.b29))) (y_one (y_ret z_bl)) y_nil)
      (y_cons (y_set (i := 1) sc_law.nd rfl (Or.inl rfl) (z_call (ok_u_law_cells T n) (hr.mono (by decide)) (by rfl) T.g20 T.F20.kp T.b20 (za_cons (z_var (pv 0)) (za_cons z_int za_nil))))
      (y_cons (y_for PassesOwn.never rfl (i_rng1 (by rfl) T.n_range (za_cons (z_len (by rfl) T.n_len (za_cons (z_var (pv 1)) za_nil)) za_nil)) (g_name (pg_name (i := 2) sc_law.nd rfl (by first | exact Or.inl rfl | exact Or.inr rfl))) (y_cons (y_set (i := 3) sc_law.nd rfl (Or.inl rfl) (z_call (ok_u_law_box T n) (hr.mono (by decide)) (by rfl) T.g18 T.F18.kp T.b18 (za_cons (z_var (pv 1)) (za_cons (z_var (pv 2)) za_nil))))
      (y_one (y_if (PW.pt (zw_or (zt_not (zt (z_call (ok_u_law_right T n) (hr.mono (by decide)) (by rfl) T.g30 T.F30.kp T.b30 (za_cons (z_var (pv 3)) za_nil)))) (zw_or1 (zt_not (zt (z_call (ok_u_law_right T n) (hr.mono (by decide)) (by rfl) T.g30 T.F30.kp T.b30 (za_cons (z_var (pv 3)) za_nil))))))) (y_one (y_ret z_bl)) y_nil))))
      (y_one (y_ret z_bl))))))
end
theorem all_mk {l : PySem.W.OpenLaw} {w : World} {K : PySem.W.Frag} {h : Heap} {mg : Str → Option Value} {fa : Addr} (X : K.In h) (G : h.Ns mainGlobals mg) (hfa : mg "law" = some (.ref fa))
    {f0 : Addr} {od0 an0 : Option Addr} {sl0 : Array (Option Value)} {oc0 kV0 dc0 pm0 cd0 ct0 : Value}
    (a0 : PySem.W.nsIn K mainGlobals "greatest_quotient" = some (some (.ref f0))) (l0 : K.lookup f0 = some ⟨oc0, od0, .func (PySem.W.fnOf "greatest_quotient" "greatest_quotient" (defArgs s_greatest_quotient) (defBody s_greatest_quotient) (defScope s_greatest_quotient) .none kV0 dc0 pm0 an0 cd0 ct0), sl0⟩) (c0 : PySem.W.codeIn K cd0 "greatest_quotient" = true) (k0 : PySem.W.keepIn K (.ref f0) = true)
    {f1 : Addr} {od1 an1 : Option Addr} {sl1 : Array (Option Value)} {oc1 kV1 dc1 pm1 cd1 ct1 : Value}
    (a1 : PySem.W.nsIn K mainGlobals "least_quotient" = some (some (.ref f1))) (l1 : K.lookup f1 = some ⟨oc1, od1, .func (PySem.W.fnOf "least_quotient" "least_quotient" (defArgs s_least_quotient) (defBody s_least_quotient) (defScope s_least_quotient) .none kV1 dc1 pm1 an1 cd1 ct1), sl1⟩) (c1 : PySem.W.codeIn K cd1 "least_quotient" = true) (k1 : PySem.W.keepIn K (.ref f1) = true)
    {f2 : Addr} {od2 an2 : Option Addr} {sl2 : Array (Option Value)} {oc2 kV2 dc2 pm2 cd2 ct2 : Value}
    (a2 : PySem.W.nsIn K mainGlobals "_most_of" = some (some (.ref f2))) (l2 : K.lookup f2 = some ⟨oc2, od2, .func (PySem.W.fnOf "_most_of" "_most_of" (defArgs s_u_most_of) (defBody s_u_most_of) (defScope s_u_most_of) .none kV2 dc2 pm2 an2 cd2 ct2), sl2⟩) (c2 : PySem.W.codeIn K cd2 "_most_of" = true) (k2 : PySem.W.keepIn K (.ref f2) = true)
    {f3 : Addr} {od3 an3 : Option Addr} {sl3 : Array (Option Value)} {oc3 kV3 dc3 pm3 cd3 ct3 : Value}
    (a3 : PySem.W.nsIn K mainGlobals "value" = some (some (.ref f3))) (l3 : K.lookup f3 = some ⟨oc3, od3, .func (PySem.W.fnOf "value" "value" (defArgs s_value) (defBody s_value) (defScope s_value) .none kV3 dc3 pm3 an3 cd3 ct3), sl3⟩) (c3 : PySem.W.codeIn K cd3 "value" = true) (k3 : PySem.W.keepIn K (.ref f3) = true)
    {f4 : Addr} {od4 an4 : Option Addr} {sl4 : Array (Option Value)} {oc4 kV4 dc4 pm4 cd4 ct4 : Value}
    (a4 : PySem.W.nsIn K mainGlobals "remainder" = some (some (.ref f4))) (l4 : K.lookup f4 = some ⟨oc4, od4, .func (PySem.W.fnOf "remainder" "remainder" (defArgs s_remainder) (defBody s_remainder) (defScope s_remainder) .none kV4 dc4 pm4 an4 cd4 ct4), sl4⟩) (c4 : PySem.W.codeIn K cd4 "remainder" = true) (k4 : PySem.W.keepIn K (.ref f4) = true)
    {f5 : Addr} {od5 an5 : Option Addr} {sl5 : Array (Option Value)} {oc5 kV5 dc5 pm5 cd5 ct5 : Value}
    (a5 : PySem.W.nsIn K mainGlobals "mirrored" = some (some (.ref f5))) (l5 : K.lookup f5 = some ⟨oc5, od5, .func (PySem.W.fnOf "mirrored" "mirrored" (defArgs s_mirrored) (defBody s_mirrored) (defScope s_mirrored) .none kV5 dc5 pm5 an5 cd5 ct5), sl5⟩) (c5 : PySem.W.codeIn K cd5 "mirrored" = true) (k5 : PySem.W.keepIn K (.ref f5) = true)
    {f6 : Addr} {od6 an6 : Option Addr} {sl6 : Array (Option Value)} {oc6 kV6 dc6 pm6 cd6 ct6 : Value}
    (a6 : PySem.W.nsIn K mainGlobals "turned" = some (some (.ref f6))) (l6 : K.lookup f6 = some ⟨oc6, od6, .func (PySem.W.fnOf "turned" "turned" (defArgs s_turned) (defBody s_turned) (defScope s_turned) .none kV6 dc6 pm6 an6 cd6 ct6), sl6⟩) (c6 : PySem.W.codeIn K cd6 "turned" = true) (k6 : PySem.W.keepIn K (.ref f6) = true)
    {f7 : Addr} {od7 an7 : Option Addr} {sl7 : Array (Option Value)} {oc7 kV7 dc7 pm7 cd7 ct7 : Value}
    (a7 : PySem.W.nsIn K mainGlobals "rounded_up" = some (some (.ref f7))) (l7 : K.lookup f7 = some ⟨oc7, od7, .func (PySem.W.fnOf "rounded_up" "rounded_up" (defArgs s_rounded_up) (defBody s_rounded_up) (defScope s_rounded_up) .none kV7 dc7 pm7 an7 cd7 ct7), sl7⟩) (c7 : PySem.W.codeIn K cd7 "rounded_up" = true) (k7 : PySem.W.keepIn K (.ref f7) = true)
    {f8 : Addr} {od8 an8 : Option Addr} {sl8 : Array (Option Value)} {oc8 kV8 dc8 pm8 cd8 ct8 : Value}
    (a8 : PySem.W.nsIn K mainGlobals "upper_corners" = some (some (.ref f8))) (l8 : K.lookup f8 = some ⟨oc8, od8, .func (PySem.W.fnOf "upper_corners" "upper_corners" (defArgs s_upper_corners) (defBody s_upper_corners) (defScope s_upper_corners) .none kV8 dc8 pm8 an8 cd8 ct8), sl8⟩) (c8 : PySem.W.codeIn K cd8 "upper_corners" = true) (k8 : PySem.W.keepIn K (.ref f8) = true)
    {f9 : Addr} {od9 an9 : Option Addr} {sl9 : Array (Option Value)} {oc9 kV9 dc9 pm9 cd9 ct9 : Value}
    (a9 : PySem.W.nsIn K mainGlobals "lower_corners" = some (some (.ref f9))) (l9 : K.lookup f9 = some ⟨oc9, od9, .func (PySem.W.fnOf "lower_corners" "lower_corners" (defArgs s_lower_corners) (defBody s_lower_corners) (defScope s_lower_corners) .none kV9 dc9 pm9 an9 cd9 ct9), sl9⟩) (c9 : PySem.W.codeIn K cd9 "lower_corners" = true) (k9 : PySem.W.keepIn K (.ref f9) = true)
    {f10 : Addr} {od10 an10 : Option Addr} {sl10 : Array (Option Value)} {oc10 kV10 dc10 pm10 cd10 ct10 : Value}
    (a10 : PySem.W.nsIn K mainGlobals "_upper_numbers" = some (some (.ref f10))) (l10 : K.lookup f10 = some ⟨oc10, od10, .func (PySem.W.fnOf "_upper_numbers" "_upper_numbers" (defArgs s_u_upper_numbers) (defBody s_u_upper_numbers) (defScope s_u_upper_numbers) .none kV10 dc10 pm10 an10 cd10 ct10), sl10⟩) (c10 : PySem.W.codeIn K cd10 "_upper_numbers" = true) (k10 : PySem.W.keepIn K (.ref f10) = true)
    {f11 : Addr} {od11 an11 : Option Addr} {sl11 : Array (Option Value)} {oc11 kV11 dc11 pm11 cd11 ct11 : Value}
    (a11 : PySem.W.nsIn K mainGlobals "_nearing" = some (some (.ref f11))) (l11 : K.lookup f11 = some ⟨oc11, od11, .func (PySem.W.fnOf "_nearing" "_nearing" (defArgs s_u_nearing) (defBody s_u_nearing) (defScope s_u_nearing) .none kV11 dc11 pm11 an11 cd11 ct11), sl11⟩) (c11 : PySem.W.codeIn K cd11 "_nearing" = true) (k11 : PySem.W.keepIn K (.ref f11) = true)
    {f12 : Addr} {od12 an12 : Option Addr} {sl12 : Array (Option Value)} {oc12 kV12 dc12 pm12 cd12 ct12 : Value}
    (a12 : PySem.W.nsIn K mainGlobals "bare_multipliers" = some (some (.ref f12))) (l12 : K.lookup f12 = some ⟨oc12, od12, .func (PySem.W.fnOf "bare_multipliers" "bare_multipliers" (defArgs s_bare_multipliers) (defBody s_bare_multipliers) (defScope s_bare_multipliers) .none kV12 dc12 pm12 an12 cd12 ct12), sl12⟩) (c12 : PySem.W.codeIn K cd12 "bare_multipliers" = true) (k12 : PySem.W.keepIn K (.ref f12) = true)
    {f13 : Addr} {od13 an13 : Option Addr} {sl13 : Array (Option Value)} {oc13 kV13 dc13 pm13 cd13 ct13 : Value}
    (a13 : PySem.W.nsIn K mainGlobals "least_bare_shift" = some (some (.ref f13))) (l13 : K.lookup f13 = some ⟨oc13, od13, .func (PySem.W.fnOf "least_bare_shift" "least_bare_shift" (defArgs s_least_bare_shift) (defBody s_least_bare_shift) (defScope s_least_bare_shift) .none kV13 dc13 pm13 an13 cd13 ct13), sl13⟩) (c13 : PySem.W.codeIn K cd13 "least_bare_shift" = true) (k13 : PySem.W.keepIn K (.ref f13) = true)
    {f14 : Addr} {od14 an14 : Option Addr} {sl14 : Array (Option Value)} {oc14 kV14 dc14 pm14 cd14 ct14 : Value}
    (a14 : PySem.W.nsIn K mainGlobals "_need_two" = some (some (.ref f14))) (l14 : K.lookup f14 = some ⟨oc14, od14, .func (PySem.W.fnOf "_need_two" "_need_two" (defArgs s_u_need_two) (defBody s_u_need_two) (defScope s_u_need_two) .none kV14 dc14 pm14 an14 cd14 ct14), sl14⟩) (c14 : PySem.W.codeIn K cd14 "_need_two" = true) (k14 : PySem.W.keepIn K (.ref f14) = true)
    {f15 : Addr} {od15 an15 : Option Addr} {sl15 : Array (Option Value)} {oc15 kV15 dc15 pm15 cd15 ct15 : Value}
    (a15 : PySem.W.nsIn K mainGlobals "_starts_at_nought" = some (some (.ref f15))) (l15 : K.lookup f15 = some ⟨oc15, od15, .func (PySem.W.fnOf "_starts_at_nought" "_starts_at_nought" (defArgs s_u_starts_at_nought) (defBody s_u_starts_at_nought) (defScope s_u_starts_at_nought) .none kV15 dc15 pm15 an15 cd15 ct15), sl15⟩) (c15 : PySem.W.codeIn K cd15 "_starts_at_nought" = true) (k15 : PySem.W.keepIn K (.ref f15) = true)
    {f16 : Addr} {od16 an16 : Option Addr} {sl16 : Array (Option Value)} {oc16 kV16 dc16 pm16 cd16 ct16 : Value}
    (a16 : PySem.W.nsIn K mainGlobals "_bare_sides" = some (some (.ref f16))) (l16 : K.lookup f16 = some ⟨oc16, od16, .func (PySem.W.fnOf "_bare_sides" "_bare_sides" (defArgs s_u_bare_sides) (defBody s_u_bare_sides) (defScope s_u_bare_sides) .none kV16 dc16 pm16 an16 cd16 ct16), sl16⟩) (c16 : PySem.W.codeIn K cd16 "_bare_sides" = true) (k16 : PySem.W.keepIn K (.ref f16) = true)
    {f17 : Addr} {od17 an17 : Option Addr} {sl17 : Array (Option Value)} {oc17 kV17 dc17 pm17 cd17 ct17 : Value}
    (a17 : PySem.W.nsIn K mainGlobals "_tops_of_sides" = some (some (.ref f17))) (l17 : K.lookup f17 = some ⟨oc17, od17, .func (PySem.W.fnOf "_tops_of_sides" "_tops_of_sides" (defArgs s_u_tops_of_sides) (defBody s_u_tops_of_sides) (defScope s_u_tops_of_sides) .none kV17 dc17 pm17 an17 cd17 ct17), sl17⟩) (c17 : PySem.W.codeIn K cd17 "_tops_of_sides" = true) (k17 : PySem.W.keepIn K (.ref f17) = true)
    {f18 : Addr} {od18 an18 : Option Addr} {sl18 : Array (Option Value)} {oc18 kV18 dc18 pm18 cd18 ct18 : Value}
    (a18 : PySem.W.nsIn K mainGlobals "_law_box" = some (some (.ref f18))) (l18 : K.lookup f18 = some ⟨oc18, od18, .func (PySem.W.fnOf "_law_box" "_law_box" (defArgs s_u_law_box) (defBody s_u_law_box) (defScope s_u_law_box) .none kV18 dc18 pm18 an18 cd18 ct18), sl18⟩) (c18 : PySem.W.codeIn K cd18 "_law_box" = true) (k18 : PySem.W.keepIn K (.ref f18) = true)
    {f19 : Addr} {od19 an19 : Option Addr} {sl19 : Array (Option Value)} {oc19 kV19 dc19 pm19 cd19 ct19 : Value}
    (a19 : PySem.W.nsIn K mainGlobals "_law_take" = some (some (.ref f19))) (l19 : K.lookup f19 = some ⟨oc19, od19, .func (PySem.W.fnOf "_law_take" "_law_take" (defArgs s_u_law_take) (defBody s_u_law_take) (defScope s_u_law_take) .none kV19 dc19 pm19 an19 cd19 ct19), sl19⟩) (c19 : PySem.W.codeIn K cd19 "_law_take" = true) (k19 : PySem.W.keepIn K (.ref f19) = true)
    {f20 : Addr} {od20 an20 : Option Addr} {sl20 : Array (Option Value)} {oc20 kV20 dc20 pm20 cd20 ct20 : Value}
    (a20 : PySem.W.nsIn K mainGlobals "_law_cells" = some (some (.ref f20))) (l20 : K.lookup f20 = some ⟨oc20, od20, .func (PySem.W.fnOf "_law_cells" "_law_cells" (defArgs s_u_law_cells) (defBody s_u_law_cells) (defScope s_u_law_cells) .none kV20 dc20 pm20 an20 cd20 ct20), sl20⟩) (c20 : PySem.W.codeIn K cd20 "_law_cells" = true) (k20 : PySem.W.keepIn K (.ref f20) = true)
    {f21 : Addr} {od21 an21 : Option Addr} {sl21 : Array (Option Value)} {oc21 kV21 dc21 pm21 cd21 ct21 : Value}
    (a21 : PySem.W.nsIn K mainGlobals "_law_same" = some (some (.ref f21))) (l21 : K.lookup f21 = some ⟨oc21, od21, .func (PySem.W.fnOf "_law_same" "_law_same" (defArgs s_u_law_same) (defBody s_u_law_same) (defScope s_u_law_same) .none kV21 dc21 pm21 an21 cd21 ct21), sl21⟩) (c21 : PySem.W.codeIn K cd21 "_law_same" = true) (k21 : PySem.W.keepIn K (.ref f21) = true)
    {f22 : Addr} {od22 an22 : Option Addr} {sl22 : Array (Option Value)} {oc22 kV22 dc22 pm22 cd22 ct22 : Value}
    (a22 : PySem.W.nsIn K mainGlobals "_law_rule" = some (some (.ref f22))) (l22 : K.lookup f22 = some ⟨oc22, od22, .func (PySem.W.fnOf "_law_rule" "_law_rule" (defArgs s_u_law_rule) (defBody s_u_law_rule) (defScope s_u_law_rule) .none kV22 dc22 pm22 an22 cd22 ct22), sl22⟩) (c22 : PySem.W.codeIn K cd22 "_law_rule" = true) (k22 : PySem.W.keepIn K (.ref f22) = true)
    {f23 : Addr} {od23 an23 : Option Addr} {sl23 : Array (Option Value)} {oc23 kV23 dc23 pm23 cd23 ct23 : Value}
    (a23 : PySem.W.nsIn K mainGlobals "_law_run" = some (some (.ref f23))) (l23 : K.lookup f23 = some ⟨oc23, od23, .func (PySem.W.fnOf "_law_run" "_law_run" (defArgs s_u_law_run) (defBody s_u_law_run) (defScope s_u_law_run) .none kV23 dc23 pm23 an23 cd23 ct23), sl23⟩) (c23 : PySem.W.codeIn K cd23 "_law_run" = true) (k23 : PySem.W.keepIn K (.ref f23) = true)
    {f24 : Addr} {od24 an24 : Option Addr} {sl24 : Array (Option Value)} {oc24 kV24 dc24 pm24 cd24 ct24 : Value}
    (a24 : PySem.W.nsIn K mainGlobals "_law_worth" = some (some (.ref f24))) (l24 : K.lookup f24 = some ⟨oc24, od24, .func (PySem.W.fnOf "_law_worth" "_law_worth" (defArgs s_u_law_worth) (defBody s_u_law_worth) (defScope s_u_law_worth) .none kV24 dc24 pm24 an24 cd24 ct24), sl24⟩) (c24 : PySem.W.codeIn K cd24 "_law_worth" = true) (k24 : PySem.W.keepIn K (.ref f24) = true)
    {f25 : Addr} {od25 an25 : Option Addr} {sl25 : Array (Option Value)} {oc25 kV25 dc25 pm25 cd25 ct25 : Value}
    (a25 : PySem.W.nsIn K mainGlobals "_law_worths" = some (some (.ref f25))) (l25 : K.lookup f25 = some ⟨oc25, od25, .func (PySem.W.fnOf "_law_worths" "_law_worths" (defArgs s_u_law_worths) (defBody s_u_law_worths) (defScope s_u_law_worths) .none kV25 dc25 pm25 an25 cd25 ct25), sl25⟩) (c25 : PySem.W.codeIn K cd25 "_law_worths" = true) (k25 : PySem.W.keepIn K (.ref f25) = true)
    {f26 : Addr} {od26 an26 : Option Addr} {sl26 : Array (Option Value)} {oc26 kV26 dc26 pm26 cd26 ct26 : Value}
    (a26 : PySem.W.nsIn K mainGlobals "_law_points" = some (some (.ref f26))) (l26 : K.lookup f26 = some ⟨oc26, od26, .func (PySem.W.fnOf "_law_points" "_law_points" (defArgs s_u_law_points) (defBody s_u_law_points) (defScope s_u_law_points) .none kV26 dc26 pm26 an26 cd26 ct26), sl26⟩) (c26 : PySem.W.codeIn K cd26 "_law_points" = true) (k26 : PySem.W.keepIn K (.ref f26) = true)
    {f27 : Addr} {od27 an27 : Option Addr} {sl27 : Array (Option Value)} {oc27 kV27 dc27 pm27 cd27 ct27 : Value}
    (a27 : PySem.W.nsIn K mainGlobals "_law_two" = some (some (.ref f27))) (l27 : K.lookup f27 = some ⟨oc27, od27, .func (PySem.W.fnOf "_law_two" "_law_two" (defArgs s_u_law_two) (defBody s_u_law_two) (defScope s_u_law_two) .none kV27 dc27 pm27 an27 cd27 ct27), sl27⟩) (c27 : PySem.W.codeIn K cd27 "_law_two" = true) (k27 : PySem.W.keepIn K (.ref f27) = true)
    {f28 : Addr} {od28 an28 : Option Addr} {sl28 : Array (Option Value)} {oc28 kV28 dc28 pm28 cd28 ct28 : Value}
    (a28 : PySem.W.nsIn K mainGlobals "_law_bare" = some (some (.ref f28))) (l28 : K.lookup f28 = some ⟨oc28, od28, .func (PySem.W.fnOf "_law_bare" "_law_bare" (defArgs s_u_law_bare) (defBody s_u_law_bare) (defScope s_u_law_bare) .none kV28 dc28 pm28 an28 cd28 ct28), sl28⟩) (c28 : PySem.W.codeIn K cd28 "_law_bare" = true) (k28 : PySem.W.keepIn K (.ref f28) = true)
    {f29 : Addr} {od29 an29 : Option Addr} {sl29 : Array (Option Value)} {oc29 kV29 dc29 pm29 cd29 ct29 : Value}
    (a29 : PySem.W.nsIn K mainGlobals "_law_by_hand_right" = some (some (.ref f29))) (l29 : K.lookup f29 = some ⟨oc29, od29, .func (PySem.W.fnOf "_law_by_hand_right" "_law_by_hand_right" (defArgs s_u_law_by_hand_right) (defBody s_u_law_by_hand_right) (defScope s_u_law_by_hand_right) .none kV29 dc29 pm29 an29 cd29 ct29), sl29⟩) (c29 : PySem.W.codeIn K cd29 "_law_by_hand_right" = true) (k29 : PySem.W.keepIn K (.ref f29) = true)
    {f30 : Addr} {od30 an30 : Option Addr} {sl30 : Array (Option Value)} {oc30 kV30 dc30 pm30 cd30 ct30 : Value}
    (a30 : PySem.W.nsIn K mainGlobals "_law_right" = some (some (.ref f30))) (l30 : K.lookup f30 = some ⟨oc30, od30, .func (PySem.W.fnOf "_law_right" "_law_right" (defArgs s_u_law_right) (defBody s_u_law_right) (defScope s_u_law_right) .none kV30 dc30 pm30 an30 cd30 ct30), sl30⟩) (c30 : PySem.W.codeIn K cd30 "_law_right" = true) (k30 : PySem.W.keepIn K (.ref f30) = true)
    {f31 : Addr} {od31 an31 : Option Addr} {sl31 : Array (Option Value)} {oc31 kV31 dc31 pm31 cd31 ct31 : Value}
    (a31 : PySem.W.nsIn K mainGlobals "law" = some (some (.ref f31))) (l31 : K.lookup f31 = some ⟨oc31, od31, .func (PySem.W.fnOf "law" "law" (defArgs s_law) (defBody s_law) (defScope s_law) .none kV31 dc31 pm31 an31 cd31 ct31), sl31⟩) (c31 : PySem.W.codeIn K cd31 "law" = true) (k31 : PySem.W.keepIn K (.ref f31) = true)
    (z_abs : PySem.W.nsIn K mainGlobals "abs" = some none)
    (z_all : PySem.W.nsIn K mainGlobals "all" = some none)
    (z_bool : PySem.W.nsIn K mainGlobals "bool" = some none)
    (z_dict : PySem.W.nsIn K mainGlobals "dict" = some none)
    (z_enumerate : PySem.W.nsIn K mainGlobals "enumerate" = some none)
    (z_int : PySem.W.nsIn K mainGlobals "int" = some none)
    (z_isinstance : PySem.W.nsIn K mainGlobals "isinstance" = some none)
    (z_len : PySem.W.nsIn K mainGlobals "len" = some none)
    (z_list : PySem.W.nsIn K mainGlobals "list" = some none)
    (z_max : PySem.W.nsIn K mainGlobals "max" = some none)
    (z_min : PySem.W.nsIn K mainGlobals "min" = some none)
    (z_range : PySem.W.nsIn K mainGlobals "range" = some none)
    (z_str : PySem.W.nsIn K mainGlobals "str" = some none)
    (z_sum : PySem.W.nsIn K mainGlobals "sum" = some none)
    (z_tuple : PySem.W.nsIn K mainGlobals "tuple" = some none)
    (z_zip : PySem.W.nsIn K mainGlobals "zip" = some none)
    (main : ∀ ns : List Int, ns.length ≤ 63 → ∃ n S', (f_law n).run [.sq ns] [] = some (.pu (.bool true), S')) :
    ∃ fd : FuncData, (∀ (s : Shared) (v : Value), BindsTo s fd ⟨[v], []⟩ [("script", v)]) ∧ ∀ base : Heap, K.In base → base.Ns mainGlobals mg → FnOk l.prog w K mg base CX0 14 fa fd ["script"] (spTop K) := by
  have e := hfa.symm.trans (PySem.W.mg_of X G a31)
  cases e
  have F0 := fun_mk (st := s_greatest_quotient) l0 c0 k0
  have F1 := fun_mk (st := s_least_quotient) l1 c1 k1
  have F2 := fun_mk (st := s_u_most_of) l2 c2 k2
  have F3 := fun_mk (st := s_value) l3 c3 k3
  have F4 := fun_mk (st := s_remainder) l4 c4 k4
  have F5 := fun_mk (st := s_mirrored) l5 c5 k5
  have F6 := fun_mk (st := s_turned) l6 c6 k6
  have F7 := fun_mk (st := s_rounded_up) l7 c7 k7
  have F8 := fun_mk (st := s_upper_corners) l8 c8 k8
  have F9 := fun_mk (st := s_lower_corners) l9 c9 k9
  have F10 := fun_mk (st := s_u_upper_numbers) l10 c10 k10
  have F11 := fun_mk (st := s_u_nearing) l11 c11 k11
  have F12 := fun_mk (st := s_bare_multipliers) l12 c12 k12
  have F13 := fun_mk (st := s_least_bare_shift) l13 c13 k13
  have F14 := fun_mk (st := s_u_need_two) l14 c14 k14
  have F15 := fun_mk (st := s_u_starts_at_nought) l15 c15 k15
  have F16 := fun_mk (st := s_u_bare_sides) l16 c16 k16
  have F17 := fun_mk (st := s_u_tops_of_sides) l17 c17 k17
  have F18 := fun_mk (st := s_u_law_box) l18 c18 k18
  have F19 := fun_mk (st := s_u_law_take) l19 c19 k19
  have F20 := fun_mk (st := s_u_law_cells) l20 c20 k20
  have F21 := fun_mk (st := s_u_law_same) l21 c21 k21
  have F22 := fun_mk (st := s_u_law_rule) l22 c22 k22
  have F23 := fun_mk (st := s_u_law_run) l23 c23 k23
  have F24 := fun_mk (st := s_u_law_worth) l24 c24 k24
  have F25 := fun_mk (st := s_u_law_worths) l25 c25 k25
  have F26 := fun_mk (st := s_u_law_points) l26 c26 k26
  have F27 := fun_mk (st := s_u_law_two) l27 c27 k27
  have F28 := fun_mk (st := s_u_law_bare) l28 c28 k28
  have F29 := fun_mk (st := s_u_law_by_hand_right) l29 c29 k29
  have F30 := fun_mk (st := s_u_law_right) l30 c30 k30
  have F31 := fun_mk (st := s_law) l31 c31 k31
  have T : Txt K mg (fun i => [f0, f1, f2, f3, f4, f5, f6, f7, f8, f9, f10, f11, f12, f13, f14, f15, f16, f17, f18, f19, f20, f21, f22, f23, f24, f25, f26, f27, f28, f29, f30, fa].getD i 0) (fun i => [PySem.W.fnOf "greatest_quotient" "greatest_quotient" (defArgs s_greatest_quotient) (defBody s_greatest_quotient) (defScope s_greatest_quotient) .none kV0 dc0 pm0 an0 cd0 ct0, PySem.W.fnOf "least_quotient" "least_quotient" (defArgs s_least_quotient) (defBody s_least_quotient) (defScope s_least_quotient) .none kV1 dc1 pm1 an1 cd1 ct1, PySem.W.fnOf "_most_of" "_most_of" (defArgs s_u_most_of) (defBody s_u_most_of) (defScope s_u_most_of) .none kV2 dc2 pm2 an2 cd2 ct2, PySem.W.fnOf "value" "value" (defArgs s_value) (defBody s_value) (defScope s_value) .none kV3 dc3 pm3 an3 cd3 ct3, PySem.W.fnOf "remainder" "remainder" (defArgs s_remainder) (defBody s_remainder) (defScope s_remainder) .none kV4 dc4 pm4 an4 cd4 ct4, PySem.W.fnOf "mirrored" "mirrored" (defArgs s_mirrored) (defBody s_mirrored) (defScope s_mirrored) .none kV5 dc5 pm5 an5 cd5 ct5, PySem.W.fnOf "turned" "turned" (defArgs s_turned) (defBody s_turned) (defScope s_turned) .none kV6 dc6 pm6 an6 cd6 ct6, PySem.W.fnOf "rounded_up" "rounded_up" (defArgs s_rounded_up) (defBody s_rounded_up) (defScope s_rounded_up) .none kV7 dc7 pm7 an7 cd7 ct7, PySem.W.fnOf "upper_corners" "upper_corners" (defArgs s_upper_corners) (defBody s_upper_corners) (defScope s_upper_corners) .none kV8 dc8 pm8 an8 cd8 ct8, PySem.W.fnOf "lower_corners" "lower_corners" (defArgs s_lower_corners) (defBody s_lower_corners) (defScope s_lower_corners) .none kV9 dc9 pm9 an9 cd9 ct9, PySem.W.fnOf "_upper_numbers" "_upper_numbers" (defArgs s_u_upper_numbers) (defBody s_u_upper_numbers) (defScope s_u_upper_numbers) .none kV10 dc10 pm10 an10 cd10 ct10, PySem.W.fnOf "_nearing" "_nearing" (defArgs s_u_nearing) (defBody s_u_nearing) (defScope s_u_nearing) .none kV11 dc11 pm11 an11 cd11 ct11, PySem.W.fnOf "bare_multipliers" "bare_multipliers" (defArgs s_bare_multipliers) (defBody s_bare_multipliers) (defScope s_bare_multipliers) .none kV12 dc12 pm12 an12 cd12 ct12, PySem.W.fnOf "least_bare_shift" "least_bare_shift" (defArgs s_least_bare_shift) (defBody s_least_bare_shift) (defScope s_least_bare_shift) .none kV13 dc13 pm13 an13 cd13 ct13, PySem.W.fnOf "_need_two" "_need_two" (defArgs s_u_need_two) (defBody s_u_need_two) (defScope s_u_need_two) .none kV14 dc14 pm14 an14 cd14 ct14, PySem.W.fnOf "_starts_at_nought" "_starts_at_nought" (defArgs s_u_starts_at_nought) (defBody s_u_starts_at_nought) (defScope s_u_starts_at_nought) .none kV15 dc15 pm15 an15 cd15 ct15, PySem.W.fnOf "_bare_sides" "_bare_sides" (defArgs s_u_bare_sides) (defBody s_u_bare_sides) (defScope s_u_bare_sides) .none kV16 dc16 pm16 an16 cd16 ct16, PySem.W.fnOf "_tops_of_sides" "_tops_of_sides" (defArgs s_u_tops_of_sides) (defBody s_u_tops_of_sides) (defScope s_u_tops_of_sides) .none kV17 dc17 pm17 an17 cd17 ct17, PySem.W.fnOf "_law_box" "_law_box" (defArgs s_u_law_box) (defBody s_u_law_box) (defScope s_u_law_box) .none kV18 dc18 pm18 an18 cd18 ct18, PySem.W.fnOf "_law_take" "_law_take" (defArgs s_u_law_take) (defBody s_u_law_take) (defScope s_u_law_take) .none kV19 dc19 pm19 an19 cd19 ct19, PySem.W.fnOf "_law_cells" "_law_cells" (defArgs s_u_law_cells) (defBody s_u_law_cells) (defScope s_u_law_cells) .none kV20 dc20 pm20 an20 cd20 ct20, PySem.W.fnOf "_law_same" "_law_same" (defArgs s_u_law_same) (defBody s_u_law_same) (defScope s_u_law_same) .none kV21 dc21 pm21 an21 cd21 ct21, PySem.W.fnOf "_law_rule" "_law_rule" (defArgs s_u_law_rule) (defBody s_u_law_rule) (defScope s_u_law_rule) .none kV22 dc22 pm22 an22 cd22 ct22, PySem.W.fnOf "_law_run" "_law_run" (defArgs s_u_law_run) (defBody s_u_law_run) (defScope s_u_law_run) .none kV23 dc23 pm23 an23 cd23 ct23, PySem.W.fnOf "_law_worth" "_law_worth" (defArgs s_u_law_worth) (defBody s_u_law_worth) (defScope s_u_law_worth) .none kV24 dc24 pm24 an24 cd24 ct24, PySem.W.fnOf "_law_worths" "_law_worths" (defArgs s_u_law_worths) (defBody s_u_law_worths) (defScope s_u_law_worths) .none kV25 dc25 pm25 an25 cd25 ct25, PySem.W.fnOf "_law_points" "_law_points" (defArgs s_u_law_points) (defBody s_u_law_points) (defScope s_u_law_points) .none kV26 dc26 pm26 an26 cd26 ct26, PySem.W.fnOf "_law_two" "_law_two" (defArgs s_u_law_two) (defBody s_u_law_two) (defScope s_u_law_two) .none kV27 dc27 pm27 an27 cd27 ct27, PySem.W.fnOf "_law_bare" "_law_bare" (defArgs s_u_law_bare) (defBody s_u_law_bare) (defScope s_u_law_bare) .none kV28 dc28 pm28 an28 cd28 ct28, PySem.W.fnOf "_law_by_hand_right" "_law_by_hand_right" (defArgs s_u_law_by_hand_right) (defBody s_u_law_by_hand_right) (defScope s_u_law_by_hand_right) .none kV29 dc29 pm29 an29 cd29 ct29, PySem.W.fnOf "_law_right" "_law_right" (defArgs s_u_law_right) (defBody s_u_law_right) (defScope s_u_law_right) .none kV30 dc30 pm30 an30 cd30 ct30, PySem.W.fnOf "law" "law" (defArgs s_law) (defBody s_law) (defScope s_law) .none kV31 dc31 pm31 an31 cd31 ct31].getD i (PySem.W.fnOf "law" "law" (defArgs s_law) (defBody s_law) (defScope s_law) .none kV31 dc31 pm31 an31 cd31 ct31)) := ⟨
    (F0),
    (PySem.W.mg_of X G a0),
    (F0.binds (ps := ["found"]) fun _ _ _ _ _ _ us hl => match us, hl with | [_], _ => rfl),
    (F1),
    (PySem.W.mg_of X G a1),
    (F1.binds (ps := ["found"]) fun _ _ _ _ _ _ us hl => match us, hl with | [_], _ => rfl),
    (F2),
    (PySem.W.mg_of X G a2),
    (F2.binds (ps := ["found", "sign"]) fun _ _ _ _ _ _ us hl => match us, hl with | [_, _], _ => rfl),
    (F3),
    (PySem.W.mg_of X G a3),
    (F3.binds (ps := ["line", "n"]) fun _ _ _ _ _ _ us hl => match us, hl with | [_, _], _ => rfl),
    (F4),
    (PySem.W.mg_of X G a4),
    (F4.binds (ps := ["line", "n"]) fun _ _ _ _ _ _ us hl => match us, hl with | [_, _], _ => rfl),
    (F5),
    (PySem.W.mg_of X G a5),
    (F5.binds (ps := ["line"]) fun _ _ _ _ _ _ us hl => match us, hl with | [_], _ => rfl),
    (F6),
    (PySem.W.mg_of X G a6),
    (F6.binds (ps := ["line"]) fun _ _ _ _ _ _ us hl => match us, hl with | [_], _ => rfl),
    (F7),
    (PySem.W.mg_of X G a7),
    (F7.binds (ps := ["a", "b", "d"]) fun _ _ _ _ _ _ us hl => match us, hl with | [_, _, _], _ => rfl),
    (F8),
    (PySem.W.mg_of X G a8),
    (F8.binds (ps := ["line", "stretch"]) fun _ _ _ _ _ _ us hl => match us, hl with | [_, _], _ => rfl),
    (F9),
    (PySem.W.mg_of X G a9),
    (F9.binds (ps := ["line", "stretch"]) fun _ _ _ _ _ _ us hl => match us, hl with | [_, _], _ => rfl),
    (F10),
    (PySem.W.mg_of X G a10),
    (F10.binds (ps := ["line", "stretch"]) fun _ _ _ _ _ _ us hl => match us, hl with | [_, _], _ => rfl),
    (F11),
    (PySem.W.mg_of X G a11),
    (F11.binds (ps := ["a", "d", "rest", "room"]) fun _ _ _ _ _ _ us hl => match us, hl with | [_, _, _, _], _ => rfl),
    (F12),
    (PySem.W.mg_of X G a12),
    (F12.binds (ps := ["line", "stretch", "shift"]) fun _ _ _ _ _ _ us hl => match us, hl with | [_, _, _], _ => rfl),
    (F13),
    (PySem.W.mg_of X G a13),
    (F13.binds (ps := ["line", "stretch"]) fun _ _ _ _ _ _ us hl => match us, hl with | [_, _], _ => rfl),
    (F14),
    (PySem.W.mg_of X G a14),
    (F14.binds (ps := ["stretch"]) fun _ _ _ _ _ _ us hl => match us, hl with | [_], _ => rfl),
    (F15),
    (PySem.W.mg_of X G a15),
    (F15.binds (ps := ["line", "stretch"]) fun _ _ _ _ _ _ us hl => match us, hl with | [_, _], _ => rfl),
    (F16),
    (PySem.W.mg_of X G a16),
    (F16.binds (ps := ["line", "stretch"]) fun _ _ _ _ _ _ us hl => match us, hl with | [_, _], _ => rfl),
    (F17),
    (PySem.W.mg_of X G a17),
    (F17.binds (ps := ["sides", "bottom"]) fun _ _ _ _ _ _ us hl => match us, hl with | [_, _], _ => rfl),
    (F18),
    (PySem.W.mg_of X G a18),
    (F18.binds (ps := ["script", "k"]) fun _ _ _ _ _ _ us hl => match us, hl with | [_, _], _ => rfl),
    (F19),
    (PySem.W.mg_of X G a19),
    (F19.binds (ps := ["box", "top_so"]) fun _ _ _ _ _ _ us hl => match us, hl with | [_, _], _ => rfl),
    (F20),
    (PySem.W.mg_of X G a20),
    (F20.binds (ps := ["script", "most"]) fun _ _ _ _ _ _ us hl => match us, hl with | [_, _], _ => rfl),
    (F21),
    (PySem.W.mg_of X G a21),
    (F21.binds (ps := ["got", "due"]) fun _ _ _ _ _ _ us hl => match us, hl with | [_, _], _ => rfl),
    (F22),
    (PySem.W.mg_of X G a22),
    (F22.binds (ps := ["box", "wide_so"]) fun _ _ _ _ _ _ us hl => match us, hl with | [_, _], _ => rfl),
    (F23),
    (PySem.W.mg_of X G a23),
    (F23.binds (ps := ["box", "most", "wide_so"]) fun _ _ _ _ _ _ us hl => match us, hl with | [_, _, _], _ => rfl),
    (F24),
    (PySem.W.mg_of X G a24),
    (F24.binds (ps := ["rule", "spot"]) fun _ _ _ _ _ _ us hl => match us, hl with | [_, _], _ => rfl),
    (F25),
    (PySem.W.mg_of X G a25),
    (F25.binds (ps := ["rule", "run"]) fun _ _ _ _ _ _ us hl => match us, hl with | [_, _], _ => rfl),
    (F26),
    (PySem.W.mg_of X G a26),
    (F26.binds (ps := ["rule", "run"]) fun _ _ _ _ _ _ us hl => match us, hl with | [_, _], _ => rfl),
    (F27),
    (PySem.W.mg_of X G a27),
    (F27.binds (ps := ["many_so"]) fun _ _ _ _ _ _ us hl => match us, hl with | [_], _ => rfl),
    (F28),
    (PySem.W.mg_of X G a28),
    (F28.binds (ps := ["rule", "run", "big"]) fun _ _ _ _ _ _ us hl => match us, hl with | [_, _, _], _ => rfl),
    (F29),
    (PySem.W.mg_of X G a29),
    (F29.binds (ps := []) fun _ _ _ _ _ _ us hl => match us, hl with | [], _ => rfl),
    (F30),
    (PySem.W.mg_of X G a30),
    (F30.binds (ps := ["box"]) fun _ _ _ _ _ _ us hl => match us, hl with | [_], _ => rfl),
    (F31),
    (PySem.W.mg_of X G a31),
    (F31.binds (ps := ["script"]) fun _ _ _ _ _ _ us hl => match us, hl with | [_], _ => rfl),
    (PySem.W.mg_none_of X G z_abs),
    (PySem.W.mg_none_of X G z_all),
    (PySem.W.mg_none_of X G z_bool),
    (PySem.W.mg_none_of X G z_dict),
    (PySem.W.mg_none_of X G z_enumerate),
    (PySem.W.mg_none_of X G z_int),
    (PySem.W.mg_none_of X G z_isinstance),
    (PySem.W.mg_none_of X G z_len),
    (PySem.W.mg_none_of X G z_list),
    (PySem.W.mg_none_of X G z_max),
    (PySem.W.mg_none_of X G z_min),
    (PySem.W.mg_none_of X G z_range),
    (PySem.W.mg_none_of X G z_str),
    (PySem.W.mg_none_of X G z_sum),
    (PySem.W.mg_none_of X G z_tuple),
    (PySem.W.mg_none_of X G z_zip)⟩
  exact ⟨_, fun s v => .of_eq rfl, fun base _ _ => top_ok (fun n => ok_law T n) main⟩
theorem walk {l : PySem.W.OpenLaw} {q : Program} {loose : List Str} {XP : (Str → Option Value) → Heap → Prop} {YP : World → Heap → Prop} {d : DefRec} {K : Params → PySem.W.Frag} (hn : l.most = some 63) (hdf : d.params.defaults = [])
    (hY : ∀ (w : World) (h : Heap), YP w h → (K w.params).In h)
    (F : ∀ (w : World) (mg : Str → Option Value) (fa : Addr) (h : Heap), (K w.params).In h → h.Ns mainGlobals mg → mg d.name = some (.ref fa) →
      ∃ fd : FuncData, (∀ (s : Shared) (u : Value), BindsTo s fd ⟨[u], []⟩ [("script", u)]) ∧ ∀ base : Heap, (K w.params).In base → base.Ns mainGlobals mg → FnOk l.prog w (K w.params) mg base CX0 14 fa fd ["script"] (spTop (K w.params))) :
    PySem.W.WalkO q loose XP YP l.row.toRowW d [] (fun f vs => PySem.call f vs) :=
  L2.walk_of (n := 63) (k := 14) (x := "script") (CX := fun _ => CX0) (sp := fun w => spTop (K w.params)) hn (by decide) hdf ⟨rfl, by decide, by decide⟩ hY F (fun _ _ a ns hl _ hS => ⟨a, ns, rfl, hS, hl, fun _ => rfl⟩) fun _ _ _ _ _ z => z
end My

/-! The steepest ways under a straight line, one behind another: the mathematics of the search from one end. -/
namespace M
theorem mul_le_l {c x y : Int} (hc : 0 ≤ c) (h : x ≤ y) : c * x ≤ c * y := Int.mul_le_mul_of_nonneg_left h hc
theorem mul_le_r {c x y : Int} (hc : 0 ≤ c) (h : x ≤ y) : x * c ≤ y * c := Int.mul_le_mul_of_nonneg_right h hc
/-- the state of the search: a step up that takes loss, a step down that adds gain, and what is left -/
structure NI (a d R rest up loss down gain : Int) : Prop where
  up1 : 1 ≤ up
  dn1 : 1 ≤ down
  ls : 1 ≤ loss
  gn : 0 ≤ gain
  rs : 0 ≤ rest
  R0 : 0 ≤ R
  ex : ∃ ku kd : Int, ku * down - kd * up = 1 ∧ loss = d * ku - a * up ∧ gain = a * down - d * kd
  S : ∀ x y : Int, y < 0 → 1 ≤ x * up + y * down → x * up + y * down ≤ R → rest - x * loss + y * gain < 0
theorem NI.det {a d R rest up loss down gain : Int} (h : NI a d R rest up loss down gain) : up * gain + down * loss = d := by
  obtain ⟨ku, kd, h1, h2, h3⟩ := h.ex
  rw [h2, h3, Int.mul_sub, Int.mul_sub]
  have e1 : up * (a * down) = down * (a * up) := by rw [Int.mul_left_comm, Int.mul_left_comm down, Int.mul_comm up down]
  have e2 : up * (d * kd) = d * (kd * up) := by rw [Int.mul_left_comm, Int.mul_comm up kd]
  have e3 : down * (d * ku) = d * (ku * down) := by rw [Int.mul_left_comm, Int.mul_comm down ku]
  have e4 : d * (ku * down - kd * up) = d := by rw [h1, Int.mul_one]
  rw [Int.mul_sub] at e4
  omega
/-- each way is made of both steps -/
theorem NI.vec {a d R rest up loss down gain : Int} (h : NI a d R rest up loss down gain) (t k : Int) : ∃ x y : Int, t = x * up + y * down ∧ a * t - d * k = y * gain - x * loss := by
  obtain ⟨ku, kd, h1, h2, h3⟩ := h.ex
  refine ⟨k * down - t * kd, t * ku - k * up, ?_, ?_⟩
  · have e4 : t * (ku * down - kd * up) = t := by rw [h1, Int.mul_one]
    rw [Int.mul_sub] at e4
    rw [Int.sub_mul, Int.sub_mul]
    have e1 : k * down * up = k * up * down := Int.mul_right_comm _ _ _
    have e2 : t * kd * up = t * (kd * up) := Int.mul_assoc _ _ _
    have e3 : t * ku * down = t * (ku * down) := Int.mul_assoc _ _ _
    omega
  · have e4 : (a * t - d * k) * (ku * down - kd * up) = a * t - d * k := by rw [h1, Int.mul_one]
    rw [h2, h3]
    rw [← e4]
    simp only [Int.mul_sub, Int.sub_mul]
    have f1 : t * ku * (a * down) = a * t * (ku * down) := by rw [Int.mul_comm a t, Int.mul_assoc, Int.mul_assoc, Int.mul_left_comm ku]
    have f2 : t * ku * (d * kd) = t * kd * (d * ku) := by rw [Int.mul_assoc, Int.mul_assoc, Int.mul_left_comm ku, Int.mul_left_comm kd, Int.mul_comm ku kd]
    have f3 : k * up * (a * down) = k * down * (a * up) := by rw [Int.mul_assoc, Int.mul_assoc, Int.mul_left_comm up, Int.mul_left_comm down, Int.mul_comm up down]
    have f4 : k * up * (d * kd) = d * k * (kd * up) := by rw [Int.mul_comm d k, Int.mul_assoc, Int.mul_assoc, Int.mul_left_comm up, Int.mul_comm up kd]
    have f5 : k * down * (d * ku) = d * k * (ku * down) := by rw [Int.mul_comm d k, Int.mul_assoc, Int.mul_assoc, Int.mul_left_comm down, Int.mul_comm down ku]
    have f6 : t * kd * (a * up) = a * t * (kd * up) := by rw [Int.mul_comm a t, Int.mul_assoc, Int.mul_assoc, Int.mul_left_comm kd]
    omega
theorem NI.start {a d R rest : Int} (hd : 0 < d) (hR : 0 ≤ R) (h0 : 0 ≤ rest) (h1 : rest < d) : NI a d R rest 1 (d - a % d) 1 (a % d) := by
  have g0 := Int.emod_nonneg a (show d ≠ 0 by omega)
  have g1 := Int.emod_lt_of_pos a hd
  have e := Int.emod_def a d
  refine ⟨Int.le_refl 1, Int.le_refl 1, by omega, g0, h0, hR, ⟨a / d + 1, a / d, by omega, by rw [Int.mul_add]; omega, by omega⟩, fun x y hy t1 _ => ?_⟩
  generalize a % d = g at *
  have hx : (1 - y) * (d - g) ≤ x * (d - g) := mul_le_r (by omega) (by omega)
  have hy2 : y * d ≤ (-1) * d := mul_le_r (by omega) (by omega)
  have : (1 - y) * (d - g) = (d - g) - y * d + y * g := by rw [Int.sub_mul, Int.one_mul, Int.mul_sub]; omega
  omega
/-- what can be gone to: t numbers on, k up, not above the line -/
def Fz (a d R rest t k : Int) : Prop := 1 ≤ t ∧ t ≤ R ∧ 0 ≤ rest + (a * t - d * k)
/-- no more can be gone down in remainder -/
def Done (a d R rest : Int) : Prop := ∀ t k, Fz a d R rest t k → 0 ≤ a * t - d * k
theorem NI.less {a d R rest R' rest' up loss down gain : Int} (h : NI a d R rest up loss down gain) (h1 : R' ≤ R) (h2 : rest' ≤ rest) (h3 : 0 ≤ R') (h4 : 0 ≤ rest') : NI a d R' rest' up loss down gain :=
  ⟨h.up1, h.dn1, h.ls, h.gn, h4, h3, h.ex, fun x y hy t1 t2 => by have := h.S x y hy t1 (by omega); omega⟩
theorem min_div {R up rest loss : Int} (hu : 1 ≤ up) (hl : 1 ≤ loss) (hR : 0 ≤ R) (hr : 0 ≤ rest) :
    let n := min (R / up) (rest / loss); 0 ≤ n ∧ n * up ≤ R ∧ n * loss ≤ rest ∧ (R < (n + 1) * up ∨ rest < (n + 1) * loss) := by
  intro n
  have a1 : R / up * up ≤ R := Int.ediv_mul_le _ (by omega)
  have a2 : rest / loss * loss ≤ rest := Int.ediv_mul_le _ (by omega)
  have b1 : R < (R / up + 1) * up := Int.lt_ediv_add_one_mul_self _ (by omega)
  have b2 : rest < (rest / loss + 1) * loss := Int.lt_ediv_add_one_mul_self _ (by omega)
  have c1 : 0 ≤ R / up := Int.ediv_nonneg hR (by omega)
  have c2 : 0 ≤ rest / loss := Int.ediv_nonneg hr (by omega)
  have n1 : n ≤ R / up := Int.min_le_left _ _
  have n2 : n ≤ rest / loss := Int.min_le_right _ _
  refine ⟨by omega, Int.le_trans (mul_le_r (by omega) n1) a1, Int.le_trans (mul_le_r (by omega) n2) a2, ?_⟩
  by_cases h : R / up ≤ rest / loss
  · have : n = R / up := Int.min_eq_left h
    rw [this]
    exact .inl b1
  · have : n = rest / loss := Int.min_eq_right (by omega)
    rw [this]
    exact .inr b2
/-- the way by so many steps up is the steepest one, and the farthest of these -/
theorem NI.edge {a d R rest up loss down gain n : Int} (h : NI a d R rest up loss down gain) (hm : R < (n + 1) * up ∨ rest < (n + 1) * loss) {t k : Int} (f : Fz a d R rest t k) :
    -(a * t - d * k) * up ≤ loss * t ∧ (n * up < t → -(a * t - d * k) * up < loss * t) := by
  obtain ⟨t1, t2, t3⟩ := f
  have hu := h.up1
  have hl := h.ls
  obtain ⟨x, y, e1, e2⟩ := h.vec t k
  have hy : 0 ≤ y := by
    apply Int.not_lt.mp
    intro hy
    have := h.S x y hy (by omega) (by omega)
    omega
  have hd := h.det
  have key : -(a * t - d * k) * up = loss * t - y * d := by
    rw [e2, ← hd, e1]
    simp only [Int.mul_add, Int.neg_mul, Int.sub_mul]
    have g1 : y * gain * up = y * (up * gain) := by rw [Int.mul_assoc, Int.mul_comm gain]
    have g2 : x * loss * up = loss * (x * up) := by rw [Int.mul_comm x loss, Int.mul_assoc]
    have g3 : y * (down * loss) = loss * (y * down) := by rw [Int.mul_left_comm loss, Int.mul_comm loss down]
    omega
  have hd0 : 0 < d := by
    have := Int.mul_pos (show 0 < down by have := h.dn1; omega) (show 0 < loss by omega)
    have := Int.mul_nonneg (show 0 ≤ up by omega) h.gn
    omega
  rw [key]
  refine ⟨by have := Int.mul_nonneg hy (Int.le_of_lt hd0); omega, fun ht => ?_⟩
  by_cases h0 : y = 0
  · exfalso
    subst h0
    rw [Int.zero_mul, Int.add_zero] at e1
    rw [Int.zero_mul] at e2
    have hx : n + 1 ≤ x := by
      apply Int.not_lt.mp
      intro hx
      have : x * up ≤ n * up := mul_le_r (by omega) (by omega)
      omega
    have m1 : (n + 1) * up ≤ x * up := mul_le_r (by omega) hx
    have m2 : (n + 1) * loss ≤ x * loss := mul_le_r (by omega) hx
    omega
  · have := Int.mul_pos (show 0 < y by omega) hd0
    omega
/-- neither a step up any more: nothing goes down in remainder if there is no room for both steps -/
theorem NI.done1 {a d R rest up loss down gain : Int} (h : NI a d R rest up loss down gain) (hT : R < up ∨ rest < loss) (he : gain = 0 ∨ R < up + down) : Done a d R rest := by
  rintro t k ⟨t1, t2, t3⟩
  apply Int.not_lt.mp
  intro hs
  have hu := h.up1
  have hl := h.ls
  have hdn := h.dn1
  obtain ⟨x, y, e1, e2⟩ := h.vec t k
  have hy : 0 ≤ y := by
    apply Int.not_lt.mp
    intro hy
    have := h.S x y hy (by omega) (by omega)
    omega
  have hyg := Int.mul_nonneg hy h.gn
  have hx : 1 ≤ x := by
    apply Int.not_lt.mp
    intro hx
    have : x * loss ≤ 0 * loss := mul_le_r (by omega) (by omega)
    omega
  have x1 : 1 * up ≤ x * up := mul_le_r (by omega) hx
  have x2 : 1 * loss ≤ x * loss := mul_le_r (by omega) hx
  have yd := Int.mul_nonneg hy (show 0 ≤ down by omega)
  by_cases h0 : y = 0
  · subst h0
    rw [Int.zero_mul] at e1 e2
    omega
  · have y1 : 1 * down ≤ y * down := mul_le_r (by omega) (by omega)
    rcases he with rfl | he
    · rw [Int.mul_zero] at e2
      omega
    · omega
/-- the first half of a turn: as many steps down put into the step up as keep it too much -/
theorem NI.half {a d R rest up loss down gain n : Int} (h : NI a d R rest up loss down gain) (hg : 1 ≤ gain) (hl : rest < loss) (hn : n = (loss - rest - 1) / gain) :
    NI a d R rest (up + n * down) (loss - n * gain) down gain ∧ rest < loss - n * gain ∧ loss - n * gain ≤ rest + gain := by
  have a1 : n * gain ≤ loss - rest - 1 := by rw [hn]; exact Int.ediv_mul_le _ (by omega)
  have a2 : loss - rest - 1 < (n + 1) * gain := by rw [hn]; exact Int.lt_ediv_add_one_mul_self _ (by omega)
  have n0 : 0 ≤ n := by rw [hn]; exact Int.ediv_nonneg (by omega) (by omega)
  have a3 : (n + 1) * gain = n * gain + gain := by rw [Int.add_mul, Int.one_mul]
  have hdn := h.dn1
  have nd := Int.mul_nonneg n0 (show 0 ≤ down by omega)
  have hu := h.up1
  have hr := h.rs
  refine ⟨⟨by omega, hdn, by omega, h.gn, h.rs, h.R0, ?_, fun x y hy t1 t2 => ?_⟩, by omega, by omega⟩
  · obtain ⟨ku, kd, h1, h2, h3⟩ := h.ex
    refine ⟨ku + n * kd, kd, ?_, ?_, h3⟩
    · rw [Int.add_mul, Int.mul_add]
      have : n * kd * down = kd * (n * down) := by rw [Int.mul_comm n kd, Int.mul_assoc]
      omega
    · rw [h2, h3, Int.mul_add, Int.mul_add, Int.mul_sub]
      have e1 : n * (a * down) = a * (n * down) := Int.mul_left_comm _ _ _
      have e2 : n * (d * kd) = d * (n * kd) := Int.mul_left_comm _ _ _
      omega
  · have e1 : x * (up + n * down) + y * down = x * up + (x * n + y) * down := by rw [Int.mul_add, Int.add_mul, Int.mul_assoc]; omega
    have e2 : rest - x * (loss - n * gain) + y * gain = rest - x * loss + (x * n + y) * gain := by rw [Int.mul_sub, Int.add_mul, Int.mul_assoc]; omega
    by_cases hc : x * n + y < 0
    · rw [e2]
      exact h.S x (x * n + y) hc (by omega) (by omega)
    · have hx : 1 ≤ x := by
        apply Int.not_lt.mp
        intro hx
        have : x * n ≤ 0 * n := mul_le_r n0 (by omega)
        omega
      have x2 : 1 * (loss - n * gain) ≤ x * (loss - n * gain) := mul_le_r (by omega) hx
      have y2 : y * gain ≤ 0 * gain := mul_le_r (by omega) (by omega)
      omega
theorem NI.done2 {a d R rest up loss down gain : Int} (h : NI a d R rest up loss down gain) (hl : rest < loss) (he : R < up + down) : Done a d R rest := h.done1 (.inr hl) (.inr he)
/-- the second half: the step down takes as many steps up as can be but one; then one step more is put into that which is the lesser -/
theorem NI.next {a d R rest up loss down gain n : Int} (h : NI a d R rest up loss down gain) (hl : rest < loss) (hg : loss ≤ rest + gain) (he : up + down ≤ R) (hn : n = min ((rest + gain) / loss) ((R - down) / up) - 1) :
    0 ≤ n ∧ 1 ≤ gain - n * loss ∧
    (gain - n * loss < loss → NI a d R rest (up + (down + n * up)) (loss - (gain - n * loss)) (down + n * up) (gain - n * loss)) ∧
    (loss ≤ gain - n * loss → NI a d R rest up loss (down + n * up + up) (gain - n * loss - loss)) := by
  have hu := h.up1
  have hdn := h.dn1
  have hls := h.ls
  have hr := h.rs
  have hgn := h.gn
  obtain ⟨m0, m1, m2, m3⟩ := min_div (R := R - down) (up := up) (rest := rest + gain) (loss := loss) hu hls (by omega) (by omega)
  have hK : min ((R - down) / up) ((rest + gain) / loss) = n + 1 := by
    rw [Int.min_comm]
    omega
  rw [hK] at m0 m1 m2 m3
  have n0 : 0 ≤ n := by
    have a1 : 1 ≤ (rest + gain) / loss := (Int.le_ediv_iff_mul_le (by omega)).mpr (by omega)
    have a2 : 1 ≤ (R - down) / up := (Int.le_ediv_iff_mul_le (by omega)).mpr (by omega)
    have : 1 ≤ min ((rest + gain) / loss) ((R - down) / up) := Int.le_min.mpr ⟨a1, a2⟩
    omega
  have e1 : (n + 1) * loss = n * loss + loss := by rw [Int.add_mul, Int.one_mul]
  have e2 : (n + 1) * up = n * up + up := by rw [Int.add_mul, Int.one_mul]
  have e3 : (n + 1 + 1) * loss = n * loss + loss + loss := by rw [Int.add_mul, Int.one_mul, e1]
  have e4 : (n + 1 + 1) * up = n * up + up + up := by rw [Int.add_mul, Int.one_mul, e2]
  have nu := Int.mul_nonneg n0 (show 0 ≤ up by omega)
  have nl := Int.mul_nonneg n0 (show 0 ≤ loss by omega)
  have g3 : 1 ≤ gain - n * loss := by omega
  obtain ⟨ku, kd, h1, h2, h3⟩ := h.ex
  have d1 : ku * (down + n * up) - (kd + n * ku) * up = 1 := by
    rw [Int.mul_add, Int.add_mul]
    have : ku * (n * up) = n * ku * up := by rw [Int.mul_left_comm, Int.mul_assoc]
    omega
  have d3 : gain - n * loss = a * (down + n * up) - d * (kd + n * ku) := by
    rw [h2, h3, Int.mul_add, Int.mul_add, Int.mul_sub]
    have q1 : n * (d * ku) = d * (n * ku) := Int.mul_left_comm _ _ _
    have q2 : n * (a * up) = a * (n * up) := Int.mul_left_comm _ _ _
    omega
  refine ⟨n0, g3, fun hc => ?_, fun hc => ?_⟩
  · refine ⟨by omega, by omega, by omega, by omega, hr, h.R0, ⟨ku + (kd + n * ku), kd + n * ku, ?_, ?_, d3⟩, fun x y hy t1 t2 => ?_⟩
    · generalize kd + n * ku = KD at d1 ⊢
      generalize down + n * up = DN at d1 ⊢
      rw [Int.add_mul, Int.mul_add]
      omega
    · rw [d3, h2]
      generalize kd + n * ku = KD
      generalize down + n * up = DN
      rw [Int.mul_add, Int.mul_add]
      omega
    · have q1 : x * (up + (down + n * up)) + y * (down + n * up) = (x + (x + y) * n) * up + (x + y) * down := by
        simp only [Int.mul_add, Int.add_mul, Int.mul_assoc]
        omega
      have q2 : rest - x * (loss - (gain - n * loss)) + y * (gain - n * loss) = rest - (x + (x + y) * n) * loss + (x + y) * gain := by
        simp only [Int.mul_sub, Int.add_mul, Int.mul_assoc]
        omega
      rw [q1] at t1 t2
      rw [q2]
      by_cases c1 : x + y < 0
      · exact h.S _ _ c1 t1 t2
      · have x1 : 1 ≤ x := by omega
        by_cases c2 : x + y = 0
        · rw [c2, Int.zero_mul, Int.add_zero, Int.zero_mul]
          have := mul_le_r (c := loss) (by omega) x1
          omega
        · -- y' = x + y from 1, X from y' K + 1
          generalize hw : x + y = w at *
          have w1 : 1 ≤ w := by omega
          rcases m3 with m3 | m3
          · exfalso
            have p1 : (w + 1 + w * n) * up ≤ (x + w * n) * up := mul_le_r (by omega) (by omega)
            have p2 : (w + 1 + w * n) * up + w * down = w * (down + (n + 1) * up) + up := by
              simp only [Int.mul_add, Int.add_mul, Int.mul_assoc, Int.one_mul]
              omega
            have p3 : 1 * (down + (n + 1) * up) ≤ w * (down + (n + 1) * up) := mul_le_r (by omega) w1
            omega
          · have p1 : (w + 1 + w * n) * loss ≤ (x + w * n) * loss := mul_le_r (by omega) (by omega)
            have p2 : (w + 1 + w * n) * loss - w * gain = w * ((n + 1) * loss - gain) + loss := by
              simp only [Int.mul_add, Int.mul_sub, Int.add_mul, Int.mul_assoc, Int.one_mul]
              omega
            have p3 : 1 * ((n + 1) * loss - gain) ≤ w * ((n + 1) * loss - gain) := mul_le_r (by omega) w1
            omega
  · refine ⟨hu, by omega, hls, by omega, hr, h.R0, ⟨ku, kd + n * ku + ku, ?_, h2, ?_⟩, fun x y hy t1 t2 => ?_⟩
    · generalize kd + n * ku = KD at d1 ⊢
      generalize down + n * up = DN at d1 ⊢
      rw [Int.mul_add, Int.add_mul]
      omega
    · rw [d3, h2]
      generalize kd + n * ku = KD
      generalize down + n * up = DN
      rw [Int.mul_add, Int.mul_add]
      omega
    · have q1 : x * up + y * (down + n * up + up) = (x + y * (n + 1)) * up + y * down := by
        simp only [Int.mul_add, Int.add_mul, Int.mul_assoc, Int.mul_one]
        omega
      have q2 : rest - x * loss + y * (gain - n * loss - loss) = rest - (x + y * (n + 1)) * loss + y * gain := by
        simp only [Int.mul_sub, Int.mul_add, Int.add_mul, Int.mul_assoc, Int.mul_one]
        omega
      rw [q1] at t1 t2
      rw [q2]
      exact h.S _ _ hy t1 t2
end M

/-! The corners of the hull from above, as a chain of steepest and farthest ways: the mathematics. -/
namespace M
/-- above 0 if the point at m is above the way from l to r, for m behind l -/
def cross (f : Int → Int) (l r m : Int) : Int := (f m - f l) * (r - l) - (f r - f l) * (m - l)
/-- r is the farthest end of the steepest way from l, to e at most -/
structure Step (f : Int → Int) (e l r : Int) : Prop where
  lt : l < r
  le : r ≤ e
  un : ∀ m, l < m → m ≤ e → cross f l r m ≤ 0
  st : ∀ m, r < m → m ≤ e → cross f l r m < 0
/-- a chain of such ways to the end e; its first point apart -/
inductive Chain (f : Int → Int) (e : Int) : Int → List Int → Prop
  | last : Chain f e e []
  | cons {l r : Int} {L : List Int} : Step f e l r → Chain f e r L → Chain f e l (r :: L)
theorem cross_swap (f : Int → Int) (l r m : Int) : cross f l m r = -cross f l r m := by
  unfold cross
  rw [Int.neg_sub, Int.mul_comm (f m - f l), Int.mul_comm (f r - f l)]
theorem Chain.le {f : Int → Int} {e l : Int} {L : List Int} (h : Chain f e l L) : l ≤ e := by
  induction h with
  | last => exact Int.le_refl _
  | cons s _ ih => have := s.lt; omega
theorem Step.uniq {f : Int → Int} {e l r r' : Int} (h : Step f e l r) (k : Step f e l r') : r = r' := by
  rcases Int.lt_trichotomy r r' with c | c | c
  · have h1 := h.st r' c k.le
    have h2 := k.un r h.lt h.le
    rw [cross_swap] at h2
    omega
  · exact c
  · have h1 := k.st r c h.le
    have h2 := h.un r' k.lt k.le
    rw [cross_swap] at h2
    omega
theorem Chain.uniq {f : Int → Int} {e l : Int} : ∀ {L L' : List Int}, Chain f e l L → Chain f e l L' → L = L'
  | _, _, .last, .last => rfl
  | _, _, .last, .cons s _ => by have := s.lt; have := s.le; omega
  | _, _, .cons s _, .last => by have := s.lt; have := s.le; omega
  | _, _, .cons s h, .cons s' h' => by
    have e := s.uniq s'
    subst e
    rw [Chain.uniq h h']
/-! ### a way that bends down -/
theorem mul_lt_l {c x y : Int} (hc : 0 < c) (h : x < y) : c * x < c * y := Int.mul_lt_mul_of_pos_left h hc
theorem lt_of_mul {c x y : Int} (hc : 0 < c) (h : c * x < c * y) : x < y := Int.lt_of_mul_lt_mul_left h (Int.le_of_lt hc)
/-- what is on or under the next way is under this one -/
theorem bend {f : Int → Int} {l r q m : Int} (h1 : l < r) (h2 : r < q) (h3 : r < m) (b : cross f l r q < 0) (c : cross f r q m ≤ 0) : cross f l r m < 0 := by
  unfold cross at *
  -- slopes: (f q - f r) (r - l) < (f r - f l) (q - r)
  have b' : (f q - f r) * (r - l) < (f r - f l) * (q - r) := by
    have e1 : (f q - f l) * (r - l) = (f q - f r) * (r - l) + (f r - f l) * (r - l) := by rw [← Int.add_mul]; congr 1; omega
    have e2 : (f r - f l) * (q - l) = (f r - f l) * (q - r) + (f r - f l) * (r - l) := by rw [← Int.mul_add]; congr 1; omega
    omega
  -- (f m - f r) (r - l) < (f r - f l) (m - r)
  have key : (f m - f r) * (r - l) < (f r - f l) * (m - r) := by
    apply lt_of_mul (c := q - r) (by omega)
    have t1 : (r - l) * ((f m - f r) * (q - r)) ≤ (r - l) * ((f q - f r) * (m - r)) := mul_le_l (by omega) (by omega)
    have t2 : (m - r) * ((f q - f r) * (r - l)) < (m - r) * ((f r - f l) * (q - r)) := mul_lt_l (by omega) b'
    have g1 : (q - r) * ((f m - f r) * (r - l)) = (r - l) * ((f m - f r) * (q - r)) := by rw [Int.mul_left_comm, Int.mul_comm (q - r), Int.mul_left_comm]
    have g2 : (r - l) * ((f q - f r) * (m - r)) = (m - r) * ((f q - f r) * (r - l)) := by rw [Int.mul_left_comm, Int.mul_comm (r - l), Int.mul_left_comm]
    have g3 : (q - r) * ((f r - f l) * (m - r)) = (m - r) * ((f r - f l) * (q - r)) := by rw [Int.mul_left_comm, Int.mul_comm (q - r), Int.mul_left_comm]
    omega
  have e1 : (f m - f l) * (r - l) = (f m - f r) * (r - l) + (f r - f l) * (r - l) := by rw [← Int.add_mul]; congr 1; omega
  have e2 : (f r - f l) * (m - l) = (f r - f l) * (m - r) + (f r - f l) * (r - l) := by rw [← Int.mul_add]; congr 1; omega
  omega
/-- a way put ahead of a chain: it has to be steepest up to its end, and to bend down there -/
theorem Step.ahead {f : Int → Int} {e l r q : Int} (h1 : l < r) (hu : ∀ m, l < m → m ≤ r → cross f l r m ≤ 0) (s : Step f e r q) (b : cross f l r q < 0) : Step f e l r := by
  have hs : ∀ m, r < m → m ≤ e → cross f l r m < 0 := fun m hm he => bend h1 s.lt hm b (s.un m hm he)
  refine ⟨h1, by have := s.lt; have := s.le; omega, fun m hm he => ?_, hs⟩
  by_cases c : m ≤ r
  · exact hu m hm c
  · exact Int.le_of_lt (hs m (by omega) he)
/-! ### what the chain tells of all points -/
/-- each point is a corner, or between two neighbouring ones -/
theorem Chain.cover {f : Int → Int} {e l : Int} {L : List Int} (h : Chain f e l L) : ∀ m, l ≤ m → m ≤ e → m ∈ l :: L ∨ ∃ x y, x ∈ l :: L ∧ y ∈ l :: L ∧ x < m ∧ m < y ∧ cross f x y m ≤ 0 := by
  induction h with
  | last => intro m h1 h2; exact .inl (by rw [Int.le_antisymm h2 h1]; exact List.mem_cons_self)
  | @cons l r L s c ih =>
    intro m h1 h2
    by_cases h0 : m = l
    · exact .inl (by rw [h0]; exact List.mem_cons_self)
    by_cases hr : r ≤ m
    · rcases ih m hr h2 with h | ⟨x, y, hx, hy, k1, k2, k3⟩
      · exact .inl (List.mem_cons_of_mem _ h)
      · exact .inr ⟨x, y, List.mem_cons_of_mem _ hx, List.mem_cons_of_mem _ hy, k1, k2, k3⟩
    · exact .inr ⟨l, r, List.mem_cons_self, List.mem_cons_of_mem _ List.mem_cons_self, by omega, by omega, s.un m (by omega) h2⟩
theorem Chain.mem {f : Int → Int} {e l : Int} {L : List Int} (h : Chain f e l L) : ∀ m ∈ l :: L, l ≤ m ∧ m ≤ e := by
  induction h with
  | last => intro m hm; rw [List.mem_singleton.mp hm]; exact ⟨Int.le_refl _, Int.le_refl _⟩
  | @cons l r L s c ih =>
    intro m hm
    rcases List.mem_cons.mp hm with rfl | hm
    · exact ⟨Int.le_refl _, by have := s.lt; have := s.le; omega⟩
    · have := ih m hm
      have := s.lt
      exact ⟨by omega, by omega⟩
/-- a straight bound at all corners is one everywhere: p n + r from q f(n) on -/
theorem Chain.bound {f : Int → Int} {e l : Int} {L : List Int} (h : Chain f e l L) {p r q : Int} (hq : 0 ≤ q) (hb : ∀ m ∈ l :: L, q * f m ≤ p * m + r) : ∀ m, l ≤ m → m ≤ e → q * f m ≤ p * m + r := by
  intro m h1 h2
  rcases h.cover m h1 h2 with h | ⟨x, y, hx, hy, k1, k2, k3⟩
  · exact hb m h
  · have b1 := hb x hx
    have b2 := hb y hy
    apply Int.le_of_mul_le_mul_left (a := y - x) _ (by omega)
    unfold cross at k3
    -- (y - x) q f m ≤ q (f x (y - m) + f y (m - x)) ≤ ..
    have t1 : q * ((f m - f x) * (y - x)) ≤ q * ((f y - f x) * (m - x)) := mul_le_l hq (by omega)
    have t2 : (y - m) * (q * f x) ≤ (y - m) * (p * x + r) := mul_le_l (by omega) b1
    have t3 : (m - x) * (q * f y) ≤ (m - x) * (p * y + r) := mul_le_l (by omega) b2
    have g1 : (y - x) * (q * f m) = q * ((f m - f x) * (y - x)) + (y - x) * (q * f x) := by
      rw [Int.mul_left_comm (y - x) q (f m), Int.mul_left_comm (y - x) q (f x), ← Int.mul_add, Int.mul_comm (f m - f x), ← Int.mul_add]
      congr 2
      omega
    have g2 : q * ((f y - f x) * (m - x)) + (y - x) * (q * f x) = (m - x) * (q * f y) + (y - m) * (q * f x) := by
      have a1 : q * ((f y - f x) * (m - x)) = (m - x) * (q * f y) - (m - x) * (q * f x) := by
        rw [Int.mul_comm (f y - f x), Int.mul_sub, Int.mul_sub, Int.mul_left_comm q, Int.mul_left_comm q]
      have a2 : (y - x) * (q * f x) = (m - x) * (q * f x) + (y - m) * (q * f x) := by rw [← Int.add_mul]; congr 1; omega
      omega
    have g3 : (y - m) * (p * x + r) + (m - x) * (p * y + r) = (y - x) * (p * m + r) := by
      simp only [Int.sub_mul, Int.mul_add]
      have c1 : y * (p * x) = x * (p * y) := by rw [Int.mul_left_comm, Int.mul_comm y x, Int.mul_left_comm]
      have c2 : m * (p * x) = x * (p * m) := by rw [Int.mul_left_comm, Int.mul_comm m x, Int.mul_left_comm]
      have c3 : m * (p * y) = y * (p * m) := by rw [Int.mul_left_comm, Int.mul_comm m y, Int.mul_left_comm]
      omega
    omega
/-! ### the line -/
section
variable {a b d : Int}
def fl (a b d n : Int) : Int := (a * n + b) / d
def rm (a b d n : Int) : Int := (a * n + b) % d
theorem rm_def (a b d n : Int) : rm a b d n = a * n + b - d * fl a b d n := Int.emod_def _ _
theorem rm_nonneg (hd : 0 < d) (n : Int) : 0 ≤ rm a b d n := Int.emod_nonneg _ (by omega)
theorem rm_lt (hd : 0 < d) (n : Int) : rm a b d n < d := Int.emod_lt_of_pos _ hd
/-- the cross by remainders -/
theorem cross_rm (l r m : Int) : d * cross (fl a b d) l r m = (rm a b d l - rm a b d m) * (r - l) - (rm a b d l - rm a b d r) * (m - l) := by
  unfold cross
  rw [Int.mul_sub, ← Int.mul_assoc, ← Int.mul_assoc]
  have e1 := rm_def a b d l
  have e2 := rm_def a b d m
  have e3 := rm_def a b d r
  have g1 : d * (fl a b d m - fl a b d l) = a * (m - l) + (rm a b d l - rm a b d m) := by rw [Int.mul_sub, Int.mul_sub]; omega
  have g2 : d * (fl a b d r - fl a b d l) = a * (r - l) + (rm a b d l - rm a b d r) := by rw [Int.mul_sub, Int.mul_sub]; omega
  rw [g1, g2, Int.add_mul, Int.add_mul, show a * (m - l) * (r - l) = a * (r - l) * (m - l) by rw [Int.mul_assoc, Int.mul_comm (m - l), Int.mul_assoc]]
  omega
theorem neg_of_d {d x : Int} (hd : 0 < d) (h : d * x < 0) : x < 0 := by
  apply Int.not_le.mp
  intro hx
  have := Int.mul_nonneg (Int.le_of_lt hd) hx
  omega
theorem nonpos_of_d {d x : Int} (hd : 0 < d) (h : d * x ≤ 0) : x ≤ 0 := by
  apply Int.not_lt.mp
  intro hx
  have := Int.mul_pos hd hx
  omega
/-- one more corner that the search finds -/
theorem step_of_edge {e x up loss down gain n : Int} (hd : 0 < d) (h : NI a d (e - x) (rm a b d x) up loss down gain) (n0 : 0 < n) (h1 : n * up ≤ e - x) (h2 : n * loss ≤ rm a b d x) (hm : e - x < (n + 1) * up ∨ rm a b d x < (n + 1) * loss) :
    Step (fl a b d) e x (x + n * up) ∧ rm a b d (x + n * up) = rm a b d x - n * loss := by
  have hup := h.up1
  have hls := h.ls
  obtain ⟨ku, kd, k1, k2, k3⟩ := h.ex
  have r0 := rm_nonneg (a := a) (b := b) hd x
  have r1 := rm_lt (a := a) (b := b) hd x
  have nl := Int.mul_pos n0 (show 0 < loss by omega)
  have nu := Int.mul_pos n0 (show 0 < up by omega)
  have hr : rm a b d (x + n * up) = rm a b d x - n * loss := by
    have e1 := rm_def a b d x
    have e2 : a * (x + n * up) + b = (rm a b d x - n * loss) + d * (fl a b d x + n * ku) := by
      rw [e1, k2, Int.mul_add, Int.mul_add, Int.mul_sub]
      have q1 : n * (d * ku) = d * (n * ku) := Int.mul_left_comm _ _ _
      have q2 : n * (a * up) = a * (n * up) := Int.mul_left_comm _ _ _
      omega
    unfold rm at *
    rw [e2, Int.add_mul_emod_self_left]
    exact Int.emod_eq_of_lt (by omega) (by omega)
  have key : ∀ m, x < m → m ≤ e → d * cross (fl a b d) x (x + n * up) m ≤ 0 ∧ (x + n * up < m → d * cross (fl a b d) x (x + n * up) m < 0) := fun m m0 m1 => by
    have fz : Fz a d (e - x) (rm a b d x) (m - x) (fl a b d m - fl a b d x) := by
      refine ⟨by omega, by omega, ?_⟩
      have e1 := rm_def a b d x
      have e2 := rm_def a b d m
      have := rm_nonneg (a := a) (b := b) hd m
      rw [Int.mul_sub, Int.mul_sub]
      omega
    obtain ⟨g1, g2⟩ := h.edge hm fz
    have es : -(a * (m - x) - d * (fl a b d m - fl a b d x)) = rm a b d x - rm a b d m := by
      have e1 := rm_def a b d x
      have e2 := rm_def a b d m
      rw [Int.mul_sub, Int.mul_sub]
      omega
    rw [es] at g1 g2
    rw [cross_rm, hr, show x + n * up - x = n * up by omega, show rm a b d x - (rm a b d x - n * loss) = n * loss by omega]
    have e3 : (rm a b d x - rm a b d m) * (n * up) = n * ((rm a b d x - rm a b d m) * up) := Int.mul_left_comm _ _ _
    have e4 : n * loss * (m - x) = n * (loss * (m - x)) := Int.mul_assoc _ _ _
    rw [e3, e4]
    refine ⟨by have := mul_le_l (Int.le_of_lt n0) g1; omega, fun hm => ?_⟩
    have := mul_lt_l n0 (g2 (by omega))
    omega
  exact ⟨⟨by omega, by omega, fun m m0 m1 => nonpos_of_d hd (key m m0 m1).1, fun m m0 m1 => neg_of_d hd ((key m (by omega) m1).2 m0)⟩, hr⟩
theorem done_rm {e x : Int} (hd : 0 < d) (h : Done a d (e - x) (rm a b d x)) : ∀ m, x < m → m ≤ e → rm a b d x ≤ rm a b d m := fun m m0 m1 => by
  have e1 := rm_def a b d x
  have e2 := rm_def a b d m
  have := rm_nonneg (a := a) (b := b) hd m
  have k := h (m - x) (fl a b d m - fl a b d x) ⟨by omega, by omega, by rw [Int.mul_sub, Int.mul_sub]; omega⟩
  rw [Int.mul_sub, Int.mul_sub] at k
  omega
/-- what the search from one end finds: ways down in remainder, to the first of the least ones -/
inductive HC (a b d e : Int) : Int → List Int → Int → Prop
  | nil {x : Int} : x ≤ e → (∀ m, x < m → m ≤ e → rm a b d x ≤ rm a b d m) → HC a b d e x [] x
  | cons {l r x : Int} {L : List Int} : Step (fl a b d) e l r → rm a b d r < rm a b d l → HC a b d e r L x → HC a b d e l (r :: L) x
theorem HC.least (hd : 0 < d) {e l x : Int} {L : List Int} (h : HC a b d e l L x) : l ≤ x ∧ x ≤ e ∧ (∀ m, l ≤ m → m ≤ e → rm a b d x ≤ rm a b d m) ∧ ∀ m, l ≤ m → m < x → rm a b d x < rm a b d m := by
  induction h with
  | @nil x hx h => exact ⟨Int.le_refl _, hx, fun m h1 h2 => by
      by_cases c : m = x
      · rw [c]; exact Int.le_refl _
      · exact h m (by omega) h2, fun m h1 h2 => by omega⟩
  | @cons l r x L s hr _ ih =>
    obtain ⟨i1, i2, i3, i4⟩ := ih
    have near : ∀ m, l ≤ m → m < r → rm a b d r < rm a b d m := fun m h1 h2 => by
      by_cases c : m = l
      · rw [c]; exact hr
      have k := s.un m (by omega) (by have := s.le; omega)
      have k2 : d * cross (fl a b d) l r m ≤ 0 := by
        have := mul_le_l (Int.le_of_lt hd) k
        rw [Int.mul_zero] at this
        exact this
      rw [cross_rm] at k2
      have k3 : (rm a b d l - rm a b d r) * (m - l) < (rm a b d l - rm a b d r) * (r - l) := mul_lt_l (by omega) (by omega)
      have k4 : (r - l) * (rm a b d l - rm a b d m) < (r - l) * (rm a b d l - rm a b d r) := by
        rw [Int.mul_comm (r - l), Int.mul_comm (r - l)]
        omega
      have := lt_of_mul (by have := s.lt; omega) k4
      omega
    have hlr := s.lt
    refine ⟨by omega, i2, fun m h1 h2 => ?_, fun m h1 h2 => ?_⟩
    · by_cases c : r ≤ m
      · exact i3 m c h2
      · have := near m h1 (by omega)
        have := i3 r (Int.le_refl _) (by omega)
        omega
    · by_cases c : r ≤ m
      · exact i4 m c h2
      · have := near m h1 (by omega)
        have := i3 r (Int.le_refl _) (by omega)
        omega
theorem HC.chain {e l x : Int} {L M : List Int} (h : HC a b d e l L x) (c : Chain (fl a b d) e x M) : Chain (fl a b d) e l (L ++ M) := by
  induction h with
  | nil _ _ => exact c
  | cons s _ _ ih => exact .cons s (ih c)
theorem HC.last (hl : HC a b d e l L x) : (l :: L).getLast? = some x := by
  induction hl with
  | nil _ _ => rfl
  | @cons l r x L _ _ _ ih => rw [List.getLast?_cons_cons]; exact ih
end
/-! ### from behind -/
/-- the way from l to r, as found from behind: steepest down from r, and the farthest -/
structure BStep (f : Int → Int) (s l r : Int) : Prop where
  lt : l < r
  le : s ≤ l
  un : ∀ m, s ≤ m → m < r → cross f l r m ≤ 0
  st : ∀ m, s ≤ m → m < l → cross f l r m < 0
theorem cross_cyc (f : Int → Int) (l r q : Int) : cross f l r q = cross f r q l := by
  unfold cross
  simp only [Int.sub_mul, Int.mul_sub]
  rw [Int.mul_comm (f l) q, Int.mul_comm (f l) r, Int.mul_comm (f q) l, Int.mul_comm (f q) r, Int.mul_comm (f r) l, Int.mul_comm (f r) q, Int.mul_comm (f l) l, Int.mul_comm (f r) r]
  omega
theorem cross_end (f : Int → Int) (l r : Int) : cross f l r r = 0 := by unfold cross; omega
inductive BC (f : Int → Int) (s : Int) : Int → List Int → Prop
  | one (l : Int) : BC f s l []
  | cons {l r : Int} {L : List Int} : BStep f s l r → BC f s r L → BC f s l (r :: L)
/-- ways found from behind make a chain -/
theorem back_chain {f : Int → Int} {s e l : Int} {L : List Int} (h2 : BC f s l L) : s ≤ l → (l :: L).getLast? = some e → Chain f e l L := by
  induction h2 with
  | one l =>
    intro h1 h3
    have : l = e := by simpa using h3
    subst this
    exact .last
  | @cons l r L b c ih =>
    intro hs h3
    have hlr := b.lt
    have ih := ih (by omega) (by rw [List.getLast?_cons_cons] at h3; exact h3)
    refine .cons ?_ ih
    have hu : ∀ m, l < m → m ≤ r → cross f l r m ≤ 0 := fun m m0 m1 => by
      by_cases c : m = r
      · rw [c, cross_end]; exact Int.le_refl 0
      · exact b.un m (by omega) (by omega)
    cases c with
    | one _ =>
      have : r = e := by simpa using h3
      subst this
      exact ⟨b.lt, Int.le_refl _, hu, fun m m0 m1 => by omega⟩
    | cons b' c' =>
      cases ih with
      | cons sq _ =>
        refine Step.ahead b.lt hu sq ?_
        rw [cross_cyc]
        exact b'.st l hs b.lt
/-! ### shifted, and from behind -/
theorem fl_shift (a b d c n : Int) : fl a (a * c + b) d n = fl a b d (c + n) := by
  unfold fl
  rw [Int.mul_add]
  congr 1
  omega
theorem rm_shift (a b d c n : Int) : rm a (a * c + b) d n = rm a b d (c + n) := by
  unfold rm
  rw [Int.mul_add]
  congr 1
  omega
theorem fl_back (a b d c n : Int) : fl (-a) (a * c + b) d n = fl a b d (c - n) := by
  unfold fl
  rw [Int.mul_sub, Int.neg_mul]
  congr 1
  omega
theorem rm_back (a b d c n : Int) : rm (-a) (a * c + b) d n = rm a b d (c - n) := by
  unfold rm
  rw [Int.mul_sub, Int.neg_mul]
  congr 1
  omega
theorem cross_shift (a b d c l r m : Int) : cross (fl a (a * c + b) d) l r m = cross (fl a b d) (c + l) (c + r) (c + m) := by
  unfold cross
  rw [fl_shift, fl_shift, fl_shift]
  congr 2 <;> omega
theorem cross_back (a b d c l r m : Int) : cross (fl (-a) (a * c + b) d) l r m = cross (fl a b d) (c - r) (c - l) (c - m) := by
  unfold cross
  rw [fl_back, fl_back, fl_back, show c - l - (c - r) = r - l by omega, show c - m - (c - r) = r - m by omega]
  generalize fl a b d (c - m) = x
  generalize fl a b d (c - l) = y
  generalize fl a b d (c - r) = z
  simp only [Int.sub_mul, Int.mul_sub]
  omega
theorem HC.shift {a b d R c l x : Int} {L : List Int} (h : HC a (a * c + b) d R l L x) : HC a b d (c + R) (c + l) (L.map (c + ·)) (c + x) := by
  induction h with
  | @nil x hx h =>
    refine .nil (by omega) fun m h1 h2 => ?_
    have := h (m - c) (by omega) (by omega)
    rw [rm_shift, rm_shift, show c + (m - c) = m by omega] at this
    exact this
  | @cons l r x L s hr _ ih =>
    have hlt := s.lt
    have hle := s.le
    show HC a b d (c + R) (c + l) ((c + r) :: L.map (c + ·)) (c + x)
    refine .cons ⟨by omega, by omega, fun m h1 h2 => ?_, fun m h1 h2 => ?_⟩ ?_ ih
    · have := s.un (m - c) (by omega) (by omega)
      rw [cross_shift, show c + (m - c) = m by omega] at this
      exact this
    · have := s.st (m - c) (by omega) (by omega)
      rw [cross_shift, show c + (m - c) = m by omega] at this
      exact this
    · rw [rm_shift, rm_shift] at hr
      exact hr
theorem BC.app {f : Int → Int} {s p q w : Int} {M : List Int} (h : BC f s p M) : (p :: M).getLast? = some q → BStep f s q w → BC f s p (M ++ [w]) := by
  induction h with
  | one l =>
    intro h1 h2
    have : l = q := by simpa using h1
    subst this
    exact .cons h2 (.one _)
  | cons b c ih =>
    intro h1 h2
    exact .cons b (ih (by rw [List.getLast?_cons_cons] at h1; exact h1) h2)
theorem HC.back {a b d R c l x : Int} {L : List Int} (h : HC (-a) (a * c + b) d R l L x) : ∃ M, BC (fl a b d) (c - R) (c - x) M ∧ (c - x) :: M = ((l :: L).map (c - ·)).reverse := by
  induction h with
  | @nil x hx h => exact ⟨[], .one _, rfl⟩
  | @cons l r x L s hr _ ih =>
    obtain ⟨M, h1, h2⟩ := ih
    have hlt := s.lt
    have hle := s.le
    have hb : BStep (fl a b d) (c - R) (c - r) (c - l) := by
      refine ⟨by omega, by omega, fun m k1 k2 => ?_, fun m k1 k2 => ?_⟩
      · have := s.un (c - m) (by omega) (by omega)
        rw [cross_back, show c - (c - m) = m by omega] at this
        exact this
      · have := s.st (c - m) (by omega) (by omega)
        rw [cross_back, show c - (c - m) = m by omega] at this
        exact this
    refine ⟨M ++ [c - l], h1.app ?_ hb, ?_⟩
    · rw [h2]
      simp
    · rw [List.map_cons, List.reverse_cons, ← h2]
      rfl
/-- the whole hull from above: what is found from both ends -/
theorem hull {a b d first last x1 x2 : Int} {L1 L2 : List Int} (hd : 0 < d) (hfl : first ≤ last) (h1 : HC a (a * first + b) d (last - first) 0 L1 x1) (h2 : HC (-a) (a * last + b) d (last - first) 0 L2 x2) :
    ∃ M, (last - x2) :: M = ((0 :: L2).map (last - ·)).reverse ∧ (first + x1 = last - x2 → Chain (fl a b d) last first (L1.map (first + ·) ++ M)) ∧ (first + x1 ≠ last - x2 → Chain (fl a b d) last first (L1.map (first + ·) ++ (last - x2) :: M)) := by
  have k1 := h1.shift
  rw [show first + (last - first) = last by omega, Int.add_zero] at k1
  obtain ⟨M, k2, k3⟩ := h2.back
  rw [show last - (last - first) = first by omega] at k2
  obtain ⟨l1, l2, l3, l4⟩ := k1.least hd
  obtain ⟨m1, m2, m3, m4⟩ := h2.least hd
  have hc : Chain (fl a b d) last (last - x2) M := by
    refine back_chain k2 (by omega) ?_
    rw [k3]
    simp
  have n3 : ∀ m, first ≤ m → m ≤ last → rm a b d (last - x2) ≤ rm a b d m := fun m q1 q2 => by
    have := m3 (last - m) (by omega) (by omega)
    rw [rm_back, rm_back, show last - (last - m) = m by omega] at this
    exact this
  have n4 : ∀ m, last - x2 < m → m ≤ last → rm a b d (last - x2) < rm a b d m := fun m q1 q2 => by
    have := m4 (last - m) (by omega) (by omega)
    rw [rm_back, rm_back, show last - (last - m) = m by omega] at this
    exact this
  refine ⟨M, k3, fun e => ?_, fun e => ?_⟩
  · rw [← e] at hc
    exact k1.chain hc
  · have hle : first + x1 ≤ last - x2 := by
      apply Int.not_lt.mp
      intro hlt
      have q1 := n4 (first + x1) hlt l2
      have q2 := l3 (last - x2) (by omega) (by omega)
      omega
    have heq : rm a b d (first + x1) = rm a b d (last - x2) := by
      have q1 := n3 (first + x1) l1 l2
      have q2 := l3 (last - x2) (by omega) (by omega)
      omega
    refine k1.chain (.cons ?_ hc)
    have key : ∀ m, d * cross (fl a b d) (first + x1) (last - x2) m = (rm a b d (first + x1) - rm a b d m) * (last - x2 - (first + x1)) := fun m => by
      rw [cross_rm, heq]
      omega
    refine ⟨by omega, by omega, fun m q1 q2 => nonpos_of_d hd ?_, fun m q1 q2 => neg_of_d hd ?_⟩
    · rw [key]
      have := l3 m (by omega) q2
      have := mul_le_r (c := last - x2 - (first + x1)) (by omega) (show rm a b d (first + x1) - rm a b d m ≤ 0 by omega)
      omega
    · rw [key]
      have := n4 m q1 q2
      have := mul_lt_l (c := last - x2 - (first + x1)) (by omega) (show rm a b d (first + x1) - rm a b d m < 0 by omega)
      rw [Int.mul_comm]
      omega
end M


namespace My
open PySem L2 PyProof.Rows Z
/-! ### what a law with drawn lines has -/
theorem take_eq (N : Nat) : f_u_law_take N = f_take := rfl
theorem rule_eq (N : Nat) : f_u_law_rule N = f_rule := rfl
theorem worth_eq (N : Nat) : f_u_law_worth N = f_worthL := rfl
theorem same_eq (N : Nat) : ∀ d, f_u_law_same N d = f_same d
  | 0 => rfl
  | d + 1 => by show mkF 2 5 (b_same (f_u_law_same N d)) = mkF 2 5 (b_same (f_same d)); rw [same_eq N d]
def isT : Option (W × Sto) → Bool
  | some (.pu (.bool true), _) => true
  | _ => false
theorem isT_ok {o : Option (W × Sto)} (h : isT o = true) : ∃ S', o = some (.pu (.bool true), S') := by
  unfold isT at h
  split at h
  · exact ⟨_, rfl⟩
  · cases h
def lnD (a b d : Int) : PyData := .tuple [.int a, .int b, .int d]
def stD (s t : Int) : PyData := .tuple [.int s, .int t]
structure Small (w a b d : Int) : Prop where
  d0 : 0 < d
  d1 : d ≤ w
  a0 : -w ≤ a
  a1 : a ≤ w
  b0 : -w ≤ b
  b1 : b ≤ w
theorem Small.lin {w a b d : Int} (_ : Small w a b d) : Lin (lnD a b d) a b d := .tup _
theorem Small.sz {a b d : Int} (h : Small 200 a b d) : Sz 12 a ∧ Sz 12 b ∧ Sz 12 d := by
  obtain ⟨h1, h2, h3, h4, h5, h6⟩ := h
  have e : (2 : Int) ^ 12 = 4096 := rfl
  refine ⟨⟨?_, ?_⟩, ⟨?_, ?_⟩, ⟨?_, ?_⟩⟩ <;> omega
theorem worth_sm {a b d n : Int} {v : PyData} {S : Sto} (h : Small 200 a b d) (l : Lin v a b d) (n0 : -(10 ^ 9) ≤ n) (n1 : n ≤ 10 ^ 9) : f_worthL.run [.pu v, .pu (.int n)] S = some (.pu (.int (M.fl a b d n)), S) :=
  worth_run l (mulOk_r (by omega) (by omega)) (dvs_of h.d0 (by have := h.d1; omega))
end My

/-! Rows whose growths over each gap are the same or neighbours: the ends of the slopes. -/
namespace M
/-- the growths over each gap: between m and mx, which are had; at most 1 apart -/
structure Bal (r : Int → Int) (n : Int) (m mx : Int → Int) : Prop where
  lo : ∀ g k, 1 ≤ g → 0 ≤ k → k + g < n → m g ≤ r (k + g) - r k
  hi : ∀ g k, 1 ≤ g → 0 ≤ k → k + g < n → r (k + g) - r k ≤ mx g
  lat : ∀ g, 1 ≤ g → g < n → ∃ k, 0 ≤ k ∧ k + g < n ∧ r (k + g) - r k = m g
  hat : ∀ g, 1 ≤ g → g < n → ∃ k, 0 ≤ k ∧ k + g < n ∧ r (k + g) - r k = mx g
  one : ∀ g, 1 ≤ g → g < n → mx g ≤ m g + 1
theorem Bal.sup {r : Int → Int} {n : Int} {m mx : Int → Int} (h : Bal r n m mx) {g g' : Int} (g0 : 1 ≤ g) (h0 : 1 ≤ g') (h1 : g + g' < n) : mx (g + g') ≤ mx g + mx g' ∧ m g + m g' ≤ m (g + g') := by
  obtain ⟨k, k0, k1, e⟩ := h.hat (g + g') (by omega) h1
  obtain ⟨l, l0, l1, f⟩ := h.lat (g + g') (by omega) h1
  have a := h.hi g k g0 k0 (by omega)
  have b := h.hi g' (k + g) h0 (by omega) (by omega)
  have c := h.lo g l g0 l0 (by omega)
  have d := h.lo g' (l + g) h0 (by omega) (by omega)
  rw [Int.add_assoc] at b d
  omega
/-- the lower ends are below the upper ends -/
theorem Bal.gap {r : Int → Int} {n : Int} {m mx : Int → Int} (h : Bal r n m mx) : ∀ (k : Nat) (g g' : Int), g + g' ≤ k → 1 ≤ g → 1 ≤ g' → g < n → g' < n → g' * (mx g - 1) < g * (m g' + 1)
  | 0, g, g', hk, g0, h0, _, _ => by omega
  | k + 1, g, g', hk, g0, h0, g1, h1 => by
    rcases Int.lt_trichotomy g g' with c | c | c
    · -- g < g': the way over g' cut behind g
      have ih := Bal.gap h k g (g' - g) (by omega) g0 (by omega) g1 (by omega)
      have s := (h.sup g0 (show 1 ≤ g' - g by omega) (by omega)).2
      rw [show g + (g' - g) = g' by omega] at s
      have o := h.one g g0 g1
      have e1 : (g' - g) * (mx g - 1) = g' * (mx g - 1) - g * (mx g - 1) := Int.sub_mul _ _ _
      have e2 : g * (m (g' - g) + 1) ≤ g * ((m g' + 1) - (mx g - 1)) := Int.mul_le_mul_of_nonneg_left (by omega) (by omega)
      rw [Int.mul_sub] at e2
      omega
    · subst c
      have o := h.one g g0 g1
      exact Int.mul_lt_mul_of_pos_left (by omega) (by omega)
    · have ih := Bal.gap h k (g - g') g' (by omega) (by omega) h0 (by omega) h1
      have s := (h.sup (show 1 ≤ g - g' by omega) h0 (by omega)).1
      rw [show g - g' + g' = g by omega] at s
      have o := h.one g' h0 h1
      have e1 : (g - g') * (m g' + 1) = g * (m g' + 1) - g' * (m g' + 1) := Int.sub_mul _ _ _
      have e2 : g' * ((mx g - 1) - (m g' + 1)) ≤ g' * (mx (g - g') - 1) := Int.mul_le_mul_of_nonneg_left (by omega) (by omega)
      rw [Int.mul_sub] at e2
      omega
/-- a value more: between these ends -/
theorem Bal.next {r : Int → Int} {n : Int} {m mx : Int → Int} (h : Bal r n m mx) {g g' : Int} (g0 : 1 ≤ g) (h0 : 1 ≤ g') (g1 : g < n) (h1 : g' < n) : r (n - g) + mx g - 1 ≤ r (n - g') + m g' + 1 := by
  rcases Int.lt_trichotomy g g' with c | c | c
  · have s := (h.sup (show 1 ≤ g' - g by omega) g0 (by omega)).2
    rw [show g' - g + g = g' by omega] at s
    have o := h.one g g0 g1
    have o2 := h.one (g' - g) (by omega) (by omega)
    have u := h.hi (g' - g) (n - g') (by omega) (by omega) (by omega)
    rw [show n - g' + (g' - g) = n - g by omega] at u
    omega
  · subst c
    have o := h.one g g0 g1
    omega
  · have s := (h.sup (show 1 ≤ g - g' by omega) h0 (by omega)).1
    rw [show g - g' + g' = g by omega] at s
    have o := h.one g' h0 h1
    have o2 := h.one (g - g') (by omega) (by omega)
    have u := h.lo (g - g') (n - g) (by omega) (by omega) (by omega)
    rw [show n - g + (g - g') = n - g' by omega] at u
    omega
end M

/-! Fractions: lowest terms, the greatest and the least of some. -/
namespace M
/-- in lowest terms, above a bottom of 1 and more -/
structure Low (a b : Int) : Prop where
  pos : 0 < b
  cop : Int.gcd a b = 1
theorem dvd_cut {a b d : Int} (h : Int.gcd a b = 1) (k : b ∣ a * d) : b ∣ d := by
  have k' := Int.natAbs_dvd_natAbs.mpr k
  rw [Int.natAbs_mul] at k'
  have c : Nat.Coprime b.natAbs a.natAbs := by
    show Nat.gcd _ _ = 1
    rw [Nat.gcd_comm]
    exact h
  exact Int.natAbs_dvd_natAbs.mp (c.dvd_of_dvd_mul_left k')
theorem Low.uniq {a b c d : Int} (h1 : Low a b) (h2 : Low c d) (e : a * d = c * b) : a = c ∧ b = d := by
  have hb := h1.pos
  have hd := h2.pos
  have d1 : b ∣ d := by
    have : b ∣ a * d := ⟨c, by rw [e, Int.mul_comm]⟩
    exact dvd_cut h1.cop this
  have d2 : d ∣ b := by
    have : d ∣ c * b := ⟨a, by rw [← e, Int.mul_comm]⟩
    exact dvd_cut h2.cop this
  have bd : b = d := Int.dvd_antisymm (by omega) (by omega) d1 d2
  subst bd
  exact ⟨Int.eq_of_mul_eq_mul_right (by omega) e, rfl⟩
theorem low_red {a b : Int} (hb : 0 < b) : Low (a / (Int.gcd a b : Nat)) (b / (Int.gcd a b : Nat)) ∧ (a / (Int.gcd a b : Nat)) * b = a * (b / (Int.gcd a b : Nat)) ∧ 0 < (Int.gcd a b : Int) ∧ a = (Int.gcd a b : Int) * (a / (Int.gcd a b : Nat)) ∧ b = (Int.gcd a b : Int) * (b / (Int.gcd a b : Nat)) := by
  have g0 : 0 < Int.gcd a b := Int.gcd_pos_of_ne_zero_right a (by omega)
  have ea : a = (Int.gcd a b : Int) * (a / (Int.gcd a b : Nat)) := (Int.mul_ediv_cancel' (Int.gcd_dvd_left a b)).symm
  have eb : b = (Int.gcd a b : Int) * (b / (Int.gcd a b : Nat)) := (Int.mul_ediv_cancel' (Int.gcd_dvd_right a b)).symm
  refine ⟨⟨?_, ?_⟩, ?_, by omega, ea, eb⟩
  · exact Int.ediv_pos_of_pos_of_dvd hb (by omega) (Int.gcd_dvd_right a b)
  · exact Int.gcd_ediv_gcd_ediv_gcd g0
  · generalize (Int.gcd a b : Int) = g at *
    generalize a / g = x at *
    generalize b / g = y at *
    rw [eb, ea, Int.mul_left_comm, Int.mul_assoc]
end M

/-! The ends of the slopes of a row. -/
namespace M
/-- the greatest (s = 1) of the lower quotients, the least (s = -1) of the upper ones, in lowest terms -/
structure EndOf (r : Int → Int) (n s a b : Int) : Prop where
  low : Low a b
  up : ∀ j k, 0 ≤ j → j < k → k < n → s * ((r k - r j - s) * b - a * (k - j)) ≤ 0
  at' : ∃ j k, 0 ≤ j ∧ j < k ∧ k < n ∧ a * (k - j) = (r k - r j - s) * b
theorem cut_le {s x g : Int} (hg : 0 < g) (h : s * (x * g) ≤ 0) : s * x ≤ 0 := by
  rw [← Int.mul_assoc] at h
  rcases Int.lt_or_le 0 (s * x) with c | c
  · have := Int.mul_pos c hg
    omega
  · exact c
theorem EndOf.le {r : Int → Int} {n s a b c d : Int} (h : EndOf r n s a b) (k : EndOf r n s c d) : s * (a * d - c * b) ≤ 0 := by
  obtain ⟨j, l, j0, jl, ln, e⟩ := h.at'
  have u := k.up j l j0 jl ln
  have hb := h.low.pos
  generalize hX : r l - r j - s = X at *
  generalize hg : l - j = g at *
  have g0 : 0 < g := by omega
  refine cut_le g0 ?_
  refine Int.le_trans (Int.le_of_eq (?_ : _ = s * (X * d - c * g) * b)) (Int.mul_nonpos_of_nonpos_of_nonneg u (by omega))
  have e1 : (X * d - c * g) * b = X * b * d - c * b * g := by
    rw [Int.sub_mul, Int.mul_right_comm X d b, Int.mul_right_comm c g b]
  rw [Int.mul_assoc s, e1, ← e, Int.sub_mul, Int.mul_right_comm a g d]
theorem EndOf.uniq {r : Int → Int} {n s a b c d : Int} (hs : s = 1 ∨ s = -1) (h : EndOf r n s a b) (k : EndOf r n s c d) : a = c ∧ b = d := by
  have p := h.le k
  have q := k.le h
  refine h.low.uniq k.low ?_
  rcases hs with rfl | rfl <;> omega
theorem pos_cut {x g : Int} (hg : 0 < g) (h : 0 < x * g) : 0 < x := by
  rcases Int.lt_or_le 0 x with c | c
  · exact c
  · have := Int.mul_nonpos_of_nonpos_of_nonneg c (Int.le_of_lt hg)
    omega
/-- the lower end is below the upper end -/
theorem ends_lt {r m mx : Int → Int} {n a b c d : Int} (B : Bal r n m mx) (h : EndOf r n 1 a b) (k : EndOf r n (-1) c d) : a * d < c * b := by
  obtain ⟨j, l, j0, jl, ln, e⟩ := h.at'
  obtain ⟨j', l', j0', jl', ln', e'⟩ := k.at'
  have hb := h.low.pos
  have hd := k.low.pos
  have u := B.hi (l - j) j (by omega) j0 (by omega)
  have v := B.lo (l' - j') j' (by omega) j0' (by omega)
  have w := B.gap (l - j + (l' - j')).toNat (l - j) (l' - j') (by omega) (by omega) (by omega) (by omega) (by omega)
  rw [show j + (l - j) = l by omega] at u
  rw [show j' + (l' - j') = l' by omega] at v
  generalize hX : r l - r j = X at *
  generalize hY : r l' - r j' = Y at *
  generalize hg : l - j = g at *
  generalize hg' : l' - j' = g' at *
  have g0 : 0 < g := by omega
  have g0' : 0 < g' := by omega
  have e2 : c * g' = (Y + 1) * d := by rw [e']; congr 1
  have w1 : g' * (X - 1) < g * (Y + 1) := by
    have a1 := Int.mul_le_mul_of_nonneg_left (show X - 1 ≤ mx g - 1 by omega) (Int.le_of_lt g0')
    have a2 := Int.mul_le_mul_of_nonneg_left (show m g' + 1 ≤ Y + 1 by omega) (Int.le_of_lt g0)
    omega
  have w2 : 0 < (g * (Y + 1) - g' * (X - 1)) * (b * d) := Int.mul_pos (by omega) (Int.mul_pos hb hd)
  have e3 : (g * (Y + 1) - g' * (X - 1)) * (b * d) = (c * b - a * d) * (g * g') := by
    have f1 : g * (Y + 1) * (b * d) = c * b * (g * g') := by
      rw [show g * (Y + 1) * (b * d) = g * b * ((Y + 1) * d) by ac_rfl, ← e2]
      ac_rfl
    have f2 : g' * (X - 1) * (b * d) = a * d * (g * g') := by
      rw [show g' * (X - 1) * (b * d) = g' * d * ((X - 1) * b) by ac_rfl, ← e]
      ac_rfl
    rw [Int.sub_mul, Int.sub_mul, f1, f2]
  rw [e3] at w2
  have := pos_cut (Int.mul_pos g0 g0') w2
  omega
/-- all lifts are less than d apart -/
def Fit (r : Int → Int) (n c d : Int) : Prop := ∀ j k, 0 ≤ j → j < n → 0 ≤ k → k < n → d * r k - c * k < d * r j - c * j + d
theorem fit_of {r : Int → Int} {n a b a' b' c d : Int} (h : EndOf r n 1 a b) (k : EndOf r n (-1) a' b') (hd : 0 < d) (h1 : a * d < c * b) (h2 : c * b' < a' * d) : Fit r n c d := fun j l j0 j1 l0 l1 => by
  have hb := h.low.pos
  have hb' := k.low.pos
  rcases Int.lt_trichotomy j l with q | q | q
  · have u := h.up j l j0 q l1
    have e1 : d * r l - c * l - (d * r j - c * j) = d * (r l - r j) - c * (l - j) := by
      rw [Int.mul_sub, Int.mul_sub]; omega
    generalize r l - r j = X at *
    generalize hg : l - j = g at *
    have g0 : 0 < g := by omega
    have w : 0 < (c * g - d * (X - 1)) * b := by
      have a1 : 0 < (c * b - a * d) * g := Int.mul_pos (by omega) g0
      have a2 : 0 ≤ (a * g - (X - 1) * b) * d := Int.mul_nonneg (by omega) (by omega)
      have e2 : (c * g - d * (X - 1)) * b = (c * b - a * d) * g + (a * g - (X - 1) * b) * d := by
        rw [Int.sub_mul, Int.sub_mul, Int.sub_mul, show c * g * b = c * b * g by ac_rfl, show a * d * g = a * g * d by ac_rfl, show d * (X - 1) * b = (X - 1) * b * d by ac_rfl]
        omega
      omega
    have := pos_cut hb w
    rw [Int.mul_sub] at this
    omega
  · subst q
    omega
  · have u := k.up l j l0 q j1
    have e1 : d * r l - c * l - (d * r j - c * j) = c * (j - l) - d * (r j - r l) := by
      rw [Int.mul_sub, Int.mul_sub]; omega
    have u' : a' * (j - l) ≤ (r j - r l + 1) * b' := by
      rw [show r j - r l - -1 = r j - r l + 1 by omega] at u
      omega
    generalize r j - r l = X at *
    generalize hg : j - l = g at *
    have g0 : 0 < g := by omega
    have w : 0 < (d * (X + 1) - c * g) * b' := by
      have a1 : 0 < (a' * d - c * b') * g := Int.mul_pos (by omega) g0
      have a2 : 0 ≤ ((X + 1) * b' - a' * g) * d := Int.mul_nonneg (by omega) (by omega)
      have e2 : (d * (X + 1) - c * g) * b' = (a' * d - c * b') * g + ((X + 1) * b' - a' * g) * d := by
        rw [Int.sub_mul, Int.sub_mul, Int.sub_mul, show d * (X + 1) * b' = (X + 1) * b' * d by ac_rfl, show c * g * b' = c * b' * g by ac_rfl, show a' * d * g = a' * g * d by ac_rfl]
        omega
      omega
    have := pos_cut hb' w
    rw [Int.mul_add] at this
    omega
theorem low_no_fit {r : Int → Int} {n a b : Int} (h : EndOf r n 1 a b) : ¬ Fit r n a b := fun f => by
  obtain ⟨j, l, j0, jl, ln, e⟩ := h.at'
  have := f j l j0 (by omega) (by omega) ln
  rw [Int.mul_sub, Int.sub_mul, Int.sub_mul, Int.mul_comm (r l), Int.mul_comm (r j)] at e
  omega
theorem high_no_fit {r : Int → Int} {n a b : Int} (h : EndOf r n (-1) a b) : ¬ Fit r n a b := fun f => by
  obtain ⟨j, l, j0, jl, ln, e⟩ := h.at'
  have := f l j (by omega) ln j0 (by omega)
  rw [Int.mul_sub, Int.sub_mul, Int.sub_mul, Int.mul_comm (r l), Int.mul_comm (r j)] at e
  omega
/-- what stands between, in lowest terms -/
theorem between {a b a' b' u v : Int} (hb : 0 < b) (hb' : 0 < b') (hu : 0 < u) (hv : 0 < v) (h : a * b' < a' * b) {c d g : Int} (g0 : 0 < g) (ec : u * a + v * a' = g * c) (ed : u * b + v * b' = g * d) : 0 < d ∧ a * d < c * b ∧ c * b' < a' * d := by
  have d0 : 0 < d * g := by
    have := Int.mul_pos hu hb
    have := Int.mul_pos hv hb'
    rw [Int.mul_comm d, ← ed]
    omega
  refine ⟨pos_cut g0 d0, ?_, ?_⟩
  · have : 0 < (c * b - a * d) * g := by
      rw [Int.sub_mul, show c * b * g = g * c * b by ac_rfl, show a * d * g = a * (g * d) by ac_rfl, ← ec, ← ed, Int.add_mul, Int.mul_add, show a * (u * b) = u * a * b by ac_rfl, show a * (v * b') = v * (a * b') by ac_rfl, show v * a' * b = v * (a' * b) by ac_rfl]
      have := Int.mul_lt_mul_of_pos_left h hv
      omega
    have := pos_cut g0 this
    omega
  · have : 0 < (a' * d - c * b') * g := by
      rw [Int.sub_mul, show c * b' * g = g * c * b' by ac_rfl, show a' * d * g = a' * (g * d) by ac_rfl, ← ec, ← ed, Int.add_mul, Int.mul_add, show a' * (v * b') = v * a' * b' by ac_rfl, show a' * (u * b) = u * (a' * b) by ac_rfl, show u * a * b' = u * (a * b') by ac_rfl]
      have := Int.mul_lt_mul_of_pos_left h hu
      omega
    have := pos_cut g0 this
    omega
/-- from quotients as they are, to lowest terms -/
theorem endOf_red {r : Int → Int} {n s a b : Int} (hb : 0 < b) (u : ∀ j k, 0 ≤ j → j < k → k < n → s * ((r k - r j - s) * b - a * (k - j)) ≤ 0) (t : ∃ j k, 0 ≤ j ∧ j < k ∧ k < n ∧ a * (k - j) = (r k - r j - s) * b) : EndOf r n s (a / (Int.gcd a b : Nat)) (b / (Int.gcd a b : Nat)) := by
  obtain ⟨l, _, g0, ea, eb⟩ := low_red (a := a) hb
  generalize (Int.gcd a b : Int) = G at *
  generalize a / G = a' at *
  generalize b / G = b' at *
  refine ⟨l, fun j k j0 jk kn => ?_, ?_⟩
  · have h := u j k j0 jk kn
    rw [ea, eb, show ∀ X : Int, X * (G * b') - G * a' * (k - j) = (X * b' - a' * (k - j)) * G from fun X => by
      rw [Int.sub_mul, show X * (G * b') = X * b' * G by ac_rfl, show G * a' * (k - j) = a' * (k - j) * G by ac_rfl]] at h
    exact cut_le g0 h
  · obtain ⟨j, k, j0, jk, kn, e⟩ := t
    refine ⟨j, k, j0, jk, kn, ?_⟩
    rw [ea, eb, show G * a' * (k - j) = G * (a' * (k - j)) by ac_rfl, show ∀ X : Int, X * (G * b') = G * (X * b') from fun X => by ac_rfl] at e
    exact Int.eq_of_mul_eq_mul_left (by omega) e
/-- the ends out of the greatest (or least) growths -/
theorem endOf_ext {r : Int → Int} {n s : Int} {ext : Int → Int} {g : Int} (g0 : 0 < g) (h1 : ∀ g' k, 1 ≤ g' → 0 ≤ k → k + g' < n → s * (r (k + g') - r k) ≤ s * ext g') (h2 : ∃ k, 0 ≤ k ∧ k + g < n ∧ r (k + g) - r k = ext g)
    (u : ∀ g', 1 ≤ g' → g' < n → s * ((ext g' - s) * g - (ext g - s) * g') ≤ 0) : EndOf r n s ((ext g - s) / (Int.gcd (ext g - s) g : Nat)) (g / (Int.gcd (ext g - s) g : Nat)) := by
  refine endOf_red g0 (fun j k j0 jk kn => ?_) ?_
  · have a1 := h1 (k - j) j (by omega) j0 (by omega)
    rw [show j + (k - j) = k by omega] at a1
    have a2 := u (k - j) (by omega) (by omega)
    generalize r k - r j = X at *
    generalize ext (k - j) = Y at *
    generalize k - j = h at *
    have a3 : (s * X - s * Y) * g ≤ 0 := Int.mul_nonpos_of_nonpos_of_nonneg (by omega) (by omega)
    rw [Int.mul_sub] at a2 ⊢
    rw [← Int.mul_assoc, Int.mul_sub] at a2 ⊢
    rw [Int.sub_mul] at a2 a3 ⊢
    omega
  · obtain ⟨k, k0, k1, e⟩ := h2
    exact ⟨k, k + g, k0, by omega, k1, by rw [e, show k + g - k = g by omega]⟩
/-- the best of the pairs so far -/
def On (r : Int → Int) (s : Int) (done : List (Int × Int)) : Option (Int × Int) → Prop
  | none => done = []
  | some p => Low p.1 p.2 ∧ (∀ d ∈ done, s * ((r d.2 - r d.1 - s) * p.2 - p.1 * (d.2 - d.1)) ≤ 0) ∧ ∃ d ∈ done, p.1 * (d.2 - d.1) = (r d.2 - r d.1 - s) * p.2
def pick (s : Int) (o : Option (Int × Int)) (q : Int × Int) : Int × Int := match o with
  | none => q
  | some p => if 0 < s * (q.1 * p.2 - p.1 * q.2) then q else p
theorem On.step {r : Int → Int} {s : Int} {done : List (Int × Int)} {o : Option (Int × Int)} (h : On r s done o) (gap : ∀ d ∈ done, 0 < d.2 - d.1) {d q : Int × Int} (hd : 0 < d.2 - d.1) (hq : Low q.1 q.2) (e : q.1 * (d.2 - d.1) = (r d.2 - r d.1 - s) * q.2) : On r s (done ++ [d]) (some (pick s o q)) := by
  have own : s * ((r d.2 - r d.1 - s) * q.2 - q.1 * (d.2 - d.1)) ≤ 0 := by rw [e, Int.sub_self]; omega
  cases o with
  | none =>
    have h : done = [] := h
    subst h
    refine ⟨hq, fun x hx => ?_, d, by simp, e⟩
    rw [List.mem_singleton.mp hx]
    exact own
  | some p =>
    obtain ⟨hp, hu, x, hx, ex⟩ := h
    have p0 := hp.pos
    have q0 := hq.pos
    by_cases c : 0 < s * (q.1 * p.2 - p.1 * q.2)
    · have ep : pick s (some p) q = q := if_pos c
      rw [ep]
      refine ⟨hq, fun y hy => ?_, d, by simp, e⟩
      rcases List.mem_append.mp hy with hy | hy
      · have u := hu y hy
        have g := gap y hy
        generalize r y.2 - r y.1 - s = X at *
        generalize y.2 - y.1 = f at *
        refine cut_le p0 ?_
        have e1 : s * ((X * q.2 - q.1 * f) * p.2) = s * (X * p.2 - p.1 * f) * q.2 - s * (q.1 * p.2 - p.1 * q.2) * f := by
          rw [Int.mul_assoc, Int.mul_assoc, ← Int.mul_sub]
          congr 1
          rw [Int.sub_mul, Int.sub_mul, Int.sub_mul, show X * q.2 * p.2 = X * p.2 * q.2 by ac_rfl, show q.1 * f * p.2 = q.1 * p.2 * f by ac_rfl, show p.1 * f * q.2 = p.1 * q.2 * f by ac_rfl]
          omega
        have p1 := Int.mul_nonpos_of_nonpos_of_nonneg u (Int.le_of_lt q0)
        have p2 := Int.mul_pos c g
        omega
      · rw [List.mem_singleton.mp hy]
        exact own
    · have ep : pick s (some p) q = p := if_neg c
      rw [ep]
      refine ⟨hp, fun y hy => ?_, x, by simp [hx], ex⟩
      rcases List.mem_append.mp hy with hy | hy
      · exact hu y hy
      · rw [List.mem_singleton.mp hy]
        generalize r d.2 - r d.1 - s = X at *
        generalize d.2 - d.1 = f at *
        refine cut_le q0 ?_
        have e1 : s * ((X * p.2 - p.1 * f) * q.2) = s * (q.1 * p.2 - p.1 * q.2) * f := by
          rw [Int.mul_assoc]
          congr 1
          rw [Int.sub_mul, Int.sub_mul, show X * p.2 * q.2 = X * q.2 * p.2 by ac_rfl, ← e, show q.1 * f * p.2 = q.1 * p.2 * f by ac_rfl, show p.1 * f * q.2 = p.1 * q.2 * f by ac_rfl]
        rw [e1]
        exact Int.mul_nonpos_of_nonpos_of_nonneg (by omega) (Int.le_of_lt hd)
theorem On.end {r : Int → Int} {n s : Int} {done : List (Int × Int)} {p : Int × Int} (h : On r s done (some p)) (m : ∀ j k, (j, k) ∈ done ↔ 0 ≤ j ∧ j < k ∧ k < n) : EndOf r n s p.1 p.2 := by
  obtain ⟨l, u, d, hd, e⟩ := h
  refine ⟨l, fun j k j0 jk kn => u (j, k) ((m j k).mpr ⟨j0, jk, kn⟩), d.1, d.2, ?_⟩
  have := (m d.1 d.2).mp hd
  exact ⟨this.1, this.2.1, this.2.2, e⟩
theorem EndOf.small {r : Int → Int} {n s a b : Int} (h : EndOf r n s a b) : b < n := by
  obtain ⟨j, k, j0, jk, kn, e⟩ := h.at'
  have := Int.le_of_dvd (show 0 < k - j by omega) (dvd_cut h.low.cop ⟨r k - r j - s, by rw [e, Int.mul_comm]⟩)
  omega
end M


namespace My
open PySem L2 PyProof.Rows Z
/-! ### quotients -/
def prD (p : Int × Int) : PyData := .tuple [.int p.1, .int p.2]
def redP (a b : Int) : Int × Int := (a / (Int.gcd a b : Nat), b / (Int.gcd a b : Nat))
theorem gcd_small {a b : Int} (hb : 0 < b) (hb' : b ≤ 2 ^ 60) : dvs (Int.gcd a b : Nat) := by
  have g := (M.low_red (a := a) hb).2.2.1
  have l := Int.le_of_dvd hb (Int.gcd_dvd_right a b)
  exact dvs_of g (by omega)
end My

/-! Slopes without addition: two ends on each side of 0; the first power of 2 that serves. -/
namespace M
structure Side (f : Int → Int) (u v : Int) (L H : Int × Int) : Prop where
  u0 : 1 ≤ u
  lm : ∃ n, u ≤ n ∧ n ≤ v ∧ L = (f n, n)
  la : ∀ n, u ≤ n → n ≤ v → f n * L.2 ≤ L.1 * n
  hm : ∃ n, u ≤ n ∧ n ≤ v ∧ H = (f n + 1, n)
  ha : ∀ n, u ≤ n → n ≤ v → H.1 * n ≤ (f n + 1) * H.2
theorem Side.l0 {f : Int → Int} {u v : Int} {L H : Int × Int} (h : Side f u v L H) : 0 < L.2 := by
  obtain ⟨n, n0, _, e⟩ := h.lm
  have := h.u0
  rw [e]
  show 0 < n
  omega
theorem Side.h0 {f : Int → Int} {u v : Int} {L H : Int × Int} (h : Side f u v L H) : 0 < H.2 := by
  obtain ⟨n, n0, _, e⟩ := h.hm
  have := h.u0
  rw [e]
  show 0 < n
  omega
theorem Side.serve {f : Int → Int} {u v : Int} {L H : Int × Int} {m B : Int} (h : Side f u v L H) (hB : 0 < B) : (∀ n, u ≤ n → n ≤ v → B * f n ≤ m * n ∧ m * n < B * (f n + 1)) ↔ (L.1 * B ≤ m * L.2 ∧ m * H.2 < H.1 * B) := by
  constructor
  · intro k
    obtain ⟨n, n0, n1, e⟩ := h.lm
    obtain ⟨n', n0', n1', e'⟩ := h.hm
    have a := (k n n0 n1).1
    have b := (k n' n0' n1').2
    rw [e, e']
    exact ⟨by rw [Int.mul_comm]; exact a, by rw [Int.mul_comm (f n' + 1)]; exact b⟩
  · rintro ⟨a, b⟩ n n0 n1
    have l0 := h.l0
    have h0 := h.h0
    have u0 := h.u0
    have c1 := h.la n n0 n1
    have c2 := h.ha n n0 n1
    constructor
    · -- B f n L2 ≤ B L1 n ≤ m L2 n
      have m1 := Int.mul_le_mul_of_nonneg_right c1 (Int.le_of_lt hB)
      have m2 := Int.mul_le_mul_of_nonneg_right a (show 0 ≤ n by omega)
      refine Int.le_of_mul_le_mul_right (show B * f n * L.2 ≤ m * n * L.2 from ?_) l0
      have e1 : B * f n * L.2 = f n * L.2 * B := by ac_rfl
      have e2 : L.1 * n * B = L.1 * B * n := by ac_rfl
      have e3 : m * n * L.2 = m * L.2 * n := by ac_rfl
      omega
    · have m1 := Int.mul_le_mul_of_nonneg_right c2 (Int.le_of_lt hB)
      have m2 := Int.mul_lt_mul_of_pos_right b (show 0 < n by omega)
      refine Int.lt_of_mul_lt_mul_right (show m * n * H.2 < B * (f n + 1) * H.2 from ?_) (Int.le_of_lt h0)
      have e1 : B * (f n + 1) * H.2 = (f n + 1) * H.2 * B := by ac_rfl
      have e2 : H.1 * n * B = H.1 * B * n := by ac_rfl
      have e3 : m * n * H.2 = m * H.2 * n := by ac_rfl
      omega
theorem pos_of_mul {x g : Int} (hg : 0 < g) (h : 0 < x * g) : 0 < x := by
  apply Int.not_le.mp
  intro c
  have := Int.mul_nonpos_of_nonpos_of_nonneg c (Int.le_of_lt hg)
  omega
theorem ceil_le {x q m : Int} (hq : 0 < q) : -(-x / q) ≤ m ↔ x ≤ m * q := by
  have : -m ≤ -x / q ↔ -m * q ≤ -x := Int.le_ediv_iff_mul_le hq
  rw [Int.neg_mul] at this
  constructor
  · intro h
    have := this.mp (by omega)
    omega
  · intro h
    have := this.mpr (by omega)
    omega
/-- what is found on one side -/
structure Sd where
  sg : Int
  L : Int × Int
  H : Int × Int
def Sd.lo (x : Sd) (B : Int) : Int := -(-x.L.1 * B / x.L.2)
def Sd.hi (x : Sd) (B : Int) : Int := -(-x.H.1 * B / x.H.2) - 1
def Sd.least (x : Sd) (B : Int) : Int := if x.sg = 1 then x.lo B else -x.hi B
def Sd.great (x : Sd) (B : Int) : Int := if x.sg = 1 then x.hi B else -x.lo B
structure Sd.Ok (x : Sd) : Prop where
  s : x.sg = 1 ∨ x.sg = -1
  l : 0 < x.L.2
  h : 0 < x.H.2
def Sd.In (x : Sd) (m B : Int) : Prop := x.L.1 * B ≤ x.sg * m * x.L.2 ∧ x.sg * m * x.H.2 < x.H.1 * B
theorem Sd.in_iff {x : Sd} (o : x.Ok) {m B : Int} : x.In m B ↔ x.least B ≤ m ∧ m ≤ x.great B := by
  have h1 : ∀ k, x.lo B ≤ k ↔ x.L.1 * B ≤ k * x.L.2 := fun k => by
    have := ceil_le (x := x.L.1 * B) (m := k) o.l
    unfold Sd.lo
    rw [Int.neg_mul]
    exact this
  have h2 : ∀ k, k ≤ x.hi B ↔ k * x.H.2 < x.H.1 * B := fun k => by
    have := ceil_le (x := x.H.1 * B) (m := k) o.h
    unfold Sd.hi
    rw [Int.neg_mul]
    omega
  unfold Sd.In Sd.least Sd.great
  rcases o.s with e | e
  · rw [e, Int.one_mul, if_pos rfl, if_pos rfl, ← h1, ← h2]
  · rw [e, if_neg (by decide), if_neg (by decide), ← h1, ← h2]
    omega
/-- all sides -/
def SF (xs : List Sd) (m B : Int) : Prop := ∀ x ∈ xs, x.In m B
theorem Sd.in_mul {x : Sd} {m B c : Int} (hc : 0 < c) : x.In (m * c) (B * c) ↔ x.In m B := by
  unfold Sd.In
  have e1 : ∀ X : Int, X * (B * c) = X * B * c := fun X => (Int.mul_assoc ..).symm
  have e2 : ∀ X : Int, x.sg * (m * c) * X = x.sg * m * X * c := fun X => by ac_rfl
  rw [e1, e1, e2, e2]
  constructor
  · rintro ⟨a, b⟩
    exact ⟨Int.le_of_mul_le_mul_right a hc, Int.lt_of_mul_lt_mul_right b (Int.le_of_lt hc)⟩
  · rintro ⟨a, b⟩
    exact ⟨Int.mul_le_mul_of_nonneg_right a (Int.le_of_lt hc), Int.mul_lt_mul_of_pos_right b hc⟩
/-- an odd one takes nothing of a power of 2 -/
theorem odd_pow {m : Int} (hm : m % 2 = 1) : ∀ (k : Nat) (q : Int), (2 : Int) ^ k ∣ m * q → (2 : Int) ^ k ∣ q
  | 0, q, _ => by simp
  | k + 1, q, h => by
    have h2 : (2 : Int) ∣ m * q := Int.dvd_trans ⟨2 ^ k, by rw [Int.pow_succ, Int.mul_comm]⟩ h
    have q2 : q % 2 = 0 := by
      have := Int.emod_eq_zero_of_dvd h2
      rw [Int.mul_emod, hm] at this
      omega
    obtain ⟨q', e⟩ := Int.dvd_of_emod_eq_zero q2
    subst e
    obtain ⟨r, hr⟩ := h
    have : m * q' = 2 ^ k * r := by
      have e1 : 2 * (m * q') = 2 * (2 ^ k * r) := by
        rw [← Int.mul_assoc, Int.mul_comm 2 m, Int.mul_assoc, hr, Int.pow_succ]
        ac_rfl
      omega
    obtain ⟨t, ht⟩ := odd_pow hm k q' ⟨r, this⟩
    exact ⟨t, by rw [ht, Int.pow_succ]; ac_rfl⟩
def sumF (f : Sd → Nat) (xs : List Sd) : Nat := (xs.map f).sum
theorem sumF_one {f : Sd → Nat} : ∀ {xs : List Sd} {x : Sd}, x ∈ xs → f x ≤ sumF f xs
  | y :: ys, x, h => by
    unfold sumF
    rw [List.map_cons, List.sum_cons]
    rcases List.mem_cons.mp h with e | h
    · rw [e]; omega
    · have := sumF_one (f := f) h
      unfold sumF at this
      omega
theorem sumF_two {f : Sd → Nat} : ∀ {xs : List Sd} {x y : Sd}, x ∈ xs → y ∈ xs → x ≠ y → f x + f y ≤ sumF f xs
  | z :: zs, x, y, hx, hy, ne => by
    unfold sumF
    rw [List.map_cons, List.sum_cons]
    rcases List.mem_cons.mp hx with e | hx
    · rcases List.mem_cons.mp hy with e' | hy
      · exact absurd (e.trans e'.symm) ne
      · have := sumF_one (f := f) hy
        unfold sumF at this
        rw [e]
        omega
    · rcases List.mem_cons.mp hy with e' | hy
      · have := sumF_one (f := f) hx
        unfold sumF at this
        rw [e']
        omega
      · have := sumF_two (f := f) hx hy ne
        unfold sumF at this
        omega
/-- where no shorter power of 2 serves: it is at most as long as all bottoms together -/
theorem first_shift {xs : List Sd} (ok : ∀ x ∈ xs, x.Ok) {bl : Int → Nat} (hbl : ∀ q, 0 < q → q < 2 ^ bl q) {m : Int} {k : Nat} (h : SF xs m (2 ^ k)) (no : ∀ j, j < k → ∀ m', ¬ SF xs m' (2 ^ j)) : k ≤ sumF (fun x => bl x.L.2) xs + sumF (fun x => bl x.H.2) xs := by
  apply Classical.byContradiction
  intro hk
  generalize hK : sumF (fun x => bl x.L.2) xs + sumF (fun x => bl x.H.2) xs = K at *
  have lt : K < k := by omega
  have c0 : (0 : Int) < 2 ^ (k - K) := Int.pow_pos (by decide)
  have b0 : (0 : Int) < 2 ^ K := Int.pow_pos (by decide)
  have eB : (2 : Int) ^ k = 2 ^ K * 2 ^ (k - K) := by rw [← Int.pow_add]; congr 1; omega
  have odd : m % 2 = 1 := by
    rcases Int.emod_two_eq m with e | e
    · exfalso
      obtain ⟨m', rfl⟩ := Int.dvd_of_emod_eq_zero e
      refine no (k - 1) (by omega) m' fun x hx => ?_
      have := h x hx
      have e2 : (2 : Int) ^ k = 2 ^ (k - 1) * 2 := by rw [← Int.pow_succ]; congr 1; omega
      rw [e2, Int.mul_comm 2 m'] at this
      exact (Sd.in_mul (by decide)).mp this
    · exact e
  generalize hc : (2 : Int) ^ (k - K) = c at *
  generalize hb : (2 : Int) ^ K = b at *
  -- no power fits a bottom
  have small : ∀ q, 0 < q → bl q ≤ K → ¬ (2 : Int) ^ k ∣ q := fun q q0 hq d => by
    have l1 := Int.le_of_dvd q0 d
    have l2 := hbl q q0
    have l3 : (2 : Int) ^ bl q ≤ 2 ^ k := by
      have : (2 : Int) ^ k = 2 ^ bl q * 2 ^ (k - bl q) := by rw [← Int.pow_add]; congr 1; omega
      have p1 : (0 : Int) < 2 ^ bl q := Int.pow_pos (by decide)
      have p2 : (0 : Int) < 2 ^ (k - bl q) := Int.pow_pos (by decide)
      rw [this]
      have := Int.mul_le_mul_of_nonneg_left (show (1 : Int) ≤ 2 ^ (k - bl q) by omega) (Int.le_of_lt p1)
      omega
    omega
  have prod : ∀ q q', 0 < q → 0 < q' → bl q + bl q' ≤ K → q * q' < b := fun q q' q0 q0' hq => by
    have l1 := hbl q q0
    have l2 := hbl q' q0'
    have l3 : q * q' < 2 ^ bl q * 2 ^ bl q' := by
      have a1 : q * q' < 2 ^ bl q * q' := Int.mul_lt_mul_of_pos_right l1 q0'
      have a2 : (2 : Int) ^ bl q * q' ≤ 2 ^ bl q * 2 ^ bl q' := Int.mul_le_mul_of_nonneg_left (Int.le_of_lt l2) (Int.le_of_lt (Int.pow_pos (by decide)))
      omega
    rw [← Int.pow_add] at l3
    have : b = 2 ^ (bl q + bl q') * 2 ^ (K - (bl q + bl q')) := by rw [← hb, ← Int.pow_add]; congr 1; omega
    have p1 : (0 : Int) < 2 ^ (bl q + bl q') := Int.pow_pos (by decide)
    have p2 : (0 : Int) < 2 ^ (K - (bl q + bl q')) := Int.pow_pos (by decide)
    have := Int.mul_le_mul_of_nonneg_left (show (1 : Int) ≤ 2 ^ (K - (bl q + bl q')) by omega) (Int.le_of_lt p1)
    omega
  have g1 : m / c * c ≤ m := Int.ediv_mul_le m (by omega)
  have g2 : m < (m / c + 1) * c := Int.lt_ediv_add_one_mul_self m c0
  generalize hg : m / c = g at *
  have hb0 : 0 < b := b0
  have nog : ∀ z, ∃ x ∈ xs, ¬ x.In z b := fun z => by
    apply Classical.byContradiction
    intro hh
    refine no K lt z fun x hx => ?_
    apply Classical.byContradiction
    intro hi
    rw [hb] at hi
    exact hh ⟨x, hx, hi⟩
  rw [eB] at h

  -- the end below
  obtain ⟨x, hx, nx⟩ := nog g
  obtain ⟨y, hy, ny⟩ := nog (g + 1)
  have ox := ok x hx
  have oy := ok y hy
  obtain ⟨x1, x2⟩ := h x hx
  obtain ⟨y1, y2⟩ := h y hy
  -- at x: below
  have A : (x.sg = 1 ∧ g * x.L.2 < x.L.1 * b) ∨ (x.sg = -1 ∧ x.H.1 * b ≤ -g * x.H.2) := by
    rcases ox.s with e | e
    · refine .inl ⟨e, ?_⟩
      apply Int.not_le.mp
      intro z
      apply nx
      unfold Sd.In
      rw [e, Int.one_mul] at x2
      rw [e, Int.one_mul]
      refine ⟨z, ?_⟩
      have w1 : g * c * x.H.2 ≤ m * x.H.2 := Int.mul_le_mul_of_nonneg_right g1 (Int.le_of_lt ox.h)
      refine Int.lt_of_mul_lt_mul_right (show g * x.H.2 * c < x.H.1 * b * c from ?_) (Int.le_of_lt c0)
      rw [show g * x.H.2 * c = g * c * x.H.2 by ac_rfl, show x.H.1 * b * c = x.H.1 * (b * c) by ac_rfl]
      omega
    · refine .inr ⟨e, ?_⟩
      apply Int.not_lt.mp
      intro z
      apply nx
      unfold Sd.In
      rw [e, show (-1 : Int) * m = -m by omega] at x1
      rw [e, show (-1 : Int) * g = -g by omega]
      refine ⟨?_, z⟩
      have w1 : -m * x.L.2 ≤ -(g * c) * x.L.2 := Int.mul_le_mul_of_nonneg_right (by omega) (Int.le_of_lt ox.l)
      refine Int.le_of_mul_le_mul_right (show x.L.1 * b * c ≤ -g * x.L.2 * c from ?_) c0
      rw [show -g * x.L.2 * c = -(g * c) * x.L.2 by rw [Int.neg_mul, Int.neg_mul, Int.neg_mul]; congr 1; ac_rfl, show x.L.1 * b * c = x.L.1 * (b * c) by ac_rfl]
      omega
  have C : (y.sg = 1 ∧ y.H.1 * b ≤ (g + 1) * y.H.2) ∨ (y.sg = -1 ∧ -(g + 1) * y.L.2 < y.L.1 * b) := by
    rcases oy.s with e | e
    · refine .inl ⟨e, ?_⟩
      apply Int.not_lt.mp
      intro z
      apply ny
      unfold Sd.In
      rw [e, Int.one_mul] at y1
      rw [e, Int.one_mul]
      refine ⟨?_, z⟩
      have w1 : m * y.L.2 ≤ (g + 1) * c * y.L.2 := Int.mul_le_mul_of_nonneg_right (Int.le_of_lt g2) (Int.le_of_lt oy.l)
      refine Int.le_of_mul_le_mul_right (show y.L.1 * b * c ≤ (g + 1) * y.L.2 * c from ?_) c0
      rw [show (g + 1) * y.L.2 * c = (g + 1) * c * y.L.2 by ac_rfl, show y.L.1 * b * c = y.L.1 * (b * c) by ac_rfl]
      omega
    · refine .inr ⟨e, ?_⟩
      apply Int.not_le.mp
      intro z
      apply ny
      unfold Sd.In
      rw [e, show (-1 : Int) * m = -m by omega] at y2
      rw [e, show (-1 : Int) * (g + 1) = -(g + 1) by omega]
      refine ⟨z, ?_⟩
      have w1 : -((g + 1) * c) * y.H.2 ≤ -m * y.H.2 := Int.mul_le_mul_of_nonneg_right (by omega) (Int.le_of_lt oy.h)
      refine Int.lt_of_mul_lt_mul_right (show -(g + 1) * y.H.2 * c < y.H.1 * b * c from ?_) (Int.le_of_lt c0)
      rw [show -(g + 1) * y.H.2 * c = -((g + 1) * c) * y.H.2 by rw [Int.neg_mul, Int.neg_mul, Int.neg_mul]; congr 1; ac_rfl, show y.H.1 * b * c = y.H.1 * (b * c) by ac_rfl]
      omega
  have B0 : 0 < b * c := Int.mul_pos hb0 c0
  rcases A with ⟨ex, A⟩ | ⟨ex, A⟩
  · rw [ex, Int.one_mul] at x1
    have q0 := ox.l
    rcases C with ⟨ey, C⟩ | ⟨ey, C⟩
    · -- from a value to one above another, above 0
      rw [ey, Int.one_mul] at y2
      have q0' := oy.h
      have pr := prod x.L.2 y.H.2 q0 q0' (by have := sumF_one (f := fun x => bl x.L.2) hx; have := sumF_one (f := fun x => bl x.H.2) hy; omega)
      generalize x.L.2 = q at *
      generalize y.H.2 = q' at *
      generalize x.L.1 = a at *
      generalize y.H.1 = z at *
      have e1 : 0 < (z * q - a * q') * (b * c) := by
        have a1 : a * (b * c) * q' ≤ m * q * q' := Int.mul_le_mul_of_nonneg_right x1 (Int.le_of_lt q0')
        have a2 : m * q' * q < z * (b * c) * q := Int.mul_lt_mul_of_pos_right y2 q0
        rw [Int.sub_mul, show z * q * (b * c) = z * (b * c) * q by ac_rfl, show a * q' * (b * c) = a * (b * c) * q' by ac_rfl]
        have : m * q * q' = m * q' * q := by ac_rfl
        omega
      have e2 : 0 < z * q - a * q' := pos_of_mul B0 e1
      have e3 : (z * q - a * q') * b ≤ q * q' - q' := by
        have a1 : z * b * q ≤ (g + 1) * q' * q := Int.mul_le_mul_of_nonneg_right C (Int.le_of_lt q0)
        have a2 : (g * q + 1) * q' ≤ a * b * q' := Int.mul_le_mul_of_nonneg_right (by omega) (Int.le_of_lt q0')
        rw [Int.sub_mul, show z * q * b = z * b * q by ac_rfl, show a * q' * b = a * b * q' by ac_rfl]
        rw [Int.add_mul, Int.one_mul] at a2
        rw [show (g + 1) * q' * q = g * q * q' + q * q' by rw [Int.add_mul, Int.add_mul, Int.one_mul]; congr 1 <;> ac_rfl] at a1
        omega
      have e4 : 1 * b ≤ (z * q - a * q') * b := Int.mul_le_mul_of_nonneg_right (by omega) (Int.le_of_lt hb0)
      omega
    · -- from a value above 0 to one below it
      rw [ey, show (-1 : Int) * m = -m by omega] at y1
      have q0' := oy.l
      have xy : x ≠ y := fun e => by rw [e, ey] at ex; omega
      have bx := sumF_two (f := fun x => bl x.L.2) hx hy xy
      have pr := prod x.L.2 y.L.2 q0 q0' (by omega)
      have sm := small x.L.2 q0 (by omega)
      have x2' := x1
      generalize x.L.2 = q at *
      generalize y.L.2 = q' at *
      generalize x.L.1 = a at *
      generalize y.L.1 = z at *
      have a1 : a * (b * c) * q' ≤ m * q * q' := Int.mul_le_mul_of_nonneg_right x1 (Int.le_of_lt q0')
      have a2 : z * (b * c) * q ≤ -m * q' * q := Int.mul_le_mul_of_nonneg_right y1 (Int.le_of_lt q0)
      have e0 : -m * q' * q = -(m * q * q') := by rw [Int.neg_mul, Int.neg_mul]; congr 1; ac_rfl
      have e1 : (-z * q - a * q') * (b * c) = -(z * (b * c) * q) - a * (b * c) * q' := by
        rw [Int.sub_mul, Int.neg_mul, Int.neg_mul]
        congr 1
        · congr 1; ac_rfl
        · ac_rfl
      rcases Int.lt_or_le 0 (-z * q - a * q') with e2 | e2
      · have e3 : (-z * q - a * q') * b ≤ q * q' - q' := by
          have b1 : -(z * b) * q ≤ (g + 1) * q' * q := Int.mul_le_mul_of_nonneg_right (by rw [Int.neg_mul] at C; omega) (Int.le_of_lt q0)
          have b2 : (g * q + 1) * q' ≤ a * b * q' := Int.mul_le_mul_of_nonneg_right (by omega) (Int.le_of_lt q0')
          rw [Int.sub_mul, show -z * q * b = -(z * b) * q by rw [Int.neg_mul, Int.neg_mul, Int.neg_mul]; congr 1; ac_rfl, show a * q' * b = a * b * q' by ac_rfl]
          rw [Int.add_mul, Int.one_mul] at b2
          rw [show (g + 1) * q' * q = g * q * q' + q * q' by rw [Int.add_mul, Int.add_mul, Int.one_mul]; congr 1 <;> ac_rfl] at b1
          omega
        have e4 : 1 * b ≤ (-z * q - a * q') * b := Int.mul_le_mul_of_nonneg_right (by omega) (Int.le_of_lt hb0)
        omega
      · -- one slope alone
        have e3 : (-z * q - a * q') * (b * c) ≤ 0 := Int.mul_nonpos_of_nonpos_of_nonneg e2 (Int.le_of_lt B0)
        have e4 : a * (b * c) * q' = m * q * q' := by omega
        have e5 : a * (b * c) = m * q := Int.eq_of_mul_eq_mul_right (by omega) e4
        exact sm (odd_pow odd k q ⟨a, by rw [← e5, eB]; ac_rfl⟩)
  · rw [ex, show (-1 : Int) * m = -m by omega] at x2
    have q0 := ox.h
    rcases C with ⟨ey, C⟩ | ⟨ey, C⟩
    · rw [ey, Int.one_mul] at y2
      have q0' := oy.h
      have xy : x ≠ y := fun e => by rw [e, ey] at ex; omega
      have bx := sumF_two (f := fun x => bl x.H.2) hx hy xy
      have pr := prod x.H.2 y.H.2 q0 q0' (by omega)
      generalize x.H.2 = q at *
      generalize y.H.2 = q' at *
      generalize x.H.1 = a at *
      generalize y.H.1 = z at *
      have a1 : -m * q * q' < a * (b * c) * q' := Int.mul_lt_mul_of_pos_right x2 q0'
      have a2 : m * q' * q < z * (b * c) * q := Int.mul_lt_mul_of_pos_right y2 q0
      have e0 : -m * q * q' = -(m * q' * q) := by rw [Int.neg_mul, Int.neg_mul]; congr 1; ac_rfl
      have e1 : 0 < (z * q + a * q') * (b * c) := by
        rw [Int.add_mul, show z * q * (b * c) = z * (b * c) * q by ac_rfl, show a * q' * (b * c) = a * (b * c) * q' by ac_rfl]
        omega
      have e2 := pos_of_mul B0 e1
      have e3 : (z * q + a * q') * b ≤ q * q' := by
        have b1 : z * b * q ≤ (g + 1) * q' * q := Int.mul_le_mul_of_nonneg_right C (Int.le_of_lt q0)
        have b2 : a * b * q' ≤ -g * q * q' := Int.mul_le_mul_of_nonneg_right A (Int.le_of_lt q0')
        rw [Int.add_mul, show z * q * b = z * b * q by ac_rfl, show a * q' * b = a * b * q' by ac_rfl]
        rw [show (g + 1) * q' * q = g * q * q' + q * q' by rw [Int.add_mul, Int.add_mul, Int.one_mul]; congr 1 <;> ac_rfl] at b1
        rw [show -g * q * q' = -(g * q * q') by rw [Int.neg_mul, Int.neg_mul]] at b2
        omega
      have e4 : 1 * b ≤ (z * q + a * q') * b := Int.mul_le_mul_of_nonneg_right (by omega) (Int.le_of_lt hb0)
      omega
    · rw [ey, show (-1 : Int) * m = -m by omega] at y1
      have q0' := oy.l
      have pr := prod x.H.2 y.L.2 q0 q0' (by have := sumF_one (f := fun x => bl x.H.2) hx; have := sumF_one (f := fun x => bl x.L.2) hy; omega)
      generalize x.H.2 = q at *
      generalize y.L.2 = q' at *
      generalize x.H.1 = a at *
      generalize y.L.1 = z at *
      have a1 : -m * q * q' < a * (b * c) * q' := Int.mul_lt_mul_of_pos_right x2 q0'
      have a2 : z * (b * c) * q ≤ -m * q' * q := Int.mul_le_mul_of_nonneg_right y1 (Int.le_of_lt q0)
      have e0 : -m * q * q' = -m * q' * q := by ac_rfl
      have e1 : 0 < (a * q' - z * q) * (b * c) := by
        rw [Int.sub_mul, show z * q * (b * c) = z * (b * c) * q by ac_rfl, show a * q' * (b * c) = a * (b * c) * q' by ac_rfl]
        omega
      have e2 := pos_of_mul B0 e1
      have e3 : (a * q' - z * q) * b ≤ q * q' - q := by
        have b1 : -(z * b) * q ≤ ((g + 1) * q' - 1) * q := Int.mul_le_mul_of_nonneg_right (by rw [Int.neg_mul] at C; omega) (Int.le_of_lt q0)
        have b2 : a * b * q' ≤ -g * q * q' := Int.mul_le_mul_of_nonneg_right A (Int.le_of_lt q0')
        rw [Int.sub_mul, show z * q * b = z * b * q by ac_rfl, show a * q' * b = a * b * q' by ac_rfl]
        rw [show ((g + 1) * q' - 1) * q = g * q * q' + q * q' - q by rw [Int.sub_mul, Int.one_mul, Int.add_mul, Int.add_mul, Int.one_mul]; congr 2 <;> ac_rfl, Int.neg_mul] at b1
        rw [show -g * q * q' = -(g * q * q') by rw [Int.neg_mul, Int.neg_mul]] at b2
        omega
      have e4 : 1 * b ≤ (a * q' - z * q) * b := Int.mul_le_mul_of_nonneg_right (by omega) (Int.le_of_lt hb0)
      omega
end M


namespace My
open PySem L2 PyProof.Rows Z
/-! ### bare multipliers: the ends of all sides -/
def sdD (x : M.Sd) : PyData := .tuple [.int x.sg, prD x.L, prD x.H]
theorem app_at {en : En} {S S1 : Sto} {i c : Nat} {f : SE} {d : PyData} {ds : List PyData} (h : f.run en S = some (.pu d, S1)) (hi : en[i]? = some (some (.mu c))) (hc : S1[c]? = some (true, ds)) (hl : ds.length ≤ 90000) : (gApp i f).run en S = some (.nx, en, S1.set c (true, ds ++ [d])) := by
  rw [r_app, h, Option.bind_some]
  show (match en[i]? with
    | some (some (.mu j)) => match S1[j]? with
      | some (true, ds) => if few ds = true then some (Fl.nx, en, S1.set j (true, ds ++ [d])) else none
      | _ => none
    | _ => none) = _
  rw [hi]
  show (match S1[c]? with
      | some (true, ds) => if few ds = true then some (Fl.nx, en, S1.set c (true, ds ++ [d])) else none
      | _ => none) = _
  rw [hc]
  exact if_pos (decide_eq_true (by show ds.length ≤ 100000; omega))
structure SdOk (x : M.Sd) (B : Int) : Prop where
  s : x.sg = 1 ∨ x.sg = -1
  l : dvs x.L.2
  h : dvs x.H.2
  ml : mulOk (-x.L.1) B = true
  mh : mulOk (-x.H.1) B = true
section
variable {N j : Nat} {B : Int}
def eTp (j c1 c2 : Nat) (B : Int) (x4 x5 x6 x7 x8 x9 : Option W) : En := [some (.mu j), some (.pu (.int B)), some (.mu c1), some (.mu c2), x4, x5, x6, x7, x8, x9]
theorem ts_body {x : M.Sd} (o : SdOk x B) {S : Sto} {as bs : List PyData} (la : as.length ≤ 90000) (lb : bs.length ≤ 90000) {x7 x8 x9 : Option W} : ∃ y7, (h_u_tops_of_sides_1 N).run (eTp j S.length (S.length + 1) B (some (.pu (.int x.sg))) (some (.pu (prD x.L))) (some (.pu (prD x.H))) x7 x8 x9) (S ++ [(true, as), (true, bs)]) = some (.nx, eTp j S.length (S.length + 1) B (some (.pu (.int x.sg))) (some (.pu (prD x.L))) (some (.pu (prD x.H))) y7 x8 x9, S ++ [(true, as ++ [.int (x.least B)]), (true, bs ++ [.int (x.great B)])]) := by
  have i0 : ∀ (p : Int × Int) U, oIx (.pu (prD p)) (.pu (.int 0)) U = some (.pu (.int p.1)) := fun _ _ => rfl
  have i1 : ∀ (p : Int × Int) U, oIx (.pu (prD p)) (.pu (.int 1)) U = some (.pu (.int p.2)) := fun _ _ => rfl
  have tm : PyData.tuple [.int (x.lo B), .int (x.hi B)] = prD (x.lo B, x.hi B) := rfl
  refine ⟨some (.pu (prD (x.lo B, x.hi B))), ?_⟩
  have j0 := fun U => i0 (x.lo B, x.hi B) U
  have j1 := fun U => i1 (x.lo B, x.hi B) U
  have l0 := fun U => i0 x.L U
  have l1 := fun U => i1 x.L U
  have h0 := fun U => i0 x.H U
  have h1 := fun U => i1 x.H U
  have dl : ∀ i, divOk i x.L.2 = true := fun i => divOk_of o.l
  have dh : ∀ i, divOk i x.H.2 = true := fun i => divOk_of o.h
  have ml := o.ml
  have mh := o.mh
  have elo : -(-x.L.1 * B / x.L.2) = x.lo B := rfl
  have ehi : -(-x.H.1 * B / x.H.2) - 1 = x.hi B := rfl
  have g1 : ∀ {p q : Bool × List PyData}, (S ++ [p, q])[S.length]? = some p := fun {p q} => by rw [List.getElem?_append_right (Nat.le_refl _), Nat.sub_self]; rfl
  have g2 : ∀ {p q : Bool × List PyData}, (S ++ [p, q])[S.length + 1]? = some q := fun {p q} => by rw [List.getElem?_append_right (by omega), show S.length + 1 - S.length = 1 by omega]; rfl
  have s1 : ∀ {p q r : Bool × List PyData}, (S ++ [p, q]).set S.length r = S ++ [r, q] := fun {p q r} => by rw [List.set_append_right _ _ (Nat.le_refl _), Nat.sub_self]; rfl
  have s2 : ∀ {p q r : Bool × List PyData}, (S ++ [p, q]).set (S.length + 1) r = S ++ [p, r] := fun {p q r} => by rw [List.set_append_right _ _ (by omega), show S.length + 1 - S.length = 1 by omega]; rfl
  unfold h_u_tops_of_sides_1 eTp
  refine (seq_nx (en1 := [some (.mu j), some (.pu (.int B)), some (.mu S.length), some (.mu (S.length + 1)), some (.pu (.int x.sg)), some (.pu (prD x.L)), some (.pu (prD x.H)), some (.pu (prD (x.lo B, x.hi B))), x8, x9]) (S1 := S ++ [(true, as), (true, bs)]) ?_).trans ?_
  · rw [← tm]
    generalize prD x.L = PL at *
    generalize prD x.H = PH at *
    conv => lhs; simp [l0, l1, h0, h1, dl, dh, ml, mh, elo, ehi]
  refine (seq_nx (app_at (d := .int (x.least B)) (ds := as) (S1 := S ++ [(true, as), (true, bs)]) ?_ rfl g1 la)).trans ?_
  · unfold M.Sd.least
    generalize prD (x.lo B, x.hi B) = PT at *
    generalize x.lo B = lo at *
    generalize x.hi B = hi at *
    rcases o.s with e | e
    · rw [e, if_pos rfl]
      conv => lhs; simp [Z.eq_int, j0, j1]
    · rw [e, if_neg (by decide)]
      conv => lhs; simp [Z.eq_int, j0, j1]
  rw [s1]
  refine (app_at (d := .int (x.great B)) (ds := bs) (S1 := S ++ [(true, as ++ [.int (x.least B)]), (true, bs)]) ?_ rfl g2 lb).trans ?_
  · unfold M.Sd.great
    generalize prD (x.lo B, x.hi B) = PT at *
    generalize x.lo B = lo at *
    generalize x.hi B = hi at *
    rcases o.s with e | e
    · rw [e, if_pos rfl]
      conv => lhs; simp [Z.eq_int, j0, j1]
    · rw [e, if_neg (by decide)]
      conv => lhs; simp [Z.eq_int, j0, j1]
  · rw [s2]
theorem ts_loop {S : Sto} {x8 x9 : Option W} : ∀ (xs : List M.Sd) (as bs : List PyData) (x4 x5 x6 x7 : Option W), (∀ x ∈ xs, SdOk x B) → as.length + xs.length ≤ 90000 → bs.length + xs.length ≤ 90000 → ∃ y4 y5 y6 y7, loopR (tgSeq 3 (tgCons (tgName 4) (tgCons (tgName 5) (tgCons (tgName 6) tgNil)))) (h_u_tops_of_sides_1 N) (xs.map sdD) (eTp j S.length (S.length + 1) B x4 x5 x6 x7 x8 x9) (S ++ [(true, as), (true, bs)]) = some (.nx, eTp j S.length (S.length + 1) B y4 y5 y6 y7 x8 x9, S ++ [(true, as ++ dI (xs.map (·.least B))), (true, bs ++ dI (xs.map (·.great B)))])
  | [], as, bs, x4, x5, x6, x7, _, _, _ => ⟨x4, x5, x6, x7, by
    show some _ = some _
    rw [show dI (([] : List M.Sd).map (·.least B)) = [] from rfl, show dI (([] : List M.Sd).map (·.great B)) = [] from rfl, List.append_nil, List.append_nil]⟩
  | x :: xs, as, bs, x4, x5, x6, x7, ok, la, lb => by
    rw [List.length_cons] at la lb
    obtain ⟨y7, r1⟩ := ts_body (N := N) (j := j) (ok x List.mem_cons_self) (S := S) (as := as) (bs := bs) (by omega) (by omega) (x7 := x7) (x8 := x8) (x9 := x9)
    obtain ⟨z4, z5, z6, z7, r2⟩ := ts_loop xs (as ++ [.int (x.least B)]) (bs ++ [.int (x.great B)]) (some (.pu (.int x.sg))) (some (.pu (prD x.L))) (some (.pu (prD x.H))) y7 (fun y hy => ok y (List.mem_cons_of_mem _ hy)) (by rw [List.length_append]; show as.length + 1 + xs.length ≤ 90000; omega) (by rw [List.length_append]; show bs.length + 1 + xs.length ≤ 90000; omega)
    refine ⟨z4, z5, z6, z7, ?_⟩
    rw [List.map_cons, loop_nx (en1 := eTp j S.length (S.length + 1) B (some (.pu (.int x.sg))) (some (.pu (prD x.L))) (some (.pu (prD x.H))) x7 x8 x9) rfl r1, r2]
    rw [List.append_assoc, List.append_assoc]
    rfl
def mxB : List Int → Int | x :: xs => maxL x xs | [] => 0
def mnB : List Int → Int | x :: xs => minL x xs | [] => 0
def topO (xs : List M.Sd) (B : Int) : Option (Int × Int) := if mxB (xs.map (·.least B)) ≤ mnB (xs.map (·.great B)) then some (mxB (xs.map (·.least B)), mnB (xs.map (·.great B))) else none
def oP : Option (Int × Int) → PyData
  | some p => prD p
  | none => .none
theorem ts_run {S : Sto} {fl : Bool} {xs : List M.Sd} (hS : S[j]? = some (fl, xs.map sdD)) (ok : ∀ x ∈ xs, SdOk x B) (ne : xs ≠ []) (lx : xs.length ≤ 80000) : (f_u_tops_of_sides N).run [.mu j, .pu (.int B)] S = some (.pu (oP (topO xs B)), S.set j (false, xs.map sdD) ++ [(true, dI (xs.map (·.least B))), (true, dI (xs.map (·.great B)))]) := by
  have jl : j < S.length := (List.getElem?_eq_some_iff.mp hS).1
  have it : ∀ (x4 x5 x6 x7 x8 x9 : Option W), (r_u_tops_of_sides_1 N).run (eTp j S.length (S.length + 1) B x4 x5 x6 x7 x8 x9) (S ++ [(true, []), (true, [])]) = some (xs.map sdD, S.set j (false, xs.map sdD) ++ [(true, []), (true, [])]) := fun x4 x5 x6 x7 x8 x9 => by
    have g : (S ++ [((true : Bool), ([] : List PyData)), (true, [])])[j]? = some (fl, xs.map sdD) := by rw [List.getElem?_append_left jl]; exact hS
    show (Option.bind (fz (.mu j) (S ++ [(true, []), (true, [])])) _) = _
    cases fl with
    | true =>
      have e : fz (.mu j) (S ++ [(true, []), (true, [])]) = some (.list (xs.map sdD), (S ++ [(true, []), (true, [])]).set j (false, xs.map sdD)) := by
        show (match (S ++ [((true : Bool), ([] : List PyData)), (true, [])])[j]? with
          | some (true, ds) => some (PyData.list ds, (S ++ [(true, []), (true, [])]).set j (false, ds))
          | some (false, ds) => some (.list ds, S ++ [(true, []), (true, [])])
          | none => none) = _
        rw [g]
      rw [e, List.set_append_left _ _ jl]
      rfl
    | false =>
      have e : fz (.mu j) (S ++ [(true, []), (true, [])]) = some (.list (xs.map sdD), S ++ [(true, []), (true, [])]) := by
        show (match (S ++ [((true : Bool), ([] : List PyData)), (true, [])])[j]? with
          | some (true, ds) => some (PyData.list ds, (S ++ [(true, []), (true, [])]).set j (false, ds))
          | some (false, ds) => some (.list ds, S ++ [(true, []), (true, [])])
          | none => none) = _
        rw [g]
      have es : S.set j (false, xs.map sdD) = S := by
        apply List.ext_getElem?
        intro i
        by_cases c : j = i
        · subst c
          rw [List.getElem?_set_self jl, hS]
        · rw [List.getElem?_set_ne c]
      rw [e, es]
      rfl
  have sl : (S.set j (false, xs.map sdD)).length = S.length := List.length_set
  have lp := fun x8 x9 => ts_loop (N := N) (j := j) (B := B) (S := S.set j (false, xs.map sdD)) (x8 := x8) (x9 := x9) xs [] [] none none none none ok (by show 0 + _ ≤ _; omega) (by show 0 + _ ≤ _; omega)
  rw [sl] at lp
  obtain ⟨y4, y5, y6, y7, lp⟩ := lp none none
  rw [List.nil_append, List.nil_append] at lp
  have mx : ∀ U : Sto, U[S.length]? = some (true, dI (xs.map (·.least B))) → oMax [.mu S.length] U = some (.pu (.int (mxB (xs.map (·.least B))))) := fun U hU => by
    obtain ⟨x, ys, rfl⟩ := List.exists_cons_of_ne_nil ne
    have ll : look (.mu S.length) U = some (.list (dI ((x :: ys).map (·.least B)))) := by
      show (U[S.length]?).map (fun p => PyData.list p.2) = _
      rw [hU]
      rfl
    show (match look (.mu S.length) U with
      | some (.list ds) => (match intsOf ds with | some (n :: ns) => some (W.pu (.int (maxL n ns))) | _ => none)
      | _ => none) = _
    rw [ll]
    show (match intsOf (dI ((x :: ys).map (·.least B))) with | some (n :: ns) => some (W.pu (.int (maxL n ns))) | _ => none) = _
    rw [intsOf_map]
    rfl
  have mn : ∀ U : Sto, U[S.length + 1]? = some (true, dI (xs.map (·.great B))) → oMin [.mu (S.length + 1)] U = some (.pu (.int (mnB (xs.map (·.great B))))) := fun U hU => by
    obtain ⟨x, ys, rfl⟩ := List.exists_cons_of_ne_nil ne
    have ll : look (.mu (S.length + 1)) U = some (.list (dI ((x :: ys).map (·.great B)))) := by
      show (U[S.length + 1]?).map (fun p => PyData.list p.2) = _
      rw [hU]
      rfl
    show (match look (.mu (S.length + 1)) U with
      | some (.list ds) => (match intsOf ds with | some (n :: ns) => some (W.pu (.int (minL n ns))) | _ => none)
      | _ => none) = _
    rw [ll]
    show (match intsOf (dI ((x :: ys).map (·.great B))) with | some (n :: ns) => some (W.pu (.int (minL n ns))) | _ => none) = _
    rw [intsOf_map]
    rfl
  have g1 : ∀ {p q : Bool × List PyData}, (S.set j (false, xs.map sdD) ++ [p, q])[S.length]? = some p := fun {p q} => by rw [List.getElem?_append_right (by rw [sl]; exact Nat.le_refl _), sl, Nat.sub_self]; rfl
  have g2 : ∀ {p q : Bool × List PyData}, (S.set j (false, xs.map sdD) ++ [p, q])[S.length + 1]? = some q := fun {p q} => by rw [List.getElem?_append_right (by rw [sl]; omega), sl, show S.length + 1 - S.length = 1 by omega]; rfl
  have mx := mx _ (g1 (q := (true, dI (xs.map (·.great B)))))
  have mn := mn _ (g2 (p := (true, dI (xs.map (·.least B)))))
  rw [q_u_tops_of_sides]
  unfold b_u_tops_of_sides
  refine fpar (w1 := .mu S.length) (w2 := .mu (S.length + 1)) (S1 := S ++ [(true, [])]) (S2 := S ++ [(true, []), (true, [])]) rfl ?_ rfl ?_
  · show some (W.mu (S ++ [((true : Bool), ([] : List PyData))]).length, (S ++ [(true, [])]) ++ [(true, [])]) = _
    rw [List.length_append, List.append_assoc]
    rfl
  refine ffor (it none none none none none none) lp ?_
  have ob := oP
  generalize (dI (xs.map (·.least B))) = DA at *
  generalize (dI (xs.map (·.great B))) = DB at *
  unfold topO
  generalize mxB (xs.map (·.least B)) = LO at *
  generalize mnB (xs.map (·.great B)) = HI at *
  unfold eTp
  refine fpar (w1 := .pu (.int LO)) (w2 := .pu (.int HI)) (S1 := S.set j (false, xs.map sdD) ++ [(true, DA), (true, DB)]) (S2 := S.set j (false, xs.map sdD) ++ [(true, DA), (true, DB)]) (by
    generalize S.set j (false, xs.map sdD) ++ [(true, DA), (true, DB)] = U at *
    simp [mx]) (by
    generalize S.set j (false, xs.map sdD) ++ [(true, DA), (true, DB)] = U at *
    simp [mn]) rfl ?_
  generalize S.set j (false, xs.map sdD) ++ [(true, DA), (true, DB)] = U at *
  refine fret ?_
  by_cases c : LO ≤ HI
  · rw [if_pos c]
    simp [c, oP, prD]
  · rw [if_neg c]
    simp [c, oP]
end
end My


namespace My
open PySem L2 PyProof.Rows Z
/-! ### the greatest and the least of things that carry a quotient -/
structure Quo (α : Type) where
  enc : α → PyData
  num : α → Int
  den : α → Int
  ix0 : ∀ x S, oIx (.pu (enc x)) (.pu (.int 0)) S = some (.pu (.int (num x)))
  ix1 : ∀ x S, oIx (.pu (enc x)) (.pu (.int 1)) S = some (.pu (.int (den x)))
theorem mostA_loop {α : Type} (E : Quo α) {s : Int} {N : Nat} {v : PyData} {S : Sto} (hs : s = 1 ∨ s = -1) : ∀ (xs done : List α) (b : α) (x3 : Option W), (∀ x, x ∈ done ∨ x ∈ xs → (E.den x) ≤ 2 ^ 60) → (∀ x ∈ xs, 0 < (E.den x)) → (∀ x ∈ done, 0 < (E.den x)) → b ∈ done → (∀ x ∈ done, s * ((E.num x) * (E.den b) - (E.num b) * (E.den x)) ≤ 0) →
    ∃ c x3', loopR (tgName 3) (h_u_most_of_1 N) (xs.map E.enc) [some (.pu v), some (.pu (.int s)), some (.pu (E.enc b)), x3] S = some (.nx, [some (.pu v), some (.pu (.int s)), some (.pu (E.enc c)), x3'], S) ∧ c ∈ done ++ xs ∧ ∀ x ∈ done ++ xs, s * ((E.num x) * (E.den c) - (E.num c) * (E.den x)) ≤ 0
  | [], done, b, x3, _, _, _, hb, h => ⟨b, x3, rfl, by simpa using hb, by simpa using h⟩
  | x :: xs, done, b, x3, hs', hx, hd, hb, h => by
    have tg : (tgName 3).run (E.enc x) [some (.pu v), some (.pu (.int s)), some (.pu (E.enc b)), x3] = some [some (.pu v), some (.pu (.int s)), some (.pu (E.enc b)), some (.pu (E.enc x))] := rfl
    have x0 := hx x List.mem_cons_self
    have hd' : ∀ y ∈ done ++ [x], 0 < (E.den y) := fun y hy => by
      rcases List.mem_append.mp hy with h | h
      · exact hd y h
      · rw [List.mem_singleton.mp h]
        exact x0
    have m1 : mulOk (E.num x) (E.den b) = true := mulOk_r (by have := hd b hb; omega) (by have := hs' b (.inl hb); omega)
    have m2 : mulOk (E.num b) (E.den x) = true := mulOk_r (by omega) (by have := hs' x (.inr List.mem_cons_self); omega)
    have m3 : ∀ z, mulOk s z = true := fun z => mulOk_l (by omega) (by omega)
    have hs'' : ∀ y, y ∈ done ++ [x] ∨ y ∈ xs → (E.den y) ≤ 2 ^ 60 := fun y hy => hs' y (by
      rcases hy with h | h
      · rcases List.mem_append.mp h with h | h
        · exact .inl h
        · exact .inr (by rw [List.mem_singleton.mp h]; exact List.mem_cons_self)
      · exact .inr (List.mem_cons_of_mem _ h))
    have split : done ++ x :: xs = (done ++ [x]) ++ xs := by simp
    by_cases c : 0 < s * ((E.num x) * (E.den b) - (E.num b) * (E.den x))
    · have bd : (h_u_most_of_1 N).run [some (.pu v), some (.pu (.int s)), some (.pu (E.enc b)), some (.pu (E.enc x))] S = some (.nx, [some (.pu v), some (.pu (.int s)), some (.pu (E.enc x)), some (.pu (E.enc x))], S) := by
        unfold h_u_most_of_1
        simp [E.ix0, E.ix1, m1, m2, m3, c]
      obtain ⟨d, x3', r, r1, r2⟩ := mostA_loop E hs xs (done ++ [x]) x (some (.pu (E.enc x))) hs'' (fun y hy => hx y (List.mem_cons_of_mem _ hy)) hd' (by simp) fun y hy => by
        rcases List.mem_append.mp hy with q | q
        · have b0 := hd b hb
          have y0 := hd y q
          have u := h y q
          -- y ≤ b < x
          have : s * ((E.num y) * (E.den x) - (E.num x) * (E.den y)) * (E.den b) ≤ 0 := by
            have e1 : s * ((E.num y) * (E.den x) - (E.num x) * (E.den y)) * (E.den b) = s * ((E.num y) * (E.den b) - (E.num b) * (E.den y)) * (E.den x) - s * ((E.num x) * (E.den b) - (E.num b) * (E.den x)) * (E.den y) := by
              rw [Int.mul_assoc, Int.mul_assoc, Int.mul_assoc, Int.sub_mul, Int.sub_mul, Int.sub_mul, ← Int.mul_sub]
              congr 1
              rw [show (E.num y) * (E.den x) * (E.den b) = (E.num y) * (E.den b) * (E.den x) by ac_rfl, show (E.num x) * (E.den y) * (E.den b) = (E.num x) * (E.den b) * (E.den y) by ac_rfl, show (E.num b) * (E.den y) * (E.den x) = (E.num b) * (E.den x) * (E.den y) by ac_rfl]
              omega
            have p1 := Int.mul_nonpos_of_nonpos_of_nonneg u (Int.le_of_lt x0)
            have p2 := Int.mul_pos c y0
            omega
          rw [Int.mul_assoc] at this
          exact M.cut_le b0 this
        · rw [List.mem_singleton.mp q, Int.sub_self]
          omega
      refine ⟨d, x3', ?_, by rw [split]; exact r1, by rw [split]; exact r2⟩
      rw [List.map_cons, loop_nx tg bd, r]
    · have bd : (h_u_most_of_1 N).run [some (.pu v), some (.pu (.int s)), some (.pu (E.enc b)), some (.pu (E.enc x))] S = some (.nx, [some (.pu v), some (.pu (.int s)), some (.pu (E.enc b)), some (.pu (E.enc x))], S) := by
        unfold h_u_most_of_1
        simp [E.ix0, E.ix1, m1, m2, m3, c]
      obtain ⟨d, x3', r, r1, r2⟩ := mostA_loop E hs xs (done ++ [x]) b (some (.pu (E.enc x))) hs'' (fun y hy => hx y (List.mem_cons_of_mem _ hy)) hd' (by simp [hb]) fun y hy => by
        rcases List.mem_append.mp hy with q | q
        · exact h y q
        · rw [List.mem_singleton.mp q]
          omega
      refine ⟨d, x3', ?_, by rw [split]; exact r1, by rw [split]; exact r2⟩
      rw [List.map_cons, loop_nx tg bd, r]
theorem mostA_run {α : Type} (E : Quo α) {s : Int} {N : Nat} {S : Sto} (hs : s = 1 ∨ s = -1) {x : α} {xs : List α} (hx : ∀ y ∈ x :: xs, 0 < (E.den y)) (hx' : ∀ y ∈ x :: xs, (E.den y) ≤ 2 ^ 60) : ∃ c, (f_u_most_of N).run [.pu (.list ((x :: xs).map E.enc)), .pu (.int s)] S = some (.pu (E.enc c), S) ∧ c ∈ x :: xs ∧ ∀ y ∈ x :: xs, s * ((E.num y) * (E.den c) - (E.num c) * (E.den y)) ≤ 0 := by
  obtain ⟨c, x3, lp, h1, h2⟩ := mostA_loop E (N := N) (v := .list ((x :: xs).map E.enc)) (S := S) hs (x :: xs) [x] x none (fun y hy => hx' y (hy.elim (fun h => by rw [List.mem_singleton.mp h]; exact List.mem_cons_self) id)) hx (fun y hy => by rw [List.mem_singleton.mp hy]; exact hx x List.mem_cons_self) (by simp) (fun y hy => by rw [List.mem_singleton.mp hy, Int.sub_self]; omega)
  refine ⟨c, ?_, by simpa using h1, fun y hy => h2 y (by simp at hy ⊢; rcases hy with h | h <;> simp [h])⟩
  have ir : (r_u_most_of_1 N).run [some (.pu (.list ((x :: xs).map E.enc))), some (.pu (.int s)), some (.pu (E.enc x)), none] S = some ((x :: xs).map E.enc, S) := by
    unfold r_u_most_of_1
    simp
  have i0 : atI ((x :: xs).map E.enc) 0 = some (E.enc x) := by simp [atI, ixN]
  rw [q_u_most_of]
  unfold b_u_most_of
  generalize (x :: xs).map E.enc = L at *
  refine fseq (by conv => lhs; simp [i0]) ?_
  refine ffor ir lp ?_
  exact fret (by simp)
theorem greatestA_run {α : Type} (E : Quo α) {N : Nat} {S : Sto} {x : α} {xs : List α} (hx : ∀ y ∈ x :: xs, 0 < (E.den y)) (hx' : ∀ y ∈ x :: xs, (E.den y) ≤ 2 ^ 60) : ∃ c, (f_greatest_quotient N).run [.pu (.list ((x :: xs).map E.enc))] S = some (.pu (E.enc c), S) ∧ c ∈ x :: xs ∧ ∀ y ∈ x :: xs, 1 * ((E.num y) * (E.den c) - (E.num c) * (E.den y)) ≤ 0 := by
  obtain ⟨c, h1, h2⟩ := mostA_run E (s := 1) (N := N) (S := S) (.inl rfl) hx hx'
  refine ⟨c, ?_, h2⟩
  rw [q_greatest_quotient]
  unfold b_greatest_quotient
  generalize (x :: xs).map E.enc = L at *
  exact fret (by simp [h1])
theorem leastA_run {α : Type} (E : Quo α) {N : Nat} {S : Sto} {x : α} {xs : List α} (hx : ∀ y ∈ x :: xs, 0 < (E.den y)) (hx' : ∀ y ∈ x :: xs, (E.den y) ≤ 2 ^ 60) : ∃ c, (f_least_quotient N).run [.pu (.list ((x :: xs).map E.enc))] S = some (.pu (E.enc c), S) ∧ c ∈ x :: xs ∧ ∀ y ∈ x :: xs, -1 * ((E.num y) * (E.den c) - (E.num c) * (E.den y)) ≤ 0 := by
  obtain ⟨c, h1, h2⟩ := mostA_run E (s := -1) (N := N) (S := S) (.inr rfl) hx hx'
  refine ⟨c, ?_, h2⟩
  rw [q_least_quotient]
  unfold b_least_quotient
  generalize (x :: xs).map E.enc = L at *
  exact fret (by simp [h1])
end My


namespace My
open PySem L2 PyProof.Rows Z
/-! ### the search from one end: the program's own loop -/
def eN (a d rest room : Int) (t : Nat) (at' up loss down gain : Int) (x : Option W) : En :=
  [some (.pu (.int a)), some (.pu (.int d)), some (.pu (.int rest)), some (.pu (.int room)), some (.mu t), some (.pu (.int at')), some (.pu (.int up)), some (.pu (.int loss)), some (.pu (.int down)), some (.pu (.int gain)), x]
theorem near_head {R : SS} {a d rest room : Int} {t : Nat} {at0 up loss down gain : Int} {x : Option W} {S : Sto} {L : List Int} {n at1 rest1 : Int} (hn : min ((room - at0) / up) (rest / loss) = n) (h1 : at0 + n * up = at1) (h2 : rest - n * loss = rest1) (hup : dvs up) (hlo : dvs loss) (m1 : mulOk n up = true) (m2 : mulOk n loss = true) (hS : S[t]? = some (true, dI L)) (hL : L.length ≤ 100000) (n0 : 0 ≤ n) :
    (gSeq (gSet 10 (sB oMin (aCons (sDiv (sSub (sVar 3) (sVar 5)) (sVar 6)) (aCons (sDiv (sVar 2) (sVar 7)) aNil))))
      (gSeq (gIf (sGt (sVar 10) (sC (.int 0))) (gSeq (gAug 5 (i2 fun i j => .int (i + j)) (sMul (sVar 10) (sVar 6)))
        (gSeq (gAug 2 (i2 fun i j => .int (i - j)) (sMul (sVar 10) (sVar 7)))
        (gApp 4 (sVar 5)))) gNop) R)).run (eN a d rest room t at0 up loss down gain x) S
    = R.run (eN a d rest1 room t at1 up loss down gain (some (.pu (.int n)))) (S.set t (true, dI (if 0 < n then L ++ [at1] else L))) := by
  have hmin : oMin [.pu (.int ((room - at0) / up)), .pu (.int (rest / loss))] S = some (.pu (.int n)) := by rw [min2, hn]
  have q1 := divOk_of (i := room - at0) hup
  have q2 := divOk_of (i := rest) hlo
  unfold eN
  by_cases c : 0 < n
  · rw [if_pos c]
    have e : dI (L ++ [at1]) = dI L ++ [.int at1] := by unfold dI; rw [List.map_append]; rfl
    rw [e]
    have hl : (dI L).length ≤ 100000 := by rw [List.length_map]; exact hL
    generalize dI L = DL at *
    simp [q1, q2, hmin, c, m1, m2, h1, h2, r_app, hS, hl, -min2]
  · have : n = 0 := by omega
    subst this
    rw [if_neg c]
    have eS : S.set t (true, dI L) = S := by
      apply List.ext_getElem?
      intro i
      by_cases hi : t = i
      · subst hi
        rw [get_set hS, hS]
      · rw [List.getElem?_set_ne hi]
    rw [eS]
    have g1 : at1 = at0 := by rw [← h1]; omega
    have g2 : rest1 = rest := by rw [← h2]; omega
    rw [g1, g2]
    simp [q1, q2, hmin, -min2]
/-- the cases of one turn -/
theorem near_turn {N : Nat} {a d rest room : Int} {t : Nat} {at0 up loss down gain : Int} {x : Option W} {S : Sto} {L : List Int} {n at1 rest1 : Int} (hn : min ((room - at0) / up) (rest / loss) = n) (h1 : at0 + n * up = at1) (h2 : rest - n * loss = rest1) (hup : dvs up) (hlo : dvs loss) (m1 : mulOk n up = true) (m2 : mulOk n loss = true) (hS : S[t]? = some (true, dI L)) (hL : L.length ≤ 100000) (n0 : 0 ≤ n)
    {n2 up2 loss2 n3 down3 gain3 : Int} :
    ((gain = 0 ∨ room - at1 < up + down) → (w_u_nearing_1 N).run (eN a d rest room t at0 up loss down gain x) S = some (.rt (.mu t), eN a d rest1 room t at1 up loss down gain (some (.pu (.int n))), S.set t (true, dI (if 0 < n then L ++ [at1] else L)))) ∧
    (gain ≠ 0 → ¬ room - at1 < up + down → (loss - rest1 - 1) / gain = n2 → up + n2 * down = up2 → loss - n2 * gain = loss2 → dvs gain → mulOk n2 down = true → mulOk n2 gain = true →
      (room - at1 < up2 + down → ∃ en, (w_u_nearing_1 N).run (eN a d rest room t at0 up loss down gain x) S = some (.rt (.mu t), en, S.set t (true, dI (if 0 < n then L ++ [at1] else L)))) ∧
      (¬ room - at1 < up2 + down → min ((rest1 + gain) / loss2) ((room - at1 - down) / up2) - 1 = n3 → down + n3 * up2 = down3 → gain - n3 * loss2 = gain3 → dvs loss2 → dvs up2 → mulOk n3 up2 = true → mulOk n3 loss2 = true →
        (gain3 < loss2 → (w_u_nearing_1 N).run (eN a d rest room t at0 up loss down gain x) S = some (.nx, eN a d rest1 room t at1 (up2 + down3) (loss2 - gain3) down3 gain3 (some (.pu (.int n3))), S.set t (true, dI (if 0 < n then L ++ [at1] else L)))) ∧
        (¬ gain3 < loss2 → (w_u_nearing_1 N).run (eN a d rest room t at0 up loss down gain x) S = some (.nx, eN a d rest1 room t at1 up2 loss2 (down3 + up2) (gain3 - loss2) (some (.pu (.int n3))), S.set t (true, dI (if 0 < n then L ++ [at1] else L)))))) := by
  have hd : ∀ R : SS, _ := fun R => near_head (R := R) (a := a) (d := d) (down := down) (gain := gain) (x := x) hn h1 h2 hup hlo m1 m2 hS hL n0
  generalize S.set t (true, dI (if 0 < n then L ++ [at1] else L)) = S1 at hd ⊢
  refine ⟨fun h => ?_, fun hg hr e1 e2 e3 dg q1 q2 => ⟨fun h => ⟨eN a d rest1 room t at1 up2 loss2 down gain (some (.pu (.int n2))), ?_⟩, fun hr2 e4 e5 e6 dl du q3 q4 => ⟨fun h => ?_, fun h => ?_⟩⟩⟩
  · unfold w_u_nearing_1
    rw [hd]
    unfold eN
    rcases h with h | h
    · simp [h]
    · by_cases hg : gain = 0
      · simp [hg]
      · simp [hg, h]
  · have v1 := divOk_of (i := loss - rest1 - 1) dg
    unfold w_u_nearing_1
    rw [hd]
    unfold eN
    simp [hg, hr, v1, q1, q2, e1, e2, e3, h]
  · have v1 := divOk_of (i := loss - rest1 - 1) dg
    have v2 := divOk_of (i := rest1 + gain) dl
    have v3 := divOk_of (i := room - at1 - down) du
    have hmin : oMin [.pu (.int ((rest1 + gain) / loss2)), .pu (.int ((room - at1 - down) / up2))] S1 = some (.pu (.int (n3 + 1))) := by rw [min2, ← e4]; congr 3; omega
    unfold w_u_nearing_1
    rw [hd]
    unfold eN
    simp [hg, hr, v1, q1, q2, e1, e2, e3, hr2, v2, v3, hmin, -min2, q3, q4, e5, e6, h]
  · have v1 := divOk_of (i := loss - rest1 - 1) dg
    have v2 := divOk_of (i := rest1 + gain) dl
    have v3 := divOk_of (i := room - at1 - down) du
    have hmin : oMin [.pu (.int ((rest1 + gain) / loss2)), .pu (.int ((room - at1 - down) / up2))] S1 = some (.pu (.int (n3 + 1))) := by rw [min2, ← e4]; congr 3; omega
    unfold w_u_nearing_1
    rw [hd]
    unfold eN
    simp [hg, hr, v1, q1, q2, e1, e2, e3, hr2, v2, v3, hmin, -min2, q3, q4, e5, e6, h]
end My


namespace My
open PySem L2 PyProof.Rows Z
theorem whR_rt {c : SE} {b : SS} {n : Nat} {en en' : En} {S S' : Sto} {w : W} (hc : c.run en S = some (.pu (.bool true), S)) (h : b.run en S = some (.rt w, en', S')) : whR c b (n + 1) en S = some (.rt w, en', S') := by
  show (c.run en S).bind _ = _
  rw [hc, Option.bind_some, truth_bool, Option.bind_some, if_pos rfl, h]
  rfl
theorem whR_nx {c : SE} {b : SS} {n : Nat} {en en' : En} {S S' : Sto} (hc : c.run en S = some (.pu (.bool true), S)) (h : b.run en S = some (.nx, en', S')) : whR c b (n + 1) en S = whR c b n en' S' := by
  show (c.run en S).bind _ = _
  rw [hc, Option.bind_some, truth_bool, Option.bind_some, if_pos rfl, h]
  rfl
theorem le_mul_pos {x y : Int} (hx : 1 ≤ x) (hy : 0 ≤ y) : y ≤ x * y := by
  have := M.mul_le_r (c := y) hy hx
  omega
theorem near_loop {N : Nat} {a B d room : Int} {t m : Nat} (hd : 0 < d) (sd : Sz m d) (sr : Sz m room) (r0 : 0 ≤ room) (hm : m ≤ 4000) : ∀ (j : Nat) (at0 up loss down gain : Int) (x : Option W) (S : Sto) (L : List Int), M.NI a d (room - at0) (M.rm a B d at0) up loss down gain → 0 ≤ at0 → up ≤ room + 1 → down ≤ room + 1 → (room - at0 < up + down ∨ ∃ i g : Nat, M.rm a B d at0 % loss < 2 ^ i ∧ gain < 2 ^ g ∧ i + g ≤ j) → S[t]? = some (true, dI L) → L.length + j ≤ 90000 →
    ∃ L' y en, whR (t_u_nearing_1 N) (w_u_nearing_1 N) (j + 1) (eN a d (M.rm a B d at0) room t at0 up loss down gain x) S = some (.rt (.mu t), en, S.set t (true, dI (L ++ L'))) ∧ M.HC a B d room at0 L' y ∧ L'.length ≤ j + 1
  | j, at0, up, loss, down, gain, x, S, L, h, a0, hu, hdn, hj, hS, hL => by
    have tc : ∀ en U, (t_u_nearing_1 N).run en U = some (.pu (.bool true), U) := fun _ _ => rfl
    have hup := h.up1
    have hd1 := h.dn1
    have hls := h.ls
    have hgn := h.gn
    have hrs := h.rs
    have hR0 := h.R0
    have hdet := h.det
    have b1 : loss ≤ d := by have := le_mul_pos hd1 (show 0 ≤ loss by omega); have := Int.mul_nonneg (show 0 ≤ up by omega) hgn; omega
    have b2 : gain ≤ d := by have := le_mul_pos hup hgn; have := Int.mul_nonneg (show 0 ≤ down by omega) (show 0 ≤ loss by omega); omega
    have rlt := M.rm_lt (a := a) (b := B) hd at0
    have sroom1 : Sz (m + 1) (room + 1) := sr.add (Sz.of_le (by decide) (by have := two_pos m; omega))
    have sup : Sz (m + 1) up := sroom1.le (by omega) hu
    have sdn : Sz (m + 1) down := sroom1.le (by omega) hdn
    have sls : Sz m loss := sd.le (by omega) b1
    have sgn : Sz m gain := sd.le hgn b2
    obtain ⟨n0, n1, n2, n3⟩ := M.min_div (R := room - at0) (rest := M.rm a B d at0) hup hls hR0 hrs
    generalize hn : min ((room - at0) / up) (M.rm a B d at0 / loss) = n at n0 n1 n2 n3
    have hnr : n ≤ room := by have := M.mul_le_l n0 hup; omega
    have sn : Sz m n := sr.le n0 hnr
    have nup := Int.mul_nonneg n0 (show 0 ≤ up by omega)
    have nls := Int.mul_nonneg n0 (show 0 ≤ loss by omega)
    -- the state behind the advance
    have hadv : ∃ at1 rest1, at0 + n * up = at1 ∧ M.rm a B d at0 - n * loss = rest1 ∧ rest1 = M.rm a B d at1 ∧ at0 ≤ at1 ∧ (0 < n → M.Step (M.fl a B d) room at0 at1 ∧ M.rm a B d at1 < M.rm a B d at0) ∧ (¬ 0 < n → at1 = at0) := by
      by_cases c : 0 < n
      · obtain ⟨g1, g2⟩ := M.step_of_edge hd h c n1 n2 n3
        have hnl := Int.mul_pos c (show 0 < loss by omega)
        exact ⟨_, _, rfl, rfl, g2.symm, by omega, fun _ => ⟨g1, by omega⟩, fun k => absurd c k⟩
      · have : n = 0 := by omega
        subst this
        exact ⟨_, _, rfl, rfl, by rw [Int.zero_mul, Int.zero_mul, Int.sub_zero, Int.add_zero], by omega, fun k => absurd k c, fun _ => by omega⟩
    obtain ⟨at1, rest1, e1, e2, e3, a1, hst, hno⟩ := hadv
    have hni := h.less (R' := room - at1) (rest' := rest1) (by omega) (by omega) (by omega) (by omega)
    have hT : room - at1 < up ∨ rest1 < loss := by
      rw [Int.add_mul, Int.add_mul, Int.one_mul, Int.one_mul] at n3
      rcases n3 with n3 | n3
      · exact .inl (by omega)
      · exact .inr (by omega)
    have wrap : ∀ {L' y}, M.HC a B d room at1 L' y → M.HC a B d room at0 ((if 0 < n then [at1] else []) ++ L') y := fun {L' y} hc => by
      by_cases c : 0 < n
      · rw [if_pos c]
        exact .cons (hst c).1 (hst c).2 hc
      · rw [if_neg c, ← hno c]
        exact hc
    have hlist : (if 0 < n then L ++ [at1] else L) = L ++ (if 0 < n then [at1] else []) := by split <;> simp
    have hll : (if 0 < n then [at1] else []).length ≤ 1 := by split <;> simp
    have c1 := fun {n2 up2 loss2 n3 down3 gain3 : Int} => near_turn (N := N) (a := a) (d := d) (down := down) (gain := gain) (x := x) hn e1 e2 ⟨by omega, by have := sup.log2; omega⟩ ⟨by omega, by have := sls.log2; omega⟩ (mulOk_sz sn sup (by omega)) (mulOk_sz sn sls (by omega)) hS (by omega) n0 (n2 := n2) (up2 := up2) (loss2 := loss2) (n3 := n3) (down3 := down3) (gain3 := gain3)
    rw [hlist] at c1
    have done_nil : M.Done a d (room - at1) rest1 → M.HC a B d room at1 [] at1 := fun hdn => .nil (by omega) (by
      rw [e3] at hdn
      exact M.done_rm hd hdn)
    by_cases c2 : gain = 0 ∨ room - at1 < up + down
    · refine ⟨_, at1, _, whR_rt (tc _ _) ((c1 (n2 := 0) (up2 := 0) (loss2 := 0) (n3 := 0) (down3 := 0) (gain3 := 0)).1 c2), ?_, ?_⟩
      · have := wrap (done_nil (hni.done1 hT c2))
        rw [List.append_nil] at this
        exact this
      · omega
    have hg : gain ≠ 0 := fun z => c2 (.inl z)
    have hr : ¬ room - at1 < up + down := fun z => c2 (.inr z)
    have hlr : rest1 < loss := hT.resolve_left (by omega)
    obtain ⟨hf, hf1, hf2⟩ := hni.half (n := (loss - rest1 - 1) / gain) (by omega) hlr rfl
    have m0 : 0 ≤ (loss - rest1 - 1) / gain := Int.ediv_nonneg (by omega) (by omega)
    have m1 : (loss - rest1 - 1) / gain ≤ loss - rest1 - 1 := Int.ediv_le_self _ (by omega)
    have c3 := fun {n3 down3 gain3 : Int} => (c1 (n2 := (loss - rest1 - 1) / gain) (up2 := up + (loss - rest1 - 1) / gain * down) (loss2 := loss - (loss - rest1 - 1) / gain * gain) (n3 := n3) (down3 := down3) (gain3 := gain3)).2 hg hr rfl rfl rfl ⟨by omega, by have := sgn.log2; omega⟩ (mulOk_sz (sd.le m0 (by omega)) sdn (by omega)) (mulOk_sz (sd.le m0 (by omega)) sgn (by omega))
    generalize hk2 : (loss - rest1 - 1) / gain = k2 at *
    have k2d := Int.mul_nonneg m0 (show 0 ≤ down by omega)
    have k2g := Int.mul_nonneg m0 hgn
    generalize hup2 : up + k2 * down = up2 at *
    generalize hls2 : loss - k2 * gain = loss2 at *
    by_cases c4 : room - at1 < up2 + down
    · obtain ⟨en, he⟩ := (c3 (n3 := 0) (down3 := 0) (gain3 := 0)).1 c4
      refine ⟨_, at1, en, whR_rt (tc _ _) he, ?_, ?_⟩
      · have := wrap (done_nil (hf.done2 hf1 c4))
        rw [List.append_nil] at this
        exact this
      · omega
    obtain ⟨p0, p1, p2, p3⟩ := hf.next hf1 hf2 (by omega) (n := min ((rest1 + gain) / loss2) ((room - at1 - down) / up2) - 1) rfl
    have hl2 := hf.ls
    have hk3 : ∃ k3, min ((rest1 + gain) / loss2) ((room - at1 - down) / up2) - 1 = k3 ∧ k3 ≤ room ∧ down + k3 * up2 + up2 ≤ room - at1 ∧ (k3 * loss2 + loss2 ≤ rest1 + gain) ∧ (room - at1 - down < k3 * up2 + up2 + up2 ∨ rest1 + gain < k3 * loss2 + loss2 + loss2) := by
      obtain ⟨z0, z1, z2, z3⟩ := M.min_div (R := room - at1 - down) (up := up2) (rest := rest1 + gain) (loss := loss2) (by omega) hl2 (by omega) (by omega)
      rw [Int.min_comm] at z0 z1 z2 z3
      generalize hz : min ((rest1 + gain) / loss2) ((room - at1 - down) / up2) = z at *
      have y1 : (z - 1) * up2 = z * up2 - up2 := by rw [Int.sub_mul, Int.one_mul]
      have y2 : (z - 1) * loss2 = z * loss2 - loss2 := by rw [Int.sub_mul, Int.one_mul]
      have y3 : (z + 1) * up2 = z * up2 + up2 := by rw [Int.add_mul, Int.one_mul]
      have y4 : (z + 1) * loss2 = z * loss2 + loss2 := by rw [Int.add_mul, Int.one_mul]
      rw [← hz]
      refine ⟨_, rfl, ?_, ?_, ?_, ?_⟩
      rotate_left
      rotate_left
      · rw [hz, y2]
        omega
      · rw [hz, y1, y2]
        omega
      · have q1 : min ((rest1 + gain) / loss2) ((room - at1 - down) / up2) ≤ (room - at1 - down) / up2 := Int.min_le_right _ _
        have q2 := Int.ediv_le_self (b := up2) (show 0 ≤ room - at1 - down by omega)
        omega
      · have q1 : min ((rest1 + gain) / loss2) ((room - at1 - down) / up2) ≤ (room - at1 - down) / up2 := Int.min_le_right _ _
        have q2 := (Int.le_ediv_iff_mul_le (show 0 < up2 by omega)).mp q1
        rw [Int.sub_mul, Int.one_mul]
        omega
    obtain ⟨k3, hk3, k3r, k3u, k3l, k3e⟩ := hk3
    rw [hk3] at p0 p1 p2 p3
    have su2 : Sz m up2 := sr.le (by omega) (by omega)
    have sl2 : Sz m loss2 := sd.le (by have := hf.ls; omega) (by omega)
    have c5 := (c3 (n3 := k3) (down3 := down + k3 * up2) (gain3 := gain - k3 * loss2)).2 c4 hk3 rfl rfl ⟨by have := hf.ls; omega, by have := sl2.log2; omega⟩ ⟨by omega, by have := su2.log2; omega⟩ (mulOk_sz (sr.le p0 k3r) su2 (by omega)) (mulOk_sz (sr.le p0 k3r) sl2 (by omega))
    have k3n := Int.mul_nonneg p0 (show 0 ≤ up2 by omega)
    have k3m := Int.mul_nonneg p0 (show 0 ≤ loss2 by omega)
    obtain ⟨i, g, pi, pg, pij⟩ := hj.resolve_left (by omega)
    have hrm : M.rm a B d at0 % loss = rest1 := by
      have e : M.rm a B d at0 = rest1 + loss * n := by rw [Int.mul_comm]; omega
      rw [e, Int.add_mul_emod_self_left, Int.emod_eq_of_lt (by omega) hlr]
    rw [hrm] at pi
    obtain ⟨g', rfl⟩ : ∃ g', g = g' + 1 := by
      cases g with
      | zero => rw [Int.pow_zero] at pg; omega
      | succ g => exact ⟨g, rfl⟩
    have pg2 := two_succ g'
    obtain ⟨j', rfl⟩ : ∃ j', j = j' + 1 := ⟨j - 1, by omega⟩
    by_cases c6 : gain - k3 * loss2 < loss2
    · have hx := p2 c6
      rw [e3] at hx
      obtain ⟨L', y, en, i1, i2, i3⟩ := near_loop hd sd sr r0 hm j' at1 (up2 + (down + k3 * up2)) (loss2 - (gain - k3 * loss2)) (down + k3 * up2) (gain - k3 * loss2) (some (.pu (.int k3))) (S.set t (true, dI (L ++ (if 0 < n then [at1] else [])))) (L ++ (if 0 < n then [at1] else [])) hx (by omega) (by omega) (by omega) (by
        right
        rw [← e3]
        generalize hl' : loss2 - (gain - k3 * loss2) = l' at *
        have hq := Int.emod_lt_of_pos rest1 (show 0 < l' by omega)
        have hq2 := Int.emod_def rest1 l'
        have hq3 : 1 ≤ rest1 / l' := (Int.le_ediv_iff_mul_le (by omega)).mpr (by omega)
        have hq4 := M.mul_le_l (c := l') (by omega) hq3
        obtain ⟨i', rfl⟩ : ∃ i', i = i' + 1 := by
          cases i with
          | zero => rw [Int.pow_zero] at pi; omega
          | succ i => exact ⟨i, rfl⟩
        have pi2 := two_succ i'
        exact ⟨i', g' + 1, by omega, by omega, by omega⟩) (get_set hS) (by rw [List.length_append]; omega)
      refine ⟨(if 0 < n then [at1] else []) ++ L', y, en, ?_, wrap i2, by rw [List.length_append]; omega⟩
      rw [whR_nx (tc _ _) (c5.1 c6), e3, i1, List.set_set, List.append_assoc]
    · have hx := p3 (by omega)
      rw [e3] at hx
      obtain ⟨L', y, en, i1, i2, i3⟩ := near_loop hd sd sr r0 hm j' at1 up2 loss2 (down + k3 * up2 + up2) (gain - k3 * loss2 - loss2) (some (.pu (.int k3))) (S.set t (true, dI (L ++ (if 0 < n then [at1] else [])))) (L ++ (if 0 < n then [at1] else [])) hx (by omega) (by omega) (by omega) (by
        rcases k3e with k3e | k3e
        · left
          omega
        · right
          rw [← e3]
          exact ⟨i, g', by rw [Int.emod_eq_of_lt (by omega) (by omega)]; exact pi, by omega, by omega⟩) (get_set hS) (by rw [List.length_append]; omega)
      refine ⟨(if 0 < n then [at1] else []) ++ L', y, en, ?_, wrap i2, by rw [List.length_append]; omega⟩
      rw [whR_nx (tc _ _) (c5.2 c6), e3, i1, List.set_set, List.append_assoc]
theorem nearing_run {N : Nat} {a B d room : Int} {m : Nat} {S : Sto} (hd : 0 < d) (sd : Sz m d) (sr : Sz m room) (r0 : 0 ≤ room) (hm : m ≤ 4000) (hN : 2 * m + 2 ≤ N) :
    ∃ L x, (f_u_nearing N).run [.pu (.int a), .pu (.int d), .pu (.int (B % d)), .pu (.int room)] S = some (.mu S.length, S ++ [(true, dI (0 :: L))]) ∧ M.HC a B d room 0 L x ∧ L.length ≤ 2 * m + 2 := by
  have hb : (f_u_nearing N).run [.pu (.int a), .pu (.int d), .pu (.int (B % d)), .pu (.int room)] S = ((b_u_nearing N).run [some (.pu (.int a)), some (.pu (.int d)), some (.pu (.int (B % d))), some (.pu (.int room)), none, none, none, none, none, none, none] S).bind fin := rfl
  have hrm : B % d = M.rm a B d 0 := by unfold M.rm; rw [Int.mul_zero, Int.zero_add]
  have hni := M.NI.start (a := a) hd (R := room - 0) (by omega) (M.rm_nonneg (a := a) (b := B) hd 0) (M.rm_lt hd 0)
  have sd2 := sd.2
  have g0 := Int.emod_nonneg a (show d ≠ 0 by omega)
  have g1 := Int.emod_lt_of_pos a hd
  have q0 := M.rm_nonneg (a := a) (b := B) hd 0
  have q1 := M.rm_lt (a := a) (b := B) hd 0
  have q2 : M.rm a B d 0 % (d - a % d) ≤ M.rm a B d 0 := by
    have := Int.emod_def (M.rm a B d 0) (d - a % d)
    have h2 : 0 ≤ M.rm a B d 0 / (d - a % d) := Int.ediv_nonneg q0 (by omega)
    have := Int.mul_nonneg (show 0 ≤ d - a % d by omega) h2
    omega
  obtain ⟨L, y, en, e1, e2, e3⟩ := near_loop (N := N) (t := S.length) (m := m) hd sd sr r0 hm (2 * m) 0 1 (d - a % d) 1 (a % d) none (S ++ [(true, [PyData.int 0])]) [0] hni (by omega) (by omega) (by omega) (.inr ⟨m, m, by omega, by omega, by omega⟩) get_app (by simp; omega)
  refine ⟨L, y, ?_, e2, by omega⟩
  have mono : ∀ (k : Nat) (c : SE) (b : SS) (n : Nat) (en : En) (S : Sto) (r : Fl × En × Sto), whR c b n en S = some r → whR c b (n + k) en S = some r := by
    intro k c b n
    induction n with
    | zero => intro en S r h; cases h
    | succ n ih =>
      intro en S r h
      rw [show n + 1 + k = n + k + 1 by omega]
      obtain ⟨p, h1, h⟩ := bind_some_of (show (c.run en S).bind _ = some r from h)
      obtain ⟨q, h2, h⟩ := bind_some_of h
      show (c.run en S).bind _ = _
      rw [h1, Option.bind_some, h2, Option.bind_some]
      split at h
      · rename_i hq
        rw [if_pos hq]
        obtain ⟨z, h3, h⟩ := bind_some_of h
        rw [h3, Option.bind_some]
        split at h
        · exact ih _ _ _ h
        · exact ih _ _ _ h
        · exact h
        · exact h
      · rename_i hq
        rw [if_neg hq]
        exact h
  have e1' := mono (N - (2 * m + 1)) _ _ _ _ _ _ e1
  rw [show 2 * m + 1 + (N - (2 * m + 1)) = N by omega, ← hrm] at e1'
  rw [hb]
  unfold b_u_nearing
  have hw : (gWh N (t_u_nearing_1 N) (w_u_nearing_1 N)).run (eN a d (B % d) room S.length 0 1 (d - a % d) 1 (a % d) none) (S ++ [(true, [PyData.int 0])]) = some (.rt (.mu S.length), en, (S ++ [(true, [PyData.int 0])]).set S.length (true, dI ([0] ++ L))) := e1'
  unfold eN at hw
  generalize gWh N (t_u_nearing_1 N) (w_u_nearing_1 N) = WH at *
  have es : (S ++ [(true, [PyData.int 0])]).set S.length (true, dI ([0] ++ L)) = S ++ [(true, dI (0 :: L))] := by simp
  rw [es] at hw
  generalize dI (0 :: L) = DL at *
  simp [hd, hw]
end My


namespace My
open PySem L2 PyProof.Rows Z
/-! ### all corners -/
theorem remainder_run {v : PyData} {a b d n : Int} {N : Nat} {S : Sto} (h : Lin v a b d) (hd : 0 < d) (hm : mulOk a n = true) : (f_remainder N).run [.pu v, .pu (.int n)] S = some (.pu (.int ((a * n + b) % d)), S) := by
  show ((b_remainder N).run [some (.pu v), some (.pu (.int n)), none, none, none] S).bind fin = _
  unfold b_remainder
  simp [h.tg, hm, hd]
theorem value_run {v : PyData} {a b d n : Int} {N : Nat} {S : Sto} (h : Lin v a b d) (hd : dvs d) (hm : mulOk a n = true) : (f_value N).run [.pu v, .pu (.int n)] S = some (.pu (.int (M.fl a b d n)), S) := by
  show ((b_value N).run [some (.pu v), some (.pu (.int n)), none, none, none] S).bind fin = _
  unfold b_value
  simp [h.tg, hm, divOk_of hd]
  rfl
theorem r_pop {en : En} {S : Sto} {i j : Nat} {ds : List PyData} {d : PyData} (h1 : en[i]? = some (some (.mu j))) (h2 : S[j]? = some (true, ds)) (h3 : ds.getLast? = some d) : (sPop i).run en S = some (.pu d, S.set j (true, ds.dropLast)) := by
  show (match en[i]? with
    | some (some (.mu j)) => match S[j]? with
      | some (true, ds) => (ds[ds.length - 1]?).map fun d => (W.pu d, S.set j (true, ds.dropLast))
      | _ => none
    | _ => none) = _
  rw [h1]
  show (match S[j]? with
      | some (true, ds) => (ds[ds.length - 1]?).map fun d => (W.pu d, S.set j (true, ds.dropLast))
      | _ => none) = _
  rw [h2]
  show (ds[ds.length - 1]?).map _ = _
  rw [← List.getLast?_eq_getElem?, h3]
  rfl
theorem atI_last {ds : List PyData} {d : PyData} (h : ds.getLast? = some d) : atI ds (-1) = some d := by
  have hne : 0 < ds.length := by
    cases ds with
    | nil => cases h
    | cons _ _ => simp
  unfold atI ixN
  rw [if_neg (by decide), if_pos (by omega)]
  rw [show (-1 + (ds.length : Int)).toNat = ds.length - 1 by omega, Option.bind_some, ← List.getLast?_eq_getElem?, h]
theorem dI_last {xs : List Int} {x : Int} (h : xs.getLast? = some x) : (dI xs).getLast? = some (.int x) := by
  unfold dI
  rw [List.getLast?_map, h]
  rfl
theorem map_last {xs : List Int} {x : Int} {f : Int → Int} (h : xs.getLast? = some x) : (xs.map f).getLast? = some (f x) := by
  rw [List.getLast?_map, h]
  rfl
theorem r_revF {en : En} {S : Sto} {f : SE} : (sRev false f).run en S = (f.run en S).bind fun p => match look p.1 p.2 with
  | some (.list ds) => some (mkL false ds.reverse p.2)
  | _ => none := rfl
/-- a line and a stretch as the corners are asked of -/
structure CQ (m : Nat) (v1 v2 : PyData) (a b d first last : Int) : Prop where
  lin : Lin v1 a b d
  str : Stre v2 first last
  d0 : 0 < d
  fl : first ≤ last
  sa : Sz m a
  sd : Sz m d
  sf : Sz m first
  sl : Sz m last
theorem numbers_run {v1 v2 : PyData} {a b d first last : Int} {m N : Nat} {S : Sto} (h : CQ m v1 v2 a b d first last) (hm : m ≤ 3000) (hN : 2 * m + 4 ≤ N) :
    ∃ L T, (f_u_upper_numbers N).run [.pu v1, .pu v2] S = some (.pu (.list (dI (first :: L))), S ++ T) ∧ M.Chain (M.fl a b d) last first L ∧ L.length ≤ 4 * m + 9 := by
  obtain ⟨hl, hs, d0, hfl, sa, sd, sf, sl⟩ := h
  have sr : Sz (m + 1) (last - first) := sl.sub sf
  have q1 := mulOk_sz sa sf (by omega)
  have q2 := mulOk_sz sa sl (by omega)
  obtain ⟨L1, x1, e1, h1, n1⟩ := nearing_run (N := N) (a := a) (B := a * first + b) (S := S) d0 (sd.mono (Nat.le_succ m)) sr (by omega) (by omega) (by omega)
  obtain ⟨L2, x2, e2, h2, n2⟩ := nearing_run (N := N) (a := -a) (B := a * last + b) (S := S ++ [(false, dI (0 :: L1))]) d0 (sd.mono (Nat.le_succ m)) sr (by omega) (by omega) (by omega)
  obtain ⟨M, k1, k2, k3⟩ := M.hull d0 hfl h1 h2
  have hb : (f_u_upper_numbers N).run [.pu v1, .pu v2] S = ((b_u_upper_numbers N).run [some (.pu v1), some (.pu v2), none, none, none, none, none, none, none, none] S).bind fin := rfl
  have l1 := h1.last
  have l2 := h2.last
  -- the two comprehensions
  have c1 : (sLc false [9] (i_u_upper_numbers_1 N) (tgName 9) sYes (e_u_upper_numbers_1 N)).run [some (.pu v1), some (.pu v2), some (.pu (.int a)), some (.pu (.int b)), some (.pu (.int d)), some (.pu (.int first)), some (.pu (.int last)), none, none, none] S = some (.pu (.list (dI ((0 :: L1).map (first + ·)))), S ++ [(false, dI (0 :: L1))]) := by
    have hi : (i_u_upper_numbers_1 N).run [some (.pu v1), some (.pu v2), some (.pu (.int a)), some (.pu (.int b)), some (.pu (.int d)), some (.pu (.int first)), some (.pu (.int last)), none, none, none] S = some (dI (0 :: L1), S ++ [(false, dI (0 :: L1))]) := by
      unfold i_u_upper_numbers_1
      show ((sCall (f_u_nearing N) _).run _ S).bind _ = _
      have : (sCall (f_u_nearing N) (aCons (sVar 2) (aCons (sVar 4) (aCons (sCall (f_remainder N) (aCons (sVar 0) (aCons (sVar 5) aNil))) (aCons (sSub (sVar 6) (sVar 5)) aNil))))).run [some (.pu v1), some (.pu v2), some (.pu (.int a)), some (.pu (.int b)), some (.pu (.int d)), some (.pu (.int first)), some (.pu (.int last)), none, none, none] S = some (.mu S.length, S ++ [(true, dI (0 :: L1))]) := by
        simp [remainder_run hl d0 q1]
        exact e1
      rw [this]
      simp [fz_mu]
    have hf : few (dI (0 :: L1)) = true := by
      show decide ((dI (0 :: L1)).length ≤ 100000) = true
      rw [List.length_map, List.length_cons]
      exact decide_eq_true (by omega)
    rw [r_lc, hi, Option.bind_some]
    show (if few (dI (0 :: L1)) = true then _ else none) = _
    rw [if_pos hf, lcR_ints (first + ·) fun x hx => ⟨_, rfl, rfl⟩]
    rfl
  have c2 : (sLc true [9] (i_u_upper_numbers_2 N) (tgName 9) sYes (e_u_upper_numbers_2 N)).run [some (.pu v1), some (.pu v2), some (.pu (.int a)), some (.pu (.int b)), some (.pu (.int d)), some (.pu (.int first)), some (.pu (.int last)), some (.pu (.list (dI ((0 :: L1).map (first + ·))))), none, none] (S ++ [(false, dI (0 :: L1))]) = some (.mu (S.length + 2), S ++ [(false, dI (0 :: L1)), (false, dI (0 :: L2)), (true, dI ((0 :: L2).map (last - ·)))]) := by
    have hi : (i_u_upper_numbers_2 N).run [some (.pu v1), some (.pu v2), some (.pu (.int a)), some (.pu (.int b)), some (.pu (.int d)), some (.pu (.int first)), some (.pu (.int last)), some (.pu (.list (dI ((0 :: L1).map (first + ·))))), none, none] (S ++ [(false, dI (0 :: L1))]) = some (dI (0 :: L2), S ++ [(false, dI (0 :: L1)), (false, dI (0 :: L2))]) := by
      unfold i_u_upper_numbers_2
      show ((sCall (f_u_nearing N) _).run _ _).bind _ = _
      have : (sCall (f_u_nearing N) (aCons (sNeg (sVar 2)) (aCons (sVar 4) (aCons (sCall (f_remainder N) (aCons (sVar 0) (aCons (sVar 6) aNil))) (aCons (sSub (sVar 6) (sVar 5)) aNil))))).run [some (.pu v1), some (.pu v2), some (.pu (.int a)), some (.pu (.int b)), some (.pu (.int d)), some (.pu (.int first)), some (.pu (.int last)), some (.pu (.list (dI ((0 :: L1).map (first + ·))))), none, none] (S ++ [(false, dI (0 :: L1))]) = some (.mu (S.length + 1), S ++ [(false, dI (0 :: L1)), (true, dI (0 :: L2))]) := by
        simp [remainder_run hl d0 q2]
        simp at e2
        exact e2
      rw [this]
      simp [fz_mu]
    have hf : few (dI (0 :: L2)) = true := by
      show decide ((dI (0 :: L2)).length ≤ 100000) = true
      rw [List.length_map, List.length_cons]
      exact decide_eq_true (by omega)
    rw [r_lc, hi, Option.bind_some]
    show (if few (dI (0 :: L2)) = true then _ else none) = _
    rw [if_pos hf, lcR_ints (last - ·) fun x hx => ⟨_, rfl, rfl⟩]
    simp
  have a1 : atI (dI ((0 :: L1).map (first + ·))) (-1) = some (.int (first + x1)) := atI_last (dI_last (map_last l1))
  have a2 : atI (dI ((0 :: L2).map (last - ·))) (-1) = some (.int (last - x2)) := atI_last (dI_last (map_last l2))
  have g2 : (dI ((0 :: L2).map (last - ·))).getLast? = some (.int (last - x2)) := dI_last (map_last l2)
  have len1 : (dI ((0 :: L1).map (first + ·))).length = L1.length + 1 := by simp
  have len2 : (dI ((0 :: L2).map (last - ·))).length = L2.length + 1 := by simp
  have lenM : M.length = L2.length := by
    have := congrArg List.length k1
    simp at this
    omega
  have rev2 : (dI ((0 :: L2).map (last - ·))).reverse = .int (last - x2) :: dI M := by
    unfold dI
    rw [← List.map_reverse, ← k1]
    rfl
  have rev3 : (dI ((0 :: L2).map (last - ·))).dropLast.reverse = dI M := by
    rw [← List.tail_reverse, rev2]
    rfl
  have cons1 : dI ((0 :: L1).map (first + ·)) = .int first :: dI (L1.map (first + ·)) := by
    unfold dI
    rw [List.map_cons, List.map_cons, Int.add_zero]
  have hsl : 1000000 ≤ sizeLine := by decide
  rw [hb]
  unfold b_u_upper_numbers
  generalize (sLc false [9] (i_u_upper_numbers_1 N) (tgName 9) sYes (e_u_upper_numbers_1 N)) = C1 at *
  generalize (sLc true [9] (i_u_upper_numbers_2 N) (tgName 9) sYes (e_u_upper_numbers_2 N)) = C2 at *
  by_cases he : first + x1 = last - x2
  · refine ⟨L1.map (first + ·) ++ M, [(false, dI (0 :: L1)), (false, dI (0 :: L2)), (true, (dI ((0 :: L2).map (last - ·))).dropLast)], ?_, k2 he, by rw [List.length_append, List.length_map, lenM]; omega⟩
    have hadd : ∀ U, oAdd (.pu (.list (dI ((0 :: L1).map (first + ·))))) (.pu (.list (dI M))) U = some (.pu (.list (dI (first :: (L1.map (first + ·) ++ M))))) := fun U => by
      show (if (dI ((0 :: L1).map (first + ·))).length + (dI M).length ≤ sizeLine then _ else none) = _
      rw [if_pos (by rw [len1, List.length_map, lenM]; omega), cons1]
      unfold dI
      rw [List.map_cons, List.map_append]
      rfl
    generalize dI (first :: (L1.map (first + ·) ++ M)) = DR at *
    generalize dI ((0 :: L1).map (first + ·)) = D1 at *
    generalize dI ((0 :: L2).map (last - ·)) = D2 at *
    generalize dI (0 :: L1) = D3 at *
    generalize dI (0 :: L2) = D4 at *
    generalize dI M = DM at *
    have i1 : oIx (.mu (S.length + 2)) (.pu (.int (-1))) (S ++ [(false, D3), (false, D4), (true, D2)]) = some (.pu (.int (last - x2))) := by
      rw [ix_mu (m := true) (ds := D2) (by simp), a2]
      rfl
    have hp : ∀ en : En, en[8]? = some (some (.mu (S.length + 2))) → (sPop 8).run en (S ++ [(false, D3), (false, D4), (true, D2)]) = some (.pu (.int (last - x2)), S ++ [(false, D3), (false, D4), (true, D2.dropLast)]) := fun en hen => by
      rw [r_pop hen (ds := D2) (by simp) g2]
      simp
    simp [hl.tg, hs.tg, c1, c2, a1, i1, he, hp, r_revF, look, rev3, hadd]
  · refine ⟨L1.map (first + ·) ++ (last - x2) :: M, [(false, dI (0 :: L1)), (false, dI (0 :: L2)), (true, dI ((0 :: L2).map (last - ·)))], ?_, k3 he, by rw [List.length_append, List.length_map, List.length_cons, lenM]; omega⟩
    have hadd : ∀ U, oAdd (.pu (.list (dI ((0 :: L1).map (first + ·))))) (.pu (.list (.int (last - x2) :: dI M))) U = some (.pu (.list (dI (first :: (L1.map (first + ·) ++ (last - x2) :: M))))) := fun U => by
      show (if (dI ((0 :: L1).map (first + ·))).length + (.int (last - x2) :: dI M).length ≤ sizeLine then _ else none) = _
      rw [if_pos (by rw [len1, List.length_cons, List.length_map, lenM]; omega), cons1]
      unfold dI
      rw [List.map_cons, List.map_append]
      rfl
    generalize dI (first :: (L1.map (first + ·) ++ (last - x2) :: M)) = DR at *
    generalize dI ((0 :: L1).map (first + ·)) = D1 at *
    generalize dI ((0 :: L2).map (last - ·)) = D2 at *
    generalize dI (0 :: L1) = D3 at *
    generalize dI (0 :: L2) = D4 at *
    generalize dI M = DM at *
    have i1 : oIx (.mu (S.length + 2)) (.pu (.int (-1))) (S ++ [(false, D3), (false, D4), (true, D2)]) = some (.pu (.int (last - x2))) := by
      rw [ix_mu (m := true) (ds := D2) (by simp), a2]
      rfl
    simp [hl.tg, hs.tg, c1, c2, a1, i1, he, r_revF, look, rev2, hadd]
theorem corners_run {v1 v2 : PyData} {a b d first last : Int} {m N : Nat} {S : Sto} (h : CQ m v1 v2 a b d first last) (hm : m ≤ 3000) (hN : 2 * m + 4 ≤ N) :
    ∃ L T, (f_upper_corners N).run [.pu v1, .pu v2] S = some (.pu (.list ((first :: L).map fun n => .tuple [.int n, .int (M.fl a b d n)])), S ++ T) ∧ M.Chain (M.fl a b d) last first L ∧ L.length ≤ 4 * m + 9 := by
  obtain ⟨L, T, e1, h1, n1⟩ := numbers_run (S := S) h hm hN
  refine ⟨L, T, ?_, h1, n1⟩
  have hb : (f_upper_corners N).run [.pu v1, .pu v2] S = ((b_upper_corners N).run [some (.pu v1), some (.pu v2), none] S).bind fin := rfl
  have hi : (i_upper_corners_1 N).run [some (.pu v1), some (.pu v2), none] S = some (dI (first :: L), S ++ T) := by
    unfold i_upper_corners_1
    show ((sCall (f_u_upper_numbers N) _).run _ S).bind _ = _
    have : (sCall (f_u_upper_numbers N) (aCons (sVar 0) (aCons (sVar 1) aNil))).run [some (.pu v1), some (.pu v2), none] S = some (.pu (.list (dI (first :: L))), S ++ T) := by
      simp [e1]
    rw [this]
    rfl
  have hf : few (dI (first :: L)) = true := by
    show decide ((dI (first :: L)).length ≤ 100000) = true
    rw [List.length_map, List.length_cons]
    exact decide_eq_true (by omega)
  have hl := lcR_pure (own := [2]) (t := tgName 2) (f := e_upper_corners_1 N) (en := [some (.pu v1), some (.pu v2), none]) (fun x => match x with | .int n => .tuple [.int n, .int (M.fl a b d n)] | x => x) (dI (first :: L)) (S ++ T) [] fun x hx => by
    obtain ⟨n, hn, rfl⟩ := List.mem_map.mp hx
    refine ⟨[some (.pu v1), some (.pu v2), some (.pu (.int n))], rfl, ?_⟩
    obtain ⟨k0, k1⟩ := h1.mem n hn
    have sn : Sz (m + 1) n := by
      have := h.sf.1
      have := h.sl.2
      have := two_succ m
      have := two_pos m
      exact ⟨by omega, by omega⟩
    have hv := value_run (N := N) (S := S ++ T) h.lin (n := n) ⟨h.d0, by have := h.sd.log2; omega⟩ (mulOk_sz h.sa sn (by omega))
    unfold e_upper_corners_1
    simp [hv]
  rw [hb]
  unfold b_upper_corners
  rw [r_ret, r_lc, hi, Option.bind_some]
  show (Option.map _ (if few (dI (first :: L)) = true then _ else none)).bind fin = _
  rw [if_pos hf, hl]
  show some (W.pu (.list ([] ++ (dI (first :: L)).map _)), S ++ T) = _
  rw [List.nil_append]
  unfold dI
  rw [List.map_map]
  rfl
theorem turned_run {v : PyData} {a b d : Int} {N : Nat} {S : Sto} (h : Lin v a b d) : (f_turned N).run [.pu v] S = some (.pu (.tuple [.int (-a), .int (-b + d - 1), .int d]), S) := by
  have hr : ∀ x y z : Int, (f_rounded_up N).run [.pu (.int x), .pu (.int y), .pu (.int z)] S = some (.pu (.tuple [.int x, .int (y + z - 1), .int z]), S) := fun x y z => by
    show ((b_rounded_up N).run [some (.pu (.int x)), some (.pu (.int y)), some (.pu (.int z))] S).bind fin = _
    unfold b_rounded_up
    simp
  show ((b_turned N).run [some (.pu v), none, none, none] S).bind fin = _
  unfold b_turned
  simp [h.tg, hr]
theorem fl_turned (a b d n : Int) (hd : 0 < d) : M.fl (-a) (-b + d - 1) d n = -M.fl a b d n := by
  unfold M.fl
  have h1 : (a * n + b) / d * d ≤ a * n + b := Int.ediv_mul_le _ (by omega)
  have h2 : a * n + b < ((a * n + b) / d + 1) * d := Int.lt_ediv_add_one_mul_self _ hd
  have g1 : -((a * n + b) / d) ≤ (-a * n + (-b + d - 1)) / d := by
    apply (Int.le_ediv_iff_mul_le hd).mpr
    rw [Int.neg_mul, Int.neg_mul]
    rw [Int.add_mul, Int.one_mul] at h2
    omega
  have g2 : (-a * n + (-b + d - 1)) / d < -((a * n + b) / d) + 1 := by
    apply (Int.ediv_lt_iff_lt_mul hd).mpr
    rw [Int.add_mul, Int.neg_mul, Int.neg_mul, Int.one_mul]
    omega
  omega
theorem CQ.turn {m : Nat} {v1 v2 : PyData} {a b d first last : Int} (h : CQ m v1 v2 a b d first last) : CQ m (.tuple [.int (-a), .int (-b + d - 1), .int d]) v2 (-a) (-b + d - 1) d first last :=
  ⟨.tup _, h.str, h.d0, h.fl, h.sa.neg, h.sd, h.sf, h.sl⟩
/-- the corners of the line turned are those from below -/
theorem lower_run {v1 v2 : PyData} {a b d first last : Int} {m N : Nat} {S : Sto} (h : CQ m v1 v2 a b d first last) (hm : m ≤ 3000) (hN : 2 * m + 4 ≤ N) :
    ∃ L T, (f_lower_corners N).run [.pu v1, .pu v2] S = some (.pu (.list ((first :: L).map fun n => .tuple [.int n, .int (M.fl a b d n)])), S ++ T) ∧ M.Chain (fun n => -M.fl a b d n) last first L ∧ L.length ≤ 4 * m + 9 := by
  obtain ⟨L, T, e1, h1, n1⟩ := numbers_run (S := S) h.turn hm hN
  have hch : M.Chain (fun n => -M.fl a b d n) last first L := by
    have : (fun n => -M.fl a b d n) = M.fl (-a) (-b + d - 1) d := funext fun n => (fl_turned a b d n h.d0).symm
    rw [this]
    exact h1
  refine ⟨L, T, ?_, hch, n1⟩
  have hb : (f_lower_corners N).run [.pu v1, .pu v2] S = ((b_lower_corners N).run [some (.pu v1), some (.pu v2), none] S).bind fin := rfl
  have hi : (i_lower_corners_1 N).run [some (.pu v1), some (.pu v2), none] S = some (dI (first :: L), S ++ T) := by
    unfold i_lower_corners_1
    show ((sCall (f_u_upper_numbers N) _).run _ S).bind _ = _
    have : (sCall (f_u_upper_numbers N) (aCons (sCall (f_turned N) (aCons (sVar 0) aNil)) (aCons (sVar 1) aNil))).run [some (.pu v1), some (.pu v2), none] S = some (.pu (.list (dI (first :: L))), S ++ T) := by
      simp [turned_run h.lin, e1]
    rw [this]
    rfl
  have hf : few (dI (first :: L)) = true := by
    show decide ((dI (first :: L)).length ≤ 100000) = true
    rw [List.length_map, List.length_cons]
    exact decide_eq_true (by omega)
  have hl := lcR_pure (own := [2]) (t := tgName 2) (f := e_lower_corners_1 N) (en := [some (.pu v1), some (.pu v2), none]) (fun x => match x with | .int n => .tuple [.int n, .int (M.fl a b d n)] | x => x) (dI (first :: L)) (S ++ T) [] fun x hx => by
    obtain ⟨n, hn, rfl⟩ := List.mem_map.mp hx
    refine ⟨[some (.pu v1), some (.pu v2), some (.pu (.int n))], rfl, ?_⟩
    obtain ⟨k0, k1⟩ := h1.mem n hn
    have sn : Sz (m + 1) n := by
      have := h.sf.1
      have := h.sl.2
      have := two_succ m
      have := two_pos m
      exact ⟨by omega, by omega⟩
    have hv := value_run (N := N) (S := S ++ T) h.lin (n := n) ⟨h.d0, by have := h.sd.log2; omega⟩ (mulOk_sz h.sa sn (by omega))
    unfold e_lower_corners_1
    simp [hv]
  rw [hb]
  unfold b_lower_corners
  rw [r_ret, r_lc, hi, Option.bind_some]
  show (Option.map _ (if few (dI (first :: L)) = true then _ else none)).bind fin = _
  rw [if_pos hf, hl]
  show some (W.pu (.list ([] ++ (dI (first :: L)).map _)), S ++ T) = _
  rw [List.nil_append]
  unfold dI
  rw [List.map_map]
  rfl
end My


namespace My
open PySem L2 PyProof.Rows Z
/-! ### bare multipliers: what is asked on each side of 0 -/
def quoP : Quo (Int × Int) := ⟨prD, Prod.fst, Prod.snd, fun _ _ => rfl, fun _ _ => rfl⟩
def prH (f : Int → Int) (n : Int) : PyData := .tuple [.int n, .int (f n)]
section
variable {N m : Nat} {a b d u v : Int} {v1 v2 : PyData}
def eBs (V1 V2 : PyData) (x2 x3 x4 x5 x6 : Option W) (v1 v2 : PyData) (x9 x10 x11 x12 : Option W) : En := [some (.pu V1), some (.pu V2), x2, x3, x4, x5, x6, some (.pu v1), some (.pu v2), x9, x10, x11, x12]
theorem low_side (h : CQ m v1 v2 a b d u v) (u1 : 1 ≤ u) (hm : m ≤ 50) (hN : 2 * m + 4 ≤ N) (V1 V2 : PyData) (x2 x3 x4 x5 x6 x9 x10 x11 x12 : Option W) (S : Sto) : ∃ L T, (∃ n, u ≤ n ∧ n ≤ v ∧ L = (M.fl a b d n, n)) ∧ (∀ n, u ≤ n → n ≤ v → M.fl a b d n * L.2 ≤ L.1 * n) ∧
    (sCall (f_greatest_quotient N) (aCons (sLc false [11, 12] (i_u_bare_sides_1 N) (tgSeq 2 (tgCons (tgName 11) (tgCons (tgName 12) tgNil))) sYes (e_u_bare_sides_1 N)) aNil)).run (eBs V1 V2 x2 x3 x4 x5 x6 v1 v2 x9 x10 x11 x12) S = some (.pu (prD L), S ++ T) := by
  obtain ⟨L, T, e1, c1, n1⟩ := corners_run (N := N) (S := S) h (by omega) hN
  have mem := c1.mem
  have it : (i_u_bare_sides_1 N).run (eBs V1 V2 x2 x3 x4 x5 x6 v1 v2 x9 x10 x11 x12) S = some ((u :: L).map (prH (M.fl a b d)), S ++ T) := by
    unfold i_u_bare_sides_1
    have : (sCall (f_upper_corners N) (aCons (sVar 7) (aCons (sVar 8) aNil))).run (eBs V1 V2 x2 x3 x4 x5 x6 v1 v2 x9 x10 x11 x12) S = some (.pu (.list ((u :: L).map (prH (M.fl a b d)))), S ++ T) := by
      unfold eBs
      have e1 : (f_upper_corners N).run [.pu v1, .pu v2] S = some (.pu (.list ((u :: L).map (prH (M.fl a b d)))), S ++ T) := e1
      simp [e1]
    show ((sCall (f_upper_corners N) _).run _ S).bind _ = _
    rw [this]
    rfl
  have lc := lc_all (own := [11, 12]) (t := tgSeq 2 (tgCons (tgName 11) (tgCons (tgName 12) tgNil))) (f := e_u_bare_sides_1 N) (it := i_u_bare_sides_1 N) (en := eBs V1 V2 x2 x3 x4 x5 x6 v1 v2 x9 x10 x11 x12) (S := S) (S' := S ++ T) (xs := u :: L) (prH (M.fl a b d)) (fun n => prD (M.fl a b d n, n)) it (by rw [List.length_cons]; omega) fun n hn => ⟨_, rfl, by
    unfold e_u_bare_sides_1 eBs
    simp [prD, prH, wipeE]⟩
  have em : ((u :: L).map fun n => prD (M.fl a b d n, n)) = ((u :: L).map fun n => (M.fl a b d n, n)).map quoP.enc := by rw [List.map_map]; rfl
  rw [em] at lc
  have b60 : (2 : Int) ^ m ≤ 2 ^ 60 := two_le (by omega)
  have dn : ∀ y ∈ (u :: L).map fun n => (M.fl a b d n, n), 0 < quoP.den y ∧ quoP.den y ≤ 2 ^ 60 := fun y hy => by
    obtain ⟨n, hn, rfl⟩ := List.mem_map.mp hy
    have := mem n hn
    have := h.sl.2
    show 0 < n ∧ n ≤ 2 ^ 60
    omega
  obtain ⟨c, r, hc, best⟩ := greatestA_run (N := N) (S := S ++ T) quoP (x := (M.fl a b d u, u)) (xs := L.map fun n => (M.fl a b d n, n)) (fun y hy => (dn y hy).1) (fun y hy => (dn y hy).2)
  obtain ⟨n0, hn0, rfl⟩ := List.mem_map.mp (show c ∈ (u :: L).map fun n => (M.fl a b d n, n) from hc)
  refine ⟨(M.fl a b d n0, n0), T, ⟨n0, (mem n0 hn0).1, (mem n0 hn0).2, rfl⟩, fun n l0 l1 => ?_, ?_⟩
  · have := c1.bound (p := M.fl a b d n0) (r := 0) (q := n0) (by have := mem n0 hn0; omega) (fun k hk => by
      have := best (M.fl a b d k, k) (show (M.fl a b d k, k) ∈ (u :: L).map fun n => (M.fl a b d n, n) from List.mem_map.mpr ⟨k, hk, rfl⟩)
      have this : 1 * (M.fl a b d k * n0 - M.fl a b d n0 * k) ≤ 0 := this
      rw [Int.mul_comm n0]
      omega) n l0 l1
    rw [Int.mul_comm n0] at this
    show M.fl a b d n * n0 ≤ M.fl a b d n0 * n
    omega
  · have r : (f_greatest_quotient N).run [.pu (.list (((u :: L).map fun n => (M.fl a b d n, n)).map quoP.enc))] (S ++ T) = some (.pu (prD (M.fl a b d n0, n0)), S ++ T) := r
    generalize (sLc false [11, 12] (i_u_bare_sides_1 N) (tgSeq 2 (tgCons (tgName 11) (tgCons (tgName 12) tgNil))) sYes (e_u_bare_sides_1 N)) = C at *
    generalize ((u :: L).map fun n => (M.fl a b d n, n)).map quoP.enc = DL at *
    simp [lc, r]
theorem high_side (h : CQ m v1 v2 a b d u v) (u1 : 1 ≤ u) (hm : m ≤ 50) (hN : 2 * m + 4 ≤ N) (V1 V2 : PyData) (x2 x3 x4 x5 x6 x9 x10 x11 x12 : Option W) (S : Sto) : ∃ H T, (∃ n, u ≤ n ∧ n ≤ v ∧ H = (M.fl a b d n + 1, n)) ∧ (∀ n, u ≤ n → n ≤ v → H.1 * n ≤ (M.fl a b d n + 1) * H.2) ∧
    (sCall (f_least_quotient N) (aCons (sLc false [11, 12] (i_u_bare_sides_2 N) (tgSeq 2 (tgCons (tgName 11) (tgCons (tgName 12) tgNil))) sYes (e_u_bare_sides_2 N)) aNil)).run (eBs V1 V2 x2 x3 x4 x5 x6 v1 v2 x9 x10 x11 x12) S = some (.pu (prD H), S ++ T) := by
  obtain ⟨L, T, e1, c1, n1⟩ := lower_run (N := N) (S := S) h (by omega) hN
  have mem := c1.mem
  have it : (i_u_bare_sides_2 N).run (eBs V1 V2 x2 x3 x4 x5 x6 v1 v2 x9 x10 x11 x12) S = some ((u :: L).map (prH (M.fl a b d)), S ++ T) := by
    unfold i_u_bare_sides_2
    have : (sCall (f_lower_corners N) (aCons (sVar 7) (aCons (sVar 8) aNil))).run (eBs V1 V2 x2 x3 x4 x5 x6 v1 v2 x9 x10 x11 x12) S = some (.pu (.list ((u :: L).map (prH (M.fl a b d)))), S ++ T) := by
      unfold eBs
      have e1 : (f_lower_corners N).run [.pu v1, .pu v2] S = some (.pu (.list ((u :: L).map (prH (M.fl a b d)))), S ++ T) := e1
      simp [e1]
    show ((sCall (f_lower_corners N) _).run _ S).bind _ = _
    rw [this]
    rfl
  have lc := lc_all (own := [11, 12]) (t := tgSeq 2 (tgCons (tgName 11) (tgCons (tgName 12) tgNil))) (f := e_u_bare_sides_2 N) (it := i_u_bare_sides_2 N) (en := eBs V1 V2 x2 x3 x4 x5 x6 v1 v2 x9 x10 x11 x12) (S := S) (S' := S ++ T) (xs := u :: L) (prH (M.fl a b d)) (fun n => prD (M.fl a b d n + 1, n)) it (by rw [List.length_cons]; omega) fun n hn => ⟨_, rfl, by
    unfold e_u_bare_sides_2 eBs
    simp [prD, prH, wipeE]⟩
  have em : ((u :: L).map fun n => prD (M.fl a b d n + 1, n)) = ((u :: L).map fun n => (M.fl a b d n + 1, n)).map quoP.enc := by rw [List.map_map]; rfl
  rw [em] at lc
  have b60 : (2 : Int) ^ m ≤ 2 ^ 60 := two_le (by omega)
  have dn : ∀ y ∈ (u :: L).map fun n => (M.fl a b d n + 1, n), 0 < quoP.den y ∧ quoP.den y ≤ 2 ^ 60 := fun y hy => by
    obtain ⟨n, hn, rfl⟩ := List.mem_map.mp hy
    have := mem n hn
    have := h.sl.2
    show 0 < n ∧ n ≤ 2 ^ 60
    omega
  obtain ⟨c, r, hc, best⟩ := leastA_run (N := N) (S := S ++ T) quoP (x := (M.fl a b d u + 1, u)) (xs := L.map fun n => (M.fl a b d n + 1, n)) (fun y hy => (dn y hy).1) (fun y hy => (dn y hy).2)
  obtain ⟨n0, hn0, rfl⟩ := List.mem_map.mp (show c ∈ (u :: L).map fun n => (M.fl a b d n + 1, n) from hc)
  refine ⟨(M.fl a b d n0 + 1, n0), T, ⟨n0, (mem n0 hn0).1, (mem n0 hn0).2, rfl⟩, fun n l0 l1 => ?_, ?_⟩
  · have := c1.bound (p := -(M.fl a b d n0 + 1)) (r := n0) (q := n0) (by have := mem n0 hn0; omega) (fun k hk => by
      have := best (M.fl a b d k + 1, k) (show (M.fl a b d k + 1, k) ∈ (u :: L).map fun n => (M.fl a b d n + 1, n) from List.mem_map.mpr ⟨k, hk, rfl⟩)
      have this : -1 * ((M.fl a b d k + 1) * n0 - (M.fl a b d n0 + 1) * k) ≤ 0 := this
      show n0 * -M.fl a b d k ≤ _
      rw [Int.add_mul (M.fl a b d k), Int.one_mul, Int.mul_comm _ n0] at this
      rw [Int.mul_neg, Int.neg_mul]
      omega) n l0 l1
    have this : n0 * -M.fl a b d n ≤ -(M.fl a b d n0 + 1) * n + n0 := this
    rw [Int.mul_neg, Int.neg_mul, Int.mul_comm n0] at this
    show (M.fl a b d n0 + 1) * n ≤ (M.fl a b d n + 1) * n0
    rw [Int.add_mul (M.fl a b d n), Int.one_mul]
    omega
  · have r : (f_least_quotient N).run [.pu (.list (((u :: L).map fun n => (M.fl a b d n + 1, n)).map quoP.enc))] (S ++ T) = some (.pu (prD (M.fl a b d n0 + 1, n0)), S ++ T) := r
    generalize (sLc false [11, 12] (i_u_bare_sides_2 N) (tgSeq 2 (tgCons (tgName 11) (tgCons (tgName 12) tgNil))) sYes (e_u_bare_sides_2 N)) = C at *
    generalize ((u :: L).map fun n => (M.fl a b d n + 1, n)).map quoP.enc = DL at *
    simp [lc, r]
/-- one side put down -/
theorem side_body (h : CQ m v1 v2 a b d u v) (u1 : 1 ≤ u) (hm : m ≤ 50) (hN : 2 * m + 4 ≤ N) {sg : Int} (V1 V2 : PyData) (x2 x3 x4 x9 x10 x11 x12 : Option W) {c : Nat} {S : Sto} {ds : List PyData} (hS : S[c]? = some (true, ds)) (ld : ds.length ≤ 9000) : ∃ L H T y9 y10 y11 y12, M.Side (M.fl a b d) u v L H ∧
    (h_u_bare_sides_1 N).run (eBs V1 V2 x2 x3 x4 (some (.mu c)) (some (.pu (.int sg))) v1 v2 x9 x10 x11 x12) S = some (.nx, eBs V1 V2 x2 x3 x4 (some (.mu c)) (some (.pu (.int sg))) v1 v2 y9 y10 y11 y12, (S ++ T).set c (true, ds ++ [sdD ⟨sg, L, H⟩])) := by
  obtain ⟨L, T1, p1, p2, r1⟩ := low_side (N := N) h u1 hm hN V1 V2 x2 x3 x4 (some (.mu c)) (some (.pu (.int sg))) x9 x10 x11 x12 S
  obtain ⟨H, T2, p3, p4, r2⟩ := high_side (N := N) h u1 hm hN V1 V2 x2 x3 x4 (some (.mu c)) (some (.pu (.int sg))) (some (.pu (prD L))) x10 x11 x12 (S ++ T1)
  have cl : c < S.length := (List.getElem?_eq_some_iff.mp hS).1
  refine ⟨L, H, T1 ++ T2, some (.pu (prD L)), some (.pu (prD H)), x11, x12, ⟨u1, p1, p2, p3, p4⟩, ?_⟩
  rw [List.append_assoc] at r2
  have g : (S ++ (T1 ++ T2))[c]? = some (true, ds) := by rw [List.getElem?_append_left cl]; exact hS
  unfold h_u_bare_sides_1
  refine (seq_nx (en1 := eBs V1 V2 x2 x3 x4 (some (.mu c)) (some (.pu (.int sg))) v1 v2 (some (.pu (prD L))) x10 x11 x12) (S1 := S ++ T1) (by rw [r_set, r1]; rfl)).trans ?_
  refine (seq_nx (en1 := eBs V1 V2 x2 x3 x4 (some (.mu c)) (some (.pu (.int sg))) v1 v2 (some (.pu (prD L))) (some (.pu (prD H))) x11 x12) (S1 := S ++ (T1 ++ T2)) (by rw [r_set, r2]; rfl)).trans ?_
  refine app_at (d := sdD ⟨sg, L, H⟩) (S1 := S ++ (T1 ++ T2)) ?_ rfl g (by omega)
  have e : sdD ⟨sg, L, H⟩ = .tuple [.int sg, prD L, prD H] := rfl
  rw [e]
  unfold eBs
  generalize prD L = PL
  generalize prD H = PH
  simp
end
end My


namespace My
open PySem L2 PyProof.Rows Z
theorem fl_mirr (a b d n : Int) : M.fl (-a) b d n = M.fl a b d (-n) := by
  unfold M.fl
  rw [Int.neg_mul, Int.mul_neg]
theorem mirror_runB {v : PyData} {a b d : Int} {N : Nat} {S : Sto} (h : Lin v a b d) : (f_mirrored N).run [.pu v] S = some (.pu (.tuple [.int (-a), .int b, .int d]), S) := by
  rw [q_mirrored]
  unfold b_mirrored
  refine fseq (by conv => lhs; simp [h.tg]) ?_
  exact fret (by simp)
/-- m / B serves where n is not 0 -/
def SrvX (a b d s t m B : Int) : Prop := ∀ n, s ≤ n → n ≤ t → n ≠ 0 → B * M.fl a b d n ≤ m * n ∧ m * n < B * (M.fl a b d n + 1)
structure Sides (a b d s t : Int) (k : Nat) (xs : List M.Sd) : Prop where
  ne : xs ≠ []
  few : xs.length ≤ 2
  ok : ∀ x ∈ xs, x.Ok
  sz : ∀ x ∈ xs, (Sz k x.L.2 ∧ Sz k x.H.2) ∧ Sz (2 * k + 1) x.L.1 ∧ Sz (2 * k + 2) x.H.1
  srv : ∀ m B, 0 < B → (M.SF xs m B ↔ SrvX a b d s t m B)
section
variable {N m : Nat} {a b d s t : Int} {v1 v2 : PyData}
theorem sd_plus {L H : Int × Int} (sd : M.Side (M.fl a b d) (if s < 1 then 1 else s) t L H) {mm B : Int} (hB : 0 < B) : (⟨1, L, H⟩ : M.Sd).In mm B ↔ ∀ n, s ≤ n → n ≤ t → 0 < n → B * M.fl a b d n ≤ mm * n ∧ mm * n < B * (M.fl a b d n + 1) := by
  have := sd.serve (m := mm) hB
  unfold M.Sd.In
  show (L.1 * B ≤ 1 * mm * L.2 ∧ 1 * mm * H.2 < H.1 * B) ↔ _
  rw [Int.one_mul, ← this]
  constructor
  · intro k n n0 n1 n2
    exact k n (by split <;> omega) n1
  · intro k n n0 n1
    exact k n (by split at n0 <;> omega) n1 (by split at n0 <;> omega)
theorem sd_minus {L H : Int × Int} (sd : M.Side (M.fl (-a) b d) (if -t < 1 then 1 else -t) (-s) L H) {mm B : Int} (hB : 0 < B) : (⟨-1, L, H⟩ : M.Sd).In mm B ↔ ∀ n, s ≤ n → n ≤ t → n < 0 → B * M.fl a b d n ≤ mm * n ∧ mm * n < B * (M.fl a b d n + 1) := by
  have := sd.serve (m := -1 * mm) hB
  unfold M.Sd.In
  show (L.1 * B ≤ -1 * mm * L.2 ∧ -1 * mm * H.2 < H.1 * B) ↔ _
  rw [← this]
  have e : ∀ n, -1 * mm * n = mm * -n := fun n => by rw [Int.mul_neg, Int.mul_assoc, Int.neg_one_mul]
  constructor
  · intro k n n0 n1 n2
    have := k (-n) (by split <;> omega) (by omega)
    rw [fl_mirr, e, Int.neg_neg] at this
    exact this
  · intro k n n0 n1
    rw [fl_mirr, e]
    exact k (-n) (by omega) (by split at n0 <;> omega) (by split at n0 <;> omega)
theorem side_ok {f : Int → Int} {u v : Int} {L H : Int × Int} (sd : M.Side f u v L H) {sg : Int} (hs : sg = 1 ∨ sg = -1) : (⟨sg, L, H⟩ : M.Sd).Ok := ⟨hs, sd.l0, sd.h0⟩
theorem side_sz {k : Nat} {u v : Int} {L H : Int × Int} (sd : M.Side (M.fl a b d) u v L H) (hd : 0 < d) (sa : Sz k a) (sb : Sz k b) (su : Sz k u) (sv : Sz k v) : (Sz k L.2 ∧ Sz k H.2) ∧ Sz (2 * k + 1) L.1 ∧ Sz (2 * k + 2) H.1 := by
  obtain ⟨n, n0, n1, e⟩ := sd.lm
  obtain ⟨n', n0', n1', e'⟩ := sd.hm
  have ms : ∀ x, u ≤ x → x ≤ v → Sz k x := fun x h1 h2 => ⟨by have := su.1; omega, by have := sv.2; omega⟩
  have fs : ∀ x, u ≤ x → x ≤ v → Sz (2 * k + 1) (M.fl a b d x) := fun x h1 h2 => by
    have := ((sa.mul (ms x h1 h2)).mono (show k + k ≤ 2 * k by omega)).add (sb.mono (show k ≤ 2 * k by omega))
    exact this.div hd
  rw [e, e']
  refine ⟨⟨ms n n0 n1, ms n' n0' n1'⟩, fs n n0 n1, ?_⟩
  exact (fs n' n0' n1').add (Sz.of_le (by decide) (by have := two_pos (2 * k + 1); omega))
theorem sides_run (h : CQ m v1 v2 a b d s t) (sb : Sz m b) (st : s < t) (hm : m ≤ 50) (m1 : 1 ≤ m) (hN : 2 * m + 4 ≤ N) (S : Sto) : ∃ xs S' j, Sides a b d s t m xs ∧ Ext S S' ∧ S.length ≤ j ∧ S'[j]? = some (true, xs.map sdD) ∧ (f_u_bare_sides N).run [.pu v1, .pu v2] S = some (.mu j, S') := by
  have one : Sz m 1 := Sz.of_le (by decide) (by have := two_le m1; have : (2 : Int) ^ 1 = 2 := rfl; omega)
  have mx : ∀ (i j : Int) U, oMax [.pu (.int i), .pu (.int j)] U = some (.pu (.int (if j > i then j else i))) := fun _ _ _ => rfl
  have mi := fun U => mirror_runB (N := N) (S := U) h.lin
  have sP : Sz m (if 1 > s then 1 else s) := by split; exact one; exact h.sf
  have sM : Sz m (if 1 > -t then 1 else -t) := by split; exact one; exact h.sl.neg
  have cP : 0 < t → CQ m v1 (.tuple [.int (if 1 > s then 1 else s), .int t]) a b d (if 1 > s then 1 else s) t := fun z => ⟨h.lin, .tup _, h.d0, by split <;> omega, h.sa, h.sd, sP, h.sl⟩
  have cM : s < 0 → CQ m (.tuple [.int (-a), .int b, .int d]) (.tuple [.int (if 1 > -t then 1 else -t), .int (-s)]) (-a) b d (if 1 > -t then 1 else -t) (-s) := fun z => ⟨.tup _, .tup _, h.d0, by split <;> omega, h.sa.neg, h.sd, sM, h.sf.neg⟩
  have gA : ∀ {p : Bool × List PyData}, (S ++ [p])[S.length]? = some p := fun {p} => by rw [List.getElem?_append_right (Nat.le_refl _), Nat.sub_self]; rfl
  have sA : ∀ {p r : Bool × List PyData}, (S ++ [p]).set S.length r = S ++ [r] := fun {p r} => by rw [List.set_append_right _ _ (Nat.le_refl _), Nat.sub_self]; rfl
  have gB : ∀ {p q : Bool × List PyData}, (S ++ [p, q])[S.length + 1]? = some q := fun {p q} => by rw [List.getElem?_append_right (by omega), show S.length + 1 - S.length = 1 by omega]; rfl
  have ext2 : ∀ {p q : Bool × List PyData} (T : Sto) (x : Bool × List PyData), Ext S ((S ++ [p, q] ++ T).set (S.length + 1) x) := fun {p q} T x => Ext.set (by rw [List.append_assoc]; exact ⟨_, rfl⟩) (by omega) x
  have get2 : ∀ {p q : Bool × List PyData} (T : Sto) (x : Bool × List PyData), ((S ++ [p, q] ++ T).set (S.length + 1) x)[S.length + 1]? = some x := fun {p q} T x => List.getElem?_set_self (by simp)
  -- the first list as it is walked
  have it : ∀ (els : List PyData) (x5 : Option W), (r_u_bare_sides_1 N).run [some (.pu v1), some (.pu v2), some (.pu (.int s)), some (.pu (.int t)), some (.mu S.length), x5, none, none, none, none, none, none, none] (S ++ [(true, els), (true, [])]) = some (els, S ++ [(false, els), (true, [])]) := fun els x5 => by
    have g : (S ++ [((true : Bool), els), (true, [])])[S.length]? = some (true, els) := by rw [List.getElem?_append_right (Nat.le_refl _), Nat.sub_self]; rfl
    have e : fz (.mu S.length) (S ++ [(true, els), (true, [])]) = some (.list els, (S ++ [(true, els), (true, [])]).set S.length (false, els)) := by
      show (match (S ++ [((true : Bool), els), (true, [])])[S.length]? with
        | some (true, ds) => some (PyData.list ds, (S ++ [(true, els), (true, [])]).set S.length (false, ds))
        | some (false, ds) => some (.list ds, S ++ [(true, els), (true, [])])
        | none => none) = _
      rw [g]
    show (Option.bind (fz (.mu S.length) (S ++ [(true, els), (true, [])])) _) = _
    rw [e, List.set_append_right _ _ (Nat.le_refl _), Nat.sub_self]
    rfl
  rw [q_u_bare_sides]
  unfold b_u_bare_sides
  have e0 : ∀ (B : SS) r, ((B.run [some (.pu v1), some (.pu v2), some (.pu (.int s)), some (.pu (.int t)), some (.mu S.length), none, none, none, none, none, none, none, none] (S ++ [(true, [])])).bind fin = r) → ((gSeq (gUnp (tgSeq 2 (tgCons (tgName 2) (tgCons (tgName 3) tgNil))) (sVar 1)) (gSeq (gSet 4 (sLst true aNil)) B)).run [some (.pu v1), some (.pu v2), none, none, none, none, none, none, none, none, none, none, none] S).bind fin = r := fun B r k => by
    refine fseq (en1 := [some (.pu v1), some (.pu v2), some (.pu (.int s)), some (.pu (.int t)), none, none, none, none, none, none, none, none, none]) (S1 := S) (by conv => lhs; simp [h.str.tg]) ?_
    exact fset (w := .mu S.length) (S1 := S ++ [(true, [])]) rfl rfl k
  have rest : ∀ (els : List PyData) (xs : List M.Sd) (T : Sto) (y6 : Option W) (w1 w2 : PyData) (y9 y10 y11 y12 : Option W), loopR (tgSeq 3 (tgCons (tgName 6) (tgCons (tgName 7) (tgCons (tgName 8) tgNil)))) (h_u_bare_sides_1 N) els [some (.pu v1), some (.pu v2), some (.pu (.int s)), some (.pu (.int t)), some (.mu S.length), some (.mu (S.length + 1)), none, none, none, none, none, none, none] (S ++ [(false, els), (true, [])]) = some (.nx, eBs v1 v2 (some (.pu (.int s))) (some (.pu (.int t))) (some (.mu S.length)) (some (.mu (S.length + 1))) y6 w1 w2 y9 y10 y11 y12, T) →
      ((gSeq (gSet 5 (sLst true aNil)) (gSeq (gFor (r_u_bare_sides_1 N) (tgSeq 3 (tgCons (tgName 6) (tgCons (tgName 7) (tgCons (tgName 8) tgNil)))) (h_u_bare_sides_1 N)) (gRet (sVar 5)))).run [some (.pu v1), some (.pu v2), some (.pu (.int s)), some (.pu (.int t)), some (.mu S.length), none, none, none, none, none, none, none, none] (S ++ [(true, els)])).bind fin = some (.mu (S.length + 1), T) := fun els xs T y6 w1 w2 y9 y10 y11 y12 lp => by
    refine fset (w := .mu (S.length + 1)) (S1 := S ++ [(true, els), (true, [])]) ?_ rfl ?_
    · show some (W.mu (S ++ [((true : Bool), els)]).length, (S ++ [(true, els)]) ++ [(true, [])]) = _
      rw [List.length_append, List.append_assoc]
      rfl
    refine ffor (it els _) lp ?_
    exact fret rfl
  have elP : ∀ U, (sTup (aCons (sC (.int 1)) (aCons (sVar 0) (aCons (sTup (aCons (sB oMax (aCons (sVar 2) (aCons (sC (.int 1)) aNil))) (aCons (sVar 3) aNil))) aNil)))).run [some (.pu v1), some (.pu v2), some (.pu (.int s)), some (.pu (.int t)), some (.mu S.length), none, none, none, none, none, none, none, none] U = some (.pu (.tuple [.int 1, v1, .tuple [.int (if 1 > s then 1 else s), .int t]]), U) := fun U => by
    simp [mx]
  have elM : ∀ U, (sTup (aCons (sNeg (sC (.int 1))) (aCons (sCall (f_mirrored N) (aCons (sVar 0) aNil)) (aCons (sTup (aCons (sB oMax (aCons (sNeg (sVar 3)) (aCons (sC (.int 1)) aNil))) (aCons (sNeg (sVar 2)) aNil))) aNil)))).run [some (.pu v1), some (.pu v2), some (.pu (.int s)), some (.pu (.int t)), some (.mu S.length), none, none, none, none, none, none, none, none] U = some (.pu (.tuple [.int (-1), .tuple [.int (-a), .int b, .int d], .tuple [.int (if 1 > -t then 1 else -t), .int (-s)]]), U) := fun U => by
    have := mi U
    generalize PyData.tuple [.int (-a), .int b, .int d] = ML at *
    simp [mx, this]
  have uP : ∀ x : Int, 1 ≤ (if 1 > x then 1 else x) := fun x => by split <;> omega
  have gtl : ∀ x : Int, (if 1 > x then 1 else x) = (if x < 1 then 1 else x) := fun x => rfl
  rcases Int.lt_or_le 0 t with ht | ht
  · rcases Int.lt_or_le s 0 with hs | hs
    · -- both sides
      obtain ⟨L, H, T, y9, y10, y11, y12, sd, r1⟩ := side_body (N := N) (cP ht) (uP _) hm hN (sg := 1) v1 v2 (some (.pu (.int s))) (some (.pu (.int t))) (some (.mu S.length)) none none none none (c := S.length + 1) (S := S ++ [(false, [.tuple [.int 1, v1, .tuple [.int (if 1 > s then 1 else s), .int t]], .tuple [.int (-1), .tuple [.int (-a), .int b, .int d], .tuple [.int (if 1 > -t then 1 else -t), .int (-s)]]]), (true, [])]) gB (by decide)
      obtain ⟨L', H', T', z9, z10, z11, z12, sd', r2⟩ := side_body (N := N) (cM hs) (uP _) hm hN (sg := -1) v1 v2 (some (.pu (.int s))) (some (.pu (.int t))) (some (.mu S.length)) y9 y10 y11 y12 (c := S.length + 1) (ds := [] ++ [sdD ⟨1, L, H⟩]) (get2 T _) (by simp)
      refine ⟨[⟨1, L, H⟩, ⟨-1, L', H'⟩], ((S ++ [(false, [PyData.tuple [.int 1, v1, .tuple [.int (if 1 > s then 1 else s), .int t]], .tuple [.int (-1), .tuple [.int (-a), .int b, .int d], .tuple [.int (if 1 > -t then 1 else -t), .int (-s)]]]), (true, [])] ++ T).set (S.length + 1) (true, [] ++ [sdD ⟨1, L, H⟩]) ++ T').set (S.length + 1) (true, [] ++ [sdD ⟨1, L, H⟩] ++ [sdD ⟨-1, L', H'⟩]), S.length + 1, ⟨by simp, by simp, ?_, ?_, ?_⟩, ?_, by omega, ?_, ?_⟩
      · intro x hx
        rcases List.mem_cons.mp hx with e | hx
        · rw [e]; exact side_ok sd (.inl rfl)
        · rw [List.mem_singleton.mp hx]; exact side_ok sd' (.inr rfl)
      · intro x hx
        rcases List.mem_cons.mp hx with e | hx
        · rw [e]; exact side_sz sd h.d0 h.sa sb sP h.sl
        · rw [List.mem_singleton.mp hx]; exact side_sz sd' h.d0 h.sa.neg sb sM h.sf.neg
      · intro mm B hB
        have i1 := sd_plus (mm := mm) sd hB
        have i2 := sd_minus (mm := mm) sd' hB
        constructor
        · intro k n n0 n1 n2
          rcases Int.lt_or_le 0 n with z | z
          · exact i1.mp (k _ List.mem_cons_self) n n0 n1 z
          · exact i2.mp (k _ (List.mem_cons_of_mem _ List.mem_cons_self)) n n0 n1 (by omega)
        · intro k x hx
          rcases List.mem_cons.mp hx with e | hx
          · rw [e]; exact i1.mpr fun n n0 n1 n2 => k n n0 n1 (by omega)
          · rw [List.mem_singleton.mp hx]; exact i2.mpr fun n n0 n1 n2 => k n n0 n1 (by omega)
      · exact Ext.set (Ext.app (ext2 T _) T') (by omega) _
      · exact List.getElem?_set_self (by simp)
      · refine e0 _ _ ?_
        refine fif_t (w := .pu (.bool true)) (S1 := S ++ [(true, [])]) (by simp [ht]) rfl ?_
        refine fseq (app_at (elP _) rfl gA (by decide)) ?_
        rw [sA]
        refine fif_t (w := .pu (.bool true)) (S1 := S ++ [(true, [] ++ [PyData.tuple [.int 1, v1, .tuple [.int (if 1 > s then 1 else s), .int t]]])]) (by simp [hs]) rfl ?_
        refine fseq (app_at (elM _) rfl gA (by simp)) ?_
        rw [sA]
        refine rest _ [] _ (some (.pu (.int (-1)))) (.tuple [.int (-a), .int b, .int d]) (.tuple [.int (if 1 > -t then 1 else -t), .int (-s)]) z9 z10 z11 z12 ?_
        rw [show ([] : List PyData) ++ [PyData.tuple [.int 1, v1, .tuple [.int (if 1 > s then 1 else s), .int t]]] ++ [.tuple [.int (-1), .tuple [.int (-a), .int b, .int d], .tuple [.int (if 1 > -t then 1 else -t), .int (-s)]]] = [.tuple [.int 1, v1, .tuple [.int (if 1 > s then 1 else s), .int t]], .tuple [.int (-1), .tuple [.int (-a), .int b, .int d], .tuple [.int (if 1 > -t then 1 else -t), .int (-s)]]] from rfl]
        refine (loop_nx (en1 := eBs v1 v2 (some (.pu (.int s))) (some (.pu (.int t))) (some (.mu S.length)) (some (.mu (S.length + 1))) (some (.pu (.int 1))) v1 (.tuple [.int (if 1 > s then 1 else s), .int t]) none none none none) rfl r1).trans ?_
        exact (loop_nx (en1 := eBs v1 v2 (some (.pu (.int s))) (some (.pu (.int t))) (some (.mu S.length)) (some (.mu (S.length + 1))) (some (.pu (.int (-1)))) (.tuple [.int (-a), .int b, .int d]) (.tuple [.int (if 1 > -t then 1 else -t), .int (-s)]) y9 y10 y11 y12) rfl r2).trans rfl
    · obtain ⟨L, H, T, y9, y10, y11, y12, sd, r1⟩ := side_body (N := N) (cP ht) (uP _) hm hN (sg := 1) v1 v2 (some (.pu (.int s))) (some (.pu (.int t))) (some (.mu S.length)) none none none none (c := S.length + 1) (S := S ++ [(false, [.tuple [.int 1, v1, .tuple [.int (if 1 > s then 1 else s), .int t]]]), (true, [])]) gB (by decide)
      refine ⟨[⟨1, L, H⟩], (S ++ [(false, [PyData.tuple [.int 1, v1, .tuple [.int (if 1 > s then 1 else s), .int t]]]), (true, [])] ++ T).set (S.length + 1) (true, [] ++ [sdD ⟨1, L, H⟩]), S.length + 1, ⟨by simp, by simp, ?_, ?_, ?_⟩, ext2 T _, by omega, get2 T _, ?_⟩
      · intro x hx
        rw [List.mem_singleton.mp hx]; exact side_ok sd (.inl rfl)
      · intro x hx
        rw [List.mem_singleton.mp hx]; exact side_sz sd h.d0 h.sa sb sP h.sl
      · intro mm B hB
        have i1 := sd_plus (mm := mm) sd hB
        constructor
        · intro k n n0 n1 n2
          exact i1.mp (k _ List.mem_cons_self) n n0 n1 (by omega)
        · intro k x hx
          rw [List.mem_singleton.mp hx]; exact i1.mpr fun n n0 n1 n2 => k n n0 n1 (by omega)
      · refine e0 _ _ ?_
        have hs' : ¬ s < 0 := by omega
        refine fif_t (w := .pu (.bool true)) (S1 := S ++ [(true, [])]) (by simp [ht]) rfl ?_
        refine fseq (app_at (elP _) rfl gA (by decide)) ?_
        rw [sA]
        refine fif_f (w := .pu (.bool false)) (S1 := S ++ [(true, [] ++ [PyData.tuple [.int 1, v1, .tuple [.int (if 1 > s then 1 else s), .int t]]])]) (by simp [hs']) rfl (fnop ?_)
        refine rest _ [] _ (some (.pu (.int 1))) v1 (.tuple [.int (if 1 > s then 1 else s), .int t]) y9 y10 y11 y12 ?_
        exact (loop_nx (en1 := eBs v1 v2 (some (.pu (.int s))) (some (.pu (.int t))) (some (.mu S.length)) (some (.mu (S.length + 1))) (some (.pu (.int 1))) v1 (.tuple [.int (if 1 > s then 1 else s), .int t]) none none none none) rfl r1).trans rfl
  · have hs : s < 0 := by omega
    obtain ⟨L, H, T, y9, y10, y11, y12, sd, r1⟩ := side_body (N := N) (cM hs) (uP _) hm hN (sg := -1) v1 v2 (some (.pu (.int s))) (some (.pu (.int t))) (some (.mu S.length)) none none none none (c := S.length + 1) (S := S ++ [(false, [.tuple [.int (-1), .tuple [.int (-a), .int b, .int d], .tuple [.int (if 1 > -t then 1 else -t), .int (-s)]]]), (true, [])]) gB (by decide)
    refine ⟨[⟨-1, L, H⟩], (S ++ [(false, [PyData.tuple [.int (-1), .tuple [.int (-a), .int b, .int d], .tuple [.int (if 1 > -t then 1 else -t), .int (-s)]]]), (true, [])] ++ T).set (S.length + 1) (true, [] ++ [sdD ⟨-1, L, H⟩]), S.length + 1, ⟨by simp, by simp, ?_, ?_, ?_⟩, ext2 T _, by omega, get2 T _, ?_⟩
    · intro x hx
      rw [List.mem_singleton.mp hx]; exact side_ok sd (.inr rfl)
    · intro x hx
      rw [List.mem_singleton.mp hx]; exact side_sz sd h.d0 h.sa.neg sb sM h.sf.neg
    · intro mm B hB
      have i2 := sd_minus (mm := mm) sd hB
      constructor
      · intro k n n0 n1 n2
        exact i2.mp (k _ List.mem_cons_self) n n0 n1 (by omega)
      · intro k x hx
        rw [List.mem_singleton.mp hx]; exact i2.mpr fun n n0 n1 n2 => k n n0 n1 (by omega)
    · refine e0 _ _ ?_
      have ht' : ¬ 0 < t := by omega
      refine fif_f (w := .pu (.bool false)) (S1 := S ++ [(true, [])]) (by simp [ht']) rfl (fnop ?_)
      refine fif_t (w := .pu (.bool true)) (S1 := S ++ [(true, [])]) (by simp [hs]) rfl ?_
      refine fseq (app_at (elM _) rfl gA (by decide)) ?_
      rw [sA]
      refine rest _ [] _ (some (.pu (.int (-1)))) (.tuple [.int (-a), .int b, .int d]) (.tuple [.int (if 1 > -t then 1 else -t), .int (-s)]) y9 y10 y11 y12 ?_
      exact (loop_nx (en1 := eBs v1 v2 (some (.pu (.int s))) (some (.pu (.int t))) (some (.mu S.length)) (some (.mu (S.length + 1))) (some (.pu (.int (-1)))) (.tuple [.int (-a), .int b, .int d]) (.tuple [.int (if 1 > -t then 1 else -t), .int (-s)]) none none none none) rfl r1).trans rfl
end
end My


namespace My
open PySem L2 PyProof.Rows Z
/-- m / B without addition serves on the whole stretch -/
def Srv (a b d s t m B : Int) : Prop := ∀ n, s ≤ n → n ≤ t → B * M.fl a b d n ≤ m * n ∧ m * n < B * (M.fl a b d n + 1)
def Start (a b d s t : Int) : Prop := ¬ (s ≤ 0 ∧ 0 ≤ t) ∨ M.fl a b d 0 = 0
theorem srv_start {a b d s t m B : Int} (hB : 0 < B) (h : Srv a b d s t m B) : Start a b d s t := by
  by_cases c : s ≤ 0 ∧ 0 ≤ t
  · refine .inr ?_
    have := h 0 c.1 c.2
    rw [Int.mul_zero] at this
    have h1 : M.fl a b d 0 ≤ 0 := by
      apply Int.not_lt.mp
      intro z
      have := Int.mul_pos hB z
      omega
    have h2 : 0 < M.fl a b d 0 + 1 := by
      apply Int.not_le.mp
      intro z
      have := Int.mul_nonpos_of_nonneg_of_nonpos (Int.le_of_lt hB) z
      omega
    omega
  · exact .inl c
theorem srv_iff {a b d s t m B : Int} (hB : 0 < B) (st : Start a b d s t) : Srv a b d s t m B ↔ SrvX a b d s t m B := by
  constructor
  · intro h n n0 n1 _
    exact h n n0 n1
  · intro h n n0 n1
    by_cases z : n = 0
    · subst z
      rcases st with k | k
      · exact absurd ⟨n0, n1⟩ k
      · rw [k, Int.mul_zero, Int.mul_zero]
        omega
    · exact h n n0 n1 z
def BareOk (P : Int → Prop) : Option (Int × Int) → Prop
  | some p => p.1 ≤ p.2 ∧ ∀ m, P m ↔ p.1 ≤ m ∧ m ≤ p.2
  | none => ∀ m, ¬ P m
theorem BareOk.uniq {P : Int → Prop} : ∀ {o o' : Option (Int × Int)}, BareOk P o → BareOk P o' → o = o'
  | none, none, _, _ => rfl
  | none, some p, h, k => absurd ((k.2 p.1).mpr ⟨Int.le_refl _, k.1⟩) (h p.1)
  | some p, none, h, k => absurd ((h.2 p.1).mpr ⟨Int.le_refl _, h.1⟩) (k p.1)
  | some p, some q, h, k => by
    have a1 := (k.2 p.1).mp ((h.2 p.1).mpr ⟨Int.le_refl _, h.1⟩)
    have a2 := (h.2 q.1).mp ((k.2 q.1).mpr ⟨Int.le_refl _, k.1⟩)
    have a3 := (k.2 p.2).mp ((h.2 p.2).mpr ⟨h.1, Int.le_refl _⟩)
    have a4 := (h.2 q.2).mp ((k.2 q.2).mpr ⟨k.1, Int.le_refl _⟩)
    congr 1
    exact Prod.ext (by omega) (by omega)
theorem BareOk.congr {P Q : Int → Prop} (e : ∀ m, P m ↔ Q m) : ∀ {o : Option (Int × Int)}, BareOk P o → BareOk Q o
  | none, h => fun m k => h m ((e m).mpr k)
  | some p, h => ⟨h.1, fun m => (e m).symm.trans (h.2 m)⟩
theorem mxB_spec {L : List Int} (h : L ≠ []) : mxB L ∈ L ∧ ∀ y ∈ L, y ≤ mxB L := by
  cases L with
  | nil => exact absurd rfl h
  | cons x xs => exact maxL_spec xs x
theorem mnB_spec {L : List Int} (h : L ≠ []) : mnB L ∈ L ∧ ∀ y ∈ L, mnB L ≤ y := by
  cases L with
  | nil => exact absurd rfl h
  | cons x xs => exact minL_spec xs x
theorem topO_ok {xs : List M.Sd} {B : Int} (ne : xs ≠ []) (ok : ∀ x ∈ xs, x.Ok) : BareOk (fun m => M.SF xs m B) (topO xs B) := by
  have n1 : xs.map (·.least B) ≠ [] := fun e => ne (List.map_eq_nil_iff.mp e)
  have n2 : xs.map (·.great B) ≠ [] := fun e => ne (List.map_eq_nil_iff.mp e)
  have s1 := mxB_spec n1
  have s2 := mnB_spec n2
  have key : ∀ m, M.SF xs m B ↔ mxB (xs.map (·.least B)) ≤ m ∧ m ≤ mnB (xs.map (·.great B)) := fun m => by
    constructor
    · intro h
      obtain ⟨x, hx, e⟩ := List.mem_map.mp s1.1
      obtain ⟨y, hy, e'⟩ := List.mem_map.mp s2.1
      have := (M.Sd.in_iff (ok x hx)).mp (h x hx)
      have := (M.Sd.in_iff (ok y hy)).mp (h y hy)
      omega
    · intro h x hx
      refine (M.Sd.in_iff (ok x hx)).mpr ?_
      have := s1.2 _ (List.mem_map.mpr ⟨x, hx, rfl⟩)
      have := s2.2 _ (List.mem_map.mpr ⟨x, hx, rfl⟩)
      omega
  unfold topO
  split
  · rename_i c
    exact ⟨c, key⟩
  · rename_i c
    intro m h
    have := (key m).mp h
    omega
section
variable {N m : Nat} {a b d s t : Int} {v1 v2 : PyData}
theorem need_run (h : Stre v2 s t) (st : s < t) (S : Sto) : (f_u_need_two N).run [.pu v2] S = some (.pu .none, S) := by
  have i0 : oIx (.pu v2) (.pu (.int 0)) S = some (.pu (.int s)) := by rw [h.ix]; rfl
  have i1 : oIx (.pu v2) (.pu (.int 1)) S = some (.pu (.int t)) := by rw [h.ix]; rfl
  have ne : (s == t) = false := beq_eq_false_iff_ne.mpr (by omega)
  rw [q_u_need_two]
  unfold b_u_need_two
  have e : (gIf (sEq (sIx (sVar 0) (sC (.int 0))) (sIx (sVar 0) (sC (.int 1)))) gBad gNop).run [some (.pu v2)] S = some (.nx, [some (.pu v2)], S) := by
    simp [i0, i1, Z.eq_int, ne]
  rw [e]
  rfl
theorem start_run (h : CQ m v1 v2 a b d s t) (hm : m ≤ 50) (S : Sto) : ∃ bl : Bool, (bl = true ↔ Start a b d s t) ∧ (f_u_starts_at_nought N).run [.pu v1, .pu v2] S = some (.pu (.bool bl), S) := by
  have i0 : oIx (.pu v2) (.pu (.int 0)) S = some (.pu (.int s)) := by rw [h.str.ix]; rfl
  have i1 : oIx (.pu v2) (.pu (.int 1)) S = some (.pu (.int t)) := by rw [h.str.ix]; rfl
  have v := value_run (N := N) (S := S) h.lin (n := 0) ⟨h.d0, by have := h.sd.log2; omega⟩ (mulOk_sz h.sa (Sz.zero (e := 1)) (by omega))
  rw [q_u_starts_at_nought]
  unfold b_u_starts_at_nought
  by_cases c1 : s ≤ 0
  · by_cases c2 : 0 ≤ t
    · refine ⟨M.fl a b d 0 == 0, ?_, fret (by simp [sChain, i0, i1, c1, c2, v, Z.eq_int])⟩
      rw [beq_iff_eq]
      exact ⟨.inr, fun h => h.elim (fun k => absurd ⟨c1, c2⟩ k) id⟩
    · exact ⟨true, ⟨fun _ => .inl fun k => c2 k.2, fun _ => rfl⟩, fret (by simp [sChain, i0, i1, c1, c2])⟩
  · exact ⟨true, ⟨fun _ => .inl fun k => c1 k.1, fun _ => rfl⟩, fret (by simp [sChain, i0, i1, c1])⟩
theorem sd_ok {k : Nat} {xs : List M.Sd} (h : Sides a b d s t k xs) (hk : k ≤ 50) {B : Int} {e : Nat} (sB : Sz e B) (he : e ≤ 10000) : ∀ x ∈ xs, SdOk x B := fun x hx => by
  obtain ⟨⟨z1, z2⟩, z3, z4⟩ := h.sz x hx
  have o := h.ok x hx
  exact ⟨o.s, ⟨o.l, by have := z1.log2; omega⟩, ⟨o.h, by have := z2.log2; omega⟩, mulOk_sz z3.neg sB (by omega), mulOk_sz z4.neg sB (by omega)⟩
theorem shl_run {en : En} {U : Sto} {i k : Nat} (h : en[i]? = some (some (.pu (.int k)))) (hk : k ≤ 5000) : (sShl (sC (.int 1)) (sVar i)).run en U = some (.pu (.int (2 ^ k)), U) := by
  have o : shlOk 1 (k : Int) = true := by
    unfold shlOk
    simp
    omega
  rw [r_shl]
  show ((sVar i).run en U).bind _ = _
  rw [r_var, h]
  show (Option.map _ (if shlOk 1 (k : Int) = true then some (W.pu (.int (2 ^ (k : Int).toNat))) else none)) = _
  rw [if_pos o, Int.toNat_natCast]
  rfl
theorem pow_sz (k : Nat) : Sz k (2 ^ k) := Sz.of_le (Int.le_of_lt (two_pos k)) (Int.le_refl _)
theorem bare_run (h : CQ m v1 v2 a b d s t) (sb : Sz m b) (st : s < t) (hm : m ≤ 50) (m1 : 1 ≤ m) (hN : 2 * m + 4 ≤ N) {k : Nat} (hk : k ≤ 5000) : ∃ o, BareOk (fun mm => Srv a b d s t mm (2 ^ k)) o ∧ FPu (f_bare_multipliers N) [.pu v1, .pu v2, .pu (.int k)] (oP o) := by
  have B0 : (0 : Int) < 2 ^ k := two_pos k
  have key : ∀ S, ∃ o, BareOk (fun mm => Srv a b d s t mm (2 ^ k)) o ∧ ∃ S', Ext S S' ∧ (f_bare_multipliers N).run [.pu v1, .pu v2, .pu (.int k)] S = some (.pu (oP o), S') := fun S => by
    have e1 := need_run (N := N) h.str st S
    obtain ⟨bl, b1, e2⟩ := start_run (N := N) h hm S
    cases bl with
    | false =>
      refine ⟨none, fun mm c => ?_, S, .refl _, ?_⟩
      · have := b1.mpr (srv_start B0 c)
        cases this
      · rw [q_bare_multipliers]
        unfold b_bare_multipliers
        refine fseq (by conv => lhs; simp [e1]) ?_
        refine fif_t (w := .pu (.bool true)) (S1 := S) (by simp [e2]) rfl ?_
        show _ = some (W.pu .none, S)
        exact frt (by conv => lhs; simp)
    | true =>
      have str := b1.mp rfl
      obtain ⟨xs, S', j, sd, x1, jl, g, e3⟩ := sides_run (N := N) h sb st hm m1 hN S
      have e4 := ts_run (N := N) g (sd_ok sd hm (pow_sz k) (by omega)) sd.ne (by have := sd.few; omega)
      refine ⟨topO xs (2 ^ k), BareOk.congr (fun mm => (sd.srv mm _ B0).trans (srv_iff B0 str).symm) (topO_ok sd.ne sd.ok), S'.set j (false, xs.map sdD) ++ [(true, dI (xs.map (·.least (2 ^ k)))), (true, dI (xs.map (·.great (2 ^ k))))], Ext.app (Ext.set x1 jl _) _, ?_⟩
      have sh : ∀ U : Sto, (sShl (sC (.int 1)) (sVar 2)).run [some (.pu v1), some (.pu v2), some (.pu (.int k))] U = some (.pu (.int (2 ^ k)), U) := fun U => shl_run rfl hk
      rw [q_bare_multipliers]
      unfold b_bare_multipliers
      generalize (sShl (sC (.int 1)) (sVar 2)) = SH at *
      generalize oP (topO xs (2 ^ k)) = OP at *
      generalize S'.set j (false, xs.map sdD) ++ [(true, dI (xs.map (·.least (2 ^ k)))), (true, dI (xs.map (·.great (2 ^ k))))] = U at *
      refine fseq (by conv => lhs; simp [e1]) ?_
      refine fif_f (w := .pu (.bool false)) (S1 := S) (by simp [e2]) rfl (fnop ?_)
      exact fret (by simp [e3, sh, e4])
  obtain ⟨o, ho, _⟩ := key []
  refine ⟨o, ho, fun S => ?_⟩
  obtain ⟨o', ho', r⟩ := key S
  rw [BareOk.uniq ho ho']
  exact r
end
end My


namespace My
open PySem L2 PyProof.Rows Z
/-! ### the least shift without addition -/
theorem bits_lt {x : Int} {k : Nat} (h : 0 ≤ x) : (2 : Int) ^ k ≤ x ↔ k < Builtin.Int.intBits x := by
  obtain ⟨n, rfl⟩ := Int.eq_ofNat_of_zero_le h
  have p : ((2 ^ k : Nat) : Int) = (2 : Int) ^ k := by rw [Int.natCast_pow]; rfl
  unfold Builtin.Int.intBits
  rw [← p]
  have q := Nat.two_pow_pos k
  by_cases z : n = 0
  · subst z
    simp
    omega
  · have zb : ((n : Int) == 0) = false := by rw [beq_eq_false_iff_ne]; omega
    rw [zb, if_neg (by decide), Int.natAbs_natCast, Nat.lt_add_one_iff, Nat.le_log2 z]
    omega
theorem lt_bits {q : Int} (h : 0 < q) : q < 2 ^ Builtin.Int.intBits q := by
  apply Int.not_le.mp
  intro c
  have := (bits_lt (Int.le_of_lt h)).mp c
  omega
theorem bits_le {q : Int} {k : Nat} (h : 0 < q) (hk : Sz k q) : Builtin.Int.intBits q ≤ k + 1 := by
  apply Nat.not_lt.mp
  intro c
  have h1 := (bits_lt (Int.le_of_lt h)).mpr c
  have h2 := hk.2
  have h3 := two_succ k
  have := two_pos k
  omega
def bls (x : M.Sd) : Nat := Builtin.Int.intBits x.L.2 + Builtin.Int.intBits x.H.2
theorem sum_cast : ∀ ns : List Nat, (ns.map (fun n : Nat => (n : Int))).sum = ((ns.sum : Nat) : Int)
  | [] => rfl
  | n :: ns => by
    rw [List.map_cons, List.sum_cons, List.sum_cons, sum_cast ns]
    omega
theorem sum_nat (ns : List Nat) (S : Sto) : oSum [.pu (.list (dI (ns.map (fun n : Nat => (n : Int)))))] S = some (.pu (.int ((ns.sum : Nat) : Int))) := by
  show (intsOf (dI (ns.map (fun n : Nat => (n : Int))))).map (fun ns => W.pu (.int ns.sum)) = _
  rw [intsOf_map]
  show some (W.pu (.int (ns.map (fun n : Nat => (n : Int))).sum)) = _
  rw [sum_cast]
/-- the least one, or none -/
def LbOk (P : Int → Int → Prop) : Option Nat → Prop
  | some k => (∃ m, P m (2 ^ k)) ∧ ∀ i, i < k → ∀ m, ¬ P m (2 ^ i)
  | none => ∀ k m, ¬ P m (2 ^ k)
theorem LbOk.uniq {P : Int → Int → Prop} : ∀ {o o' : Option Nat}, LbOk P o → LbOk P o' → o = o'
  | none, none, _, _ => rfl
  | none, some k, h, ⟨⟨m, hm⟩, _⟩ => absurd hm (h k m)
  | some k, none, ⟨⟨m, hm⟩, _⟩, h => absurd hm (h k m)
  | some k, some k', ⟨⟨m, hm⟩, h⟩, ⟨⟨m', hm'⟩, h'⟩ => by
    rcases Nat.lt_trichotomy k k' with c | c | c
    · exact absurd hm (h' k c m)
    · rw [c]
    · exact absurd hm' (h k' c m')
def oN : Option Nat → PyData
  | some k => .int k
  | none => .none
theorem sum_split (f g : M.Sd → Nat) : ∀ xs : List M.Sd, (xs.map fun x => f x + g x).sum = M.sumF f xs + M.sumF g xs
  | [] => rfl
  | x :: xs => by
    have := sum_split f g xs
    unfold M.sumF at *
    rw [List.map_cons, List.map_cons, List.map_cons, List.sum_cons, List.sum_cons, List.sum_cons, this]
    omega
section
variable {N m : Nat} {a b d s t : Int} {v1 v2 : PyData}
def eLbs (v1 v2 : PyData) (j : Nat) (K : Int) (x4 x5 x6 x7 : Option W) : En := [some (.pu v1), some (.pu v2), some (.mu j), some (.pu (.int K)), x4, x5, x6, x7]
theorem lb_loop {xs : List M.Sd} {j : Nat} {K : Nat} (hK : K ≤ 4000) (ok : ∀ e B, e ≤ 10000 → Sz e B → ∀ x ∈ xs, SdOk x B) (ne : xs ≠ []) (few : xs.length ≤ 2) (oks : ∀ x ∈ xs, x.Ok) {S : Sto} (jl : S.length ≤ j) {x5 x6 x7 : Option W} : ∀ (n i : Nat) (U : Sto) (x4 : Option W), i + n = K + 1 → Ext S U → U[j]? = some (false, xs.map sdD) → (∀ l, l < i → ∀ mm, ¬ M.SF xs mm (2 ^ l)) →
    ∃ U' x4', Ext S U' ∧ ((∃ k : Nat, k ≤ K ∧ (∃ mm, M.SF xs mm (2 ^ k)) ∧ (∀ l, l < k → ∀ mm, ¬ M.SF xs mm (2 ^ l)) ∧ loopR (tgName 4) (h_least_bare_shift_1 N) (dI (rngI i ((K : Int) + 1))) (eLbs v1 v2 j K x4 x5 x6 x7) U = some (.rt (.pu (.int k)), eLbs v1 v2 j K x4' x5 x6 x7, U')) ∨
      ((∀ l, l ≤ K → ∀ mm, ¬ M.SF xs mm (2 ^ l)) ∧ loopR (tgName 4) (h_least_bare_shift_1 N) (dI (rngI i ((K : Int) + 1))) (eLbs v1 v2 j K x4 x5 x6 x7) U = some (.nx, eLbs v1 v2 j K x4' x5 x6 x7, U')))
  | 0, i, U, x4, hi, ex, hU, no => by
    have e : dI (rngI i ((K : Int) + 1)) = [] := by
      rw [show ((i : Nat) : Int) = (K : Int) + 1 by omega]
      unfold dI rngI
      rw [show ((K : Int) + 1 - ((K : Int) + 1)).toNat = 0 by omega]
      rfl
    exact ⟨U, x4, ex, .inr ⟨fun l hl => no l (by omega), by rw [e]; rfl⟩⟩
  | n + 1, i, U, x4, hi, ex, hU, no => by
    have e : dI (rngI i ((K : Int) + 1)) = .int i :: dI (rngI ((i : Int) + 1) ((K : Int) + 1)) := by
      rw [rngI_at (show (i : Int) ≤ i by omega) (show (i : Int) < (K : Int) + 1 by omega)]
      unfold dI rngI
      rw [show ((i : Int) - i).toNat = 0 by omega]
      rfl
    have tr := ts_run (N := N) hU (ok i _ (by omega) (pow_sz i)) ne (by omega)
    have top := topO_ok (B := 2 ^ i) ne oks
    have ex2 : Ext S (U.set j (false, xs.map sdD) ++ [(true, dI (xs.map (·.least (2 ^ i)))), (true, dI (xs.map (·.great (2 ^ i))))]) := Ext.app (Ext.set ex jl _) _
    have jU : j < U.length := (List.getElem?_eq_some_iff.mp hU).1
    have g2 : (U.set j (false, xs.map sdD) ++ [(true, dI (xs.map (·.least (2 ^ i)))), (true, dI (xs.map (·.great (2 ^ i))))])[j]? = some (false, xs.map sdD) := by
      rw [List.getElem?_append_left (by rw [List.length_set]; exact jU), List.getElem?_set_self jU]
    have sh : ∀ V : Sto, (sShl (sC (.int 1)) (sVar 4)).run (eLbs v1 v2 j K (some (.pu (.int i))) x5 x6 x7) V = some (.pu (.int (2 ^ i)), V) := fun V => shl_run rfl (by omega)
    generalize U.set j (false, xs.map sdD) ++ [(true, dI (xs.map (·.least (2 ^ i)))), (true, dI (xs.map (·.great (2 ^ i))))] = U2 at *
    rw [e]
    unfold eLbs at *
    cases ho : topO xs (2 ^ i) with
    | some p =>
      rw [ho] at top tr
      refine ⟨U2, some (.pu (.int i)), ex2, .inl ⟨i, by omega, ⟨p.1, (top.2 _).mpr ⟨Int.le_refl _, top.1⟩⟩, no, ?_⟩⟩
      refine loop_rt (en1 := [some (.pu v1), some (.pu v2), some (.mu j), some (.pu (.int K)), some (.pu (.int i)), x5, x6, x7]) rfl ?_
      have nn : Z.isNon (.pu (oP (some p))) = false := rfl
      unfold h_least_bare_shift_1
      generalize (sShl (sC (.int 1)) (sVar 4)) = SH at *
      generalize oP (some p) = OP at *
      simp [sh, tr, nn]
    | none =>
      rw [ho] at top tr
      obtain ⟨U', x4', ex', res⟩ := lb_loop hK ok ne few oks jl (x5 := x5) (x6 := x6) (x7 := x7) n (i + 1) U2 (some (.pu (.int i))) (by omega) ex2 g2 (fun l hl mm => by
        by_cases c : l = i
        · rw [c]; exact top mm
        · exact no l (by omega) mm)
      have hb : (h_least_bare_shift_1 N).run [some (.pu v1), some (.pu v2), some (.mu j), some (.pu (.int K)), some (.pu (.int i)), x5, x6, x7] U = some (.nx, [some (.pu v1), some (.pu v2), some (.mu j), some (.pu (.int K)), some (.pu (.int i)), x5, x6, x7], U2) := by
        have nn : Z.isNon (.pu (oP none)) = true := rfl
        unfold h_least_bare_shift_1
        generalize (sShl (sC (.int 1)) (sVar 4)) = SH at *
        generalize oP none = OP at *
        simp [sh, tr, nn]
      have ci : ((i + 1 : Nat) : Int) = (i : Int) + 1 := by omega
      rw [ci] at res
      refine ⟨U', x4', ex', ?_⟩
      rcases res with ⟨k, h0, h1, h2, h3⟩ | ⟨h1, h3⟩
      · exact .inl ⟨k, h0, h1, h2, (loop_nx rfl hb).trans h3⟩
      · exact .inr ⟨h1, (loop_nx rfl hb).trans h3⟩
theorem least_bare_run (h : CQ m v1 v2 a b d s t) (sb : Sz m b) (st : s < t) (hm : m ≤ 50) (m1 : 1 ≤ m) (hN : 2 * m + 4 ≤ N) : ∃ o, (LbOk (Srv a b d s t) o ∧ ∀ k, o = some k → k ≤ 4 * (m + 1)) ∧ FPu (f_least_bare_shift N) [.pu v1, .pu v2] (oN o) := by
  have key : ∀ S, ∃ o, (LbOk (Srv a b d s t) o ∧ ∀ k, o = some k → k ≤ 4 * (m + 1)) ∧ ∃ S', Ext S S' ∧ (f_least_bare_shift N).run [.pu v1, .pu v2] S = some (.pu (oN o), S') := fun S => by
    have e1 := need_run (N := N) h.str st S
    obtain ⟨bl, b1, e2⟩ := start_run (N := N) h hm S
    cases bl with
    | false =>
      refine ⟨none, ⟨fun k mm c => ?_, fun k e => by cases e⟩, S, .refl _, ?_⟩
      · have := b1.mpr (srv_start (two_pos k) c)
        cases this
      · rw [q_least_bare_shift]
        unfold b_least_bare_shift
        refine fseq (by conv => lhs; simp [e1]) ?_
        refine fif_t (w := .pu (.bool true)) (S1 := S) (by simp [e2]) rfl ?_
        show _ = some (W.pu .none, S)
        exact frt (by conv => lhs; simp)
    | true =>
      have str := b1.mp rfl
      obtain ⟨xs, S', j, sd, x1, jl, g, e3⟩ := sides_run (N := N) h sb st hm m1 hN S
      have jS : j < S'.length := (List.getElem?_eq_some_iff.mp g).1
      have it : (i_least_bare_shift_1 N).run [some (.pu v1), some (.pu v2), some (.mu j), none, none, none, none, none] S' = some (xs.map sdD, S'.set j (false, xs.map sdD)) := by
        have e : fz (.mu j) S' = some (.list (xs.map sdD), S'.set j (false, xs.map sdD)) := by
          show (match S'[j]? with
            | some (true, ds) => some (PyData.list ds, S'.set j (false, ds))
            | some (false, ds) => some (.list ds, S')
            | none => none) = _
          rw [g]
        show (Option.bind (fz (.mu j) S') _) = _
        rw [e]
        rfl
      have lc := lc_all (own := [5, 6, 7]) (t := tgSeq 3 (tgCons (tgName 5) (tgCons (tgName 6) (tgCons (tgName 7) tgNil)))) (f := e_least_bare_shift_1 N) (it := i_least_bare_shift_1 N) (en := [some (.pu v1), some (.pu v2), some (.mu j), none, none, none, none, none]) (S := S') (S' := S'.set j (false, xs.map sdD)) (xs := xs) sdD (fun x => .int (bls x : Nat)) it (by have := sd.few; omega) fun x hx => ⟨_, rfl, by
        have i1 : ∀ (p : Int × Int) U, oIx (.pu (prD p)) (.pu (.int 1)) U = some (.pu (.int p.2)) := fun _ _ => rfl
        have k1 := i1 x.L
        have k2 := i1 x.H
        have eb : ((bls x : Nat) : Int) = (Builtin.Int.intBits x.L.2 : Nat) + (Builtin.Int.intBits x.H.2 : Nat) := by unfold bls; omega
        rw [eb]
        unfold e_least_bare_shift_1
        generalize prD x.L = PL at *
        generalize prD x.H = PH at *
        simp [wipeE, k1, k2, look]⟩
      have em : (xs.map fun x => PyData.int (bls x : Nat)) = dI ((xs.map bls).map (fun n : Nat => (n : Int))) := by unfold dI; rw [List.map_map, List.map_map]; rfl
      rw [em] at lc
      have sm := fun U => sum_nat (xs.map bls) U
      have bK : (xs.map bls).sum ≤ 2 * (2 * (m + 1)) := by
        have one : ∀ x ∈ xs, bls x ≤ 2 * (m + 1) := fun x hx => by
          obtain ⟨⟨z1, z2⟩, _⟩ := sd.sz x hx
          have o := sd.ok x hx
          have := bits_le o.l z1
          have := bits_le o.h z2
          unfold bls
          omega
        have fw := sd.few
        match xs, one, fw with
        | [], _, _ => simp
        | [x], one, _ =>
          have := one x List.mem_cons_self
          simp
          omega
        | [x, y], one, _ =>
          have := one x List.mem_cons_self
          have := one y (List.mem_cons_of_mem _ List.mem_cons_self)
          simp
          omega
        | _ :: _ :: _ :: _, _, fw => simp at fw
      have spl : (xs.map bls).sum = M.sumF (fun x => Builtin.Int.intBits x.L.2) xs + M.sumF (fun x => Builtin.Int.intBits x.H.2) xs := sum_split _ _ xs
      generalize (xs.map bls).sum = K at *
      obtain ⟨U', x4', ex', res⟩ := lb_loop (N := N) (v1 := v1) (v2 := v2) (xs := xs) (j := j) (K := K) (by omega) (fun e B he sB => sd_ok sd hm sB he) sd.ne sd.few sd.ok (S := S) jl (x5 := none) (x6 := none) (x7 := none) (K + 1) 0 (S'.set j (false, xs.map sdD)) none (by omega) (Ext.set x1 jl _) (List.getElem?_set_self jS) (fun l hl => by omega)
      have conv : ∀ mm k, M.SF xs mm (2 ^ k) ↔ Srv a b d s t mm (2 ^ k) := fun mm k => (sd.srv mm _ (two_pos k)).trans (srv_iff (two_pos k) str).symm
      have rg : ∀ U, (r_least_bare_shift_1 N).run (eLbs v1 v2 j K none none none none) U = some (dI (rngI 0 ((K : Int) + 1)), U) := fun U => by
        unfold r_least_bare_shift_1 eLbs
        exact rng_run (S1 := U) (by simp) (by simp) (smallI_of (by omega) (by omega)) (smallI_of (by omega) (by omega))
      have pre : ∀ (B : SS) r, ((B.run (eLbs v1 v2 j K none none none none) (S'.set j (false, xs.map sdD))).bind fin = r) → ((gSeq (gExp (sCall (f_u_need_two N) (aCons (sVar 1) aNil))) (gSeq (gIf (sNot (sCall (f_u_starts_at_nought N) (aCons (sVar 0) (aCons (sVar 1) aNil)))) (gRet (sC .none)) gNop) (gSeq (gSet 2 (sCall (f_u_bare_sides N) (aCons (sVar 0) (aCons (sVar 1) aNil)))) (gSeq (gSet 3 (sB oSum (aCons (sLc false [5, 6, 7] (i_least_bare_shift_1 N) (tgSeq 3 (tgCons (tgName 5) (tgCons (tgName 6) (tgCons (tgName 7) tgNil)))) sYes (e_least_bare_shift_1 N)) aNil))) B)))).run [some (.pu v1), some (.pu v2), none, none, none, none, none, none] S).bind fin = r := fun B r hk => by
        refine fseq (en1 := [some (.pu v1), some (.pu v2), none, none, none, none, none, none]) (S1 := S) (by conv => lhs; simp [e1]) ?_
        refine fif_f (w := .pu (.bool false)) (S1 := S) (by simp [e2]) rfl (fnop ?_)
        refine fset (w := .mu j) (S1 := S') (by simp [e3]) rfl ?_
        generalize (sLc false [5, 6, 7] (i_least_bare_shift_1 N) (tgSeq 3 (tgCons (tgName 5) (tgCons (tgName 6) (tgCons (tgName 7) tgNil)))) sYes (e_least_bare_shift_1 N)) = C at *
        generalize S'.set j (false, xs.map sdD) = U at *
        refine fset (w := .pu (.int K)) (S1 := U) ?_ rfl hk
        have lc' : C.run ([some (.pu v1), some (.pu v2), none, none, none, none, none, none].set 2 (some (.mu j))) S' = _ := lc
        generalize dI ((xs.map bls).map (fun n : Nat => (n : Int))) = DL at *
        simp at lc'
        simp [lc', sm]
      rcases res with ⟨k, h0, ⟨mm, h1⟩, h2, h3⟩ | ⟨h1, h3⟩
      · refine ⟨some k, ⟨⟨⟨mm, (conv mm k).mp h1⟩, fun i hi mm' c => h2 i hi mm' ((conv mm' i).mpr c)⟩, fun k' e => by cases e; omega⟩, U', ex', ?_⟩
        rw [q_least_bare_shift]
        unfold b_least_bare_shift
        refine pre _ _ ?_
        exact frt (by rw [r_for, rg]; exact h3)
      · refine ⟨none, ⟨fun k mm c => ?_, fun k e => by cases e⟩, U', ex', ?_⟩
        · -- no power at all: the first one would be short
          have : ∀ n k, k ≤ n → ∀ mm, ¬ M.SF xs mm (2 ^ k) := by
            intro n
            induction n with
            | zero => intro k hk mm c; exact h1 k (by omega) mm c
            | succ n ih =>
              intro k hk mm c
              by_cases c2 : k ≤ K
              · exact h1 k c2 mm c
              · have := M.first_shift (bl := Builtin.Int.intBits) sd.ok (fun q hq => lt_bits hq) c (fun i hi mm' => ih i (by omega) mm')
                omega
          exact this k k (Nat.le_refl _) mm ((conv mm k).mpr c)
        · rw [q_least_bare_shift]
          unfold b_least_bare_shift
          refine pre _ _ ?_
          refine ffor (rg _) h3 ?_
          exact fret rfl
  obtain ⟨o, ho, _⟩ := key []
  refine ⟨o, ho, fun S => ?_⟩
  obtain ⟨o', ho', r⟩ := key S
  rw [LbOk.uniq ho.1 ho'.1]
  exact r
end
end My


namespace My
open PySem L2 PyProof.Rows Z
theorem points_run {a b d s t : Int} {N : Nat} {S : Sto} (h : Small 200 a b d) (s0 : -1000 ≤ s) (st : s ≤ t) (t1 : t ≤ 1000) : (f_u_law_points N).run [.pu (lnD a b d), .pu (stD s t)] S = some (.pu (.list ((rngI s (t + 1)).map fun n => .tuple [.int n, .int (M.fl a b d n)])), S) := by
  have hb : (f_u_law_points N).run [.pu (lnD a b d), .pu (stD s t)] S = ((b_u_law_points N).run [some (.pu (lnD a b d)), some (.pu (stD s t)), none] S).bind fin := rfl
  rw [hb]
  unfold b_u_law_points
  have hi : (i_u_law_points_1 N).run [some (.pu (lnD a b d)), some (.pu (stD s t)), none] S = some (dI (rngI s (t + 1)), S) := by
    unfold i_u_law_points_1
    exact rng_run (S1 := S) rfl rfl (smallI_of (by omega) (by omega)) (smallI_of (by omega) (by omega))
  rw [r_ret, lc_all (t := tgName 2) (f := e_u_law_points_1 N) (own := [2]) PyData.int (fun n => .tuple [.int n, .int (M.fl a b d n)]) hi (by rw [rngI_len]; omega) fun n hn => by
    obtain ⟨n0, n1⟩ := mem_rngI.mp hn
    refine ⟨_, rfl, ?_⟩
    unfold e_u_law_points_1
    rw [worth_eq]
    have hl := worth_sm (S := S) h h.lin (n := n) (by omega) (by omega)
    simp [hl, wipeE]]
  rfl
end My

namespace M
/-! ### how many values are met -/
theorem mono_up {f : Int → Int} {s t : Int} (h : ∀ n, s ≤ n → n < t → f n ≤ f (n + 1)) : ∀ (j : Nat) (n : Int), s ≤ n → n + j ≤ t → f n ≤ f (n + j)
  | 0, n, _, _ => by simp
  | j + 1, n, n0, n1 => by
    have h1 := mono_up h j n n0 (by omega)
    have h2 := h (n + j) (by omega) (by omega)
    rw [show n + ((j + 1 : Nat) : Int) = n + j + 1 by omega]
    omega
theorem mono_le {f : Int → Int} {s t : Int} (h : ∀ n, s ≤ n → n < t → f n ≤ f (n + 1)) {m n : Int} (m0 : s ≤ m) (mn : m ≤ n) (n1 : n ≤ t) : f m ≤ f n := by
  have := mono_up h (n - m).toNat m m0 (by omega)
  rw [show m + (((n - m).toNat : Nat) : Int) = n by omega] at this
  exact this
theorem hit_up {f : Int → Int} {s t : Int} (h : ∀ n, s ≤ n → n < t → f n ≤ f (n + 1) ∧ f (n + 1) ≤ f n + 1) {v : Int} : ∀ (j : Nat) (n : Int), s ≤ n → n + j ≤ t → f n ≤ v → v ≤ f (n + j) → ∃ m, n ≤ m ∧ m ≤ n + j ∧ f m = v
  | 0, n, _, _, h1, h2 => ⟨n, by omega, by omega, by simp at h2; omega⟩
  | j + 1, n, n0, n1, h1, h2 => by
    by_cases e : f n = v
    · exact ⟨n, by omega, by omega, e⟩
    · have h3 := h n n0 (by omega)
      have h4 : f n + 1 ≤ v := by omega
      obtain ⟨m, m0, m1, m2⟩ := hit_up (f := f) (v := v) h j (n + 1) (by omega) (by omega) (by omega) (by rw [show n + 1 + (j : Int) = n + ((j + 1 : Nat) : Int) by omega]; exact h2)
      exact ⟨m, by omega, by omega, m2⟩
theorem hit {f : Int → Int} {s t v : Int} (h : ∀ n, s ≤ n → n < t → f n ≤ f (n + 1) ∧ f (n + 1) ≤ f n + 1) (st : s ≤ t) (v0 : f s ≤ v) (v1 : v ≤ f t) : ∃ m, s ≤ m ∧ m ≤ t ∧ f m = v := by
  obtain ⟨m, m0, m1, m2⟩ := hit_up (v := v) h (t - s).toNat s (by omega) (by omega) v0 (by rw [show s + (((t - s).toNat : Nat) : Int) = t by omega]; exact v1)
  exact ⟨m, m0, by omega, m2⟩
theorem inj_of {f : Int → Int} {s t : Int} (h : ∀ n, s ≤ n → n < t → f n + 1 ≤ f (n + 1)) {m n : Int} (m0 : s ≤ m) (mn : m < n) (n1 : n ≤ t) : f m < f n := by
  have h1 := h m m0 (by omega)
  have h2 := mono_le (f := f) (s := s) (t := t) (fun n a b => by have := h n a b; omega) (show s ≤ m + 1 by omega) (show m + 1 ≤ n by omega) n1
  omega
variable {a b d : Int}
theorem fl_step (hd : 0 < d) (n : Int) (k : Int) (h : a ≤ k * d) : fl a b d (n + 1) ≤ fl a b d n + k := by
  unfold fl
  have : (a * n + b + d * k) / d = (a * n + b) / d + k := Int.add_mul_ediv_left _ _ (by omega)
  rw [← this]
  apply Int.ediv_le_ediv hd
  rw [Int.mul_add, Int.mul_comm d k]
  omega
theorem fl_step' (hd : 0 < d) (n : Int) (k : Int) (h : k * d ≤ a) : fl a b d n + k ≤ fl a b d (n + 1) := by
  unfold fl
  have : (a * n + b + d * k) / d = (a * n + b) / d + k := Int.add_mul_ediv_left _ _ (by omega)
  rw [← this]
  apply Int.ediv_le_ediv hd
  rw [Int.mul_add, Int.mul_comm d k]
  omega
/-- what is met: the least, the greatest, and how many -/
theorem met_ends (hd : 0 < d) {s t : Int} (n : Int) (n0 : s ≤ n) (n1 : n ≤ t) : (0 ≤ a → fl a b d s ≤ fl a b d n ∧ fl a b d n ≤ fl a b d t) ∧ (a ≤ 0 → fl a b d t ≤ fl a b d n ∧ fl a b d n ≤ fl a b d s) := by
  constructor
  · intro ha
    have h : ∀ m, s ≤ m → m < t → fl a b d m ≤ fl a b d (m + 1) := fun m _ _ => by have := fl_step' (a := a) (b := b) (d := d) hd m 0 (by omega); omega
    exact ⟨mono_le h (Int.le_refl _) n0 n1, mono_le h n0 n1 (Int.le_refl _)⟩
  · intro ha
    have h : ∀ m, s ≤ m → m < t → -fl a b d m ≤ -fl a b d (m + 1) := fun m _ _ => by have := fl_step (a := a) (b := b) (d := d) hd m 0 (by omega); omega
    have h1 : -fl a b d s ≤ -fl a b d n := mono_le (f := fun n => -fl a b d n) h (Int.le_refl _) n0 n1
    have h2 : -fl a b d n ≤ -fl a b d t := mono_le (f := fun n => -fl a b d n) h n0 n1 (Int.le_refl _)
    omega
theorem met_all (hd : 0 < d) (h0 : -d < a) (h1 : a < d) {s t v : Int} (st : s ≤ t) : (0 ≤ a → fl a b d s ≤ v → v ≤ fl a b d t → ∃ m, s ≤ m ∧ m ≤ t ∧ fl a b d m = v) ∧ (a ≤ 0 → fl a b d t ≤ v → v ≤ fl a b d s → ∃ m, s ≤ m ∧ m ≤ t ∧ fl a b d m = v) := by
  constructor
  · intro ha v0 v1
    exact hit (fun n _ _ => by have h2 := fl_step (a := a) (b := b) (d := d) hd n 1 (by omega); have h3 := fl_step' (a := a) (b := b) (d := d) hd n 0 (by omega); omega) st v0 v1
  · intro ha v0 v1
    obtain ⟨m, m0, m1, m2⟩ := hit (f := fun n => -fl a b d n) (v := -v) (fun n _ _ => by have h2 := fl_step (a := a) (b := b) (d := d) hd n 0 (by omega); have h3 := fl_step' (a := a) (b := b) (d := d) hd n (-1) (by omega); omega) st (by show -fl a b d s ≤ -v; omega) (by show -v ≤ -fl a b d t; omega)
    exact ⟨m, m0, m1, by have : -fl a b d m = -v := m2; omega⟩
theorem met_apart (hd : 0 < d) (h : d ≤ a ∨ a ≤ -d) {m n : Int} (mn : m < n) : fl a b d m ≠ fl a b d n := by
  rcases h with h | h
  · have := inj_of (f := fl a b d) (s := m) (t := n) (fun n _ _ => fl_step' (a := a) (b := b) (d := d) hd n 1 (by omega)) (Int.le_refl _) mn (Int.le_refl _)
    omega
  · have : -fl a b d m < -fl a b d n := inj_of (f := fun n => -fl a b d n) (s := m) (t := n) (fun n _ _ => by have := fl_step (a := a) (b := b) (d := d) hd n (-1) (by omega); omega) (Int.le_refl _) mn (Int.le_refl _)
    omega
/-- lists without doubles -/
theorem nd_le : ∀ {xs ys : List Int}, xs.Nodup → (∀ x ∈ xs, x ∈ ys) → xs.length ≤ ys.length
  | [], _, _, _ => Nat.zero_le _
  | x :: xs, ys, h, k => by
    have hx := k x List.mem_cons_self
    rw [List.nodup_cons] at h
    have := nd_le (xs := xs) (ys := ys.erase x) h.2 fun y hy => (List.mem_erase_of_ne (fun e => h.1 (by rw [← e]; exact hy))).mpr (k y (List.mem_cons_of_mem _ hy))
    rw [List.length_erase_of_mem hx] at this
    have := List.length_pos_of_mem hx
    rw [List.length_cons]
    omega
theorem nd_eq {xs ys : List Int} (h : xs.Nodup) (k : ys.Nodup) (e : ∀ x, x ∈ xs ↔ x ∈ ys) : xs.length = ys.length :=
  Nat.le_antisymm (nd_le h fun x hx => (e x).mp hx) (nd_le k fun x hx => (e x).mpr hx)
end M

namespace My
open PySem L2 PyProof.Rows Z
/-! ### the law's own 2, so many times -/
theorem two_loop {N k : Nat} (hk : k ≤ 4000) {S : Sto} {x0 : Option W} : ∀ (n i : Nat) (x2 : Option W), i + n = k → ∃ y2, loopR (tgName 2) (h_u_law_two_1 N) (dI (rngI i k)) [x0, some (.pu (.int (2 ^ i))), x2] S = some (.nx, [x0, some (.pu (.int (2 ^ k))), y2], S)
  | 0, i, x2, hi => by
    have : i = k := by omega
    subst this
    refine ⟨x2, ?_⟩
    have e : dI (rngI (i : Int) i) = [] := by
      unfold dI rngI
      rw [show ((i : Int) - i).toNat = 0 by omega]
      rfl
    rw [e]
    rfl
  | n + 1, i, x2, hi => by
    obtain ⟨y2, r⟩ := two_loop hk (S := S) (x0 := x0) n (i + 1) (some (.pu (.int i))) (by omega)
    refine ⟨y2, ?_⟩
    have e : dI (rngI i (k : Int)) = .int i :: dI (rngI ((i : Int) + 1) k) := by
      rw [rngI_at (show (i : Int) ≤ i by omega) (show (i : Int) < (k : Int) by omega)]
      unfold dI rngI
      rw [show ((i : Int) - i).toNat = 0 by omega]
      rfl
    have mo : mulOk (2 ^ i) 2 = true := mulOk_sz (pow_sz i) (pow_sz 1) (by omega)
    have e2 : (2 : Int) ^ (i + 1) = 2 ^ i * 2 := Int.pow_succ ..
    rw [e]
    refine (loop_nx (en1 := [x0, some (.pu (.int (2 ^ i))), some (.pu (.int i))]) (en2 := [x0, some (.pu (.int (2 ^ (i + 1)))), some (.pu (.int i))]) (S2 := S) rfl ?_).trans ?_
    · rw [e2]
      unfold h_u_law_two_1
      simp [mo]
    · rw [show ((i + 1 : Nat) : Int) = (i : Int) + 1 by omega] at r
      exact r
theorem two_run {N k : Nat} (hk : k ≤ 4000) (S : Sto) : (f_u_law_two N).run [.pu (.int k)] S = some (.pu (.int (2 ^ k)), S) := by
  obtain ⟨y2, lp⟩ := two_loop (N := N) hk (S := S) (x0 := some (.pu (.int k))) k 0 none (by omega)
  rw [q_u_law_two]
  unfold b_u_law_two
  refine fset (w := .pu (.int 1)) (S1 := S) rfl rfl ?_
  have rg : (r_u_law_two_1 N).run [some (.pu (.int k)), some (.pu (.int 1)), none] S = some (dI (rngI 0 k), S) := by
    unfold r_u_law_two_1
    exact rng_run (S1 := S) (by simp) (by simp) (smallI_of (by omega) (by omega)) (smallI_of (by omega) (by omega))
  refine ffor rg lp ?_
  exact fret rfl
/-! ### the law's search for multipliers -/
def ptD (f : Int → Int) (n : Int) : PyData := .tuple [.int n, .int (f n)]
def srvB (a b d s t B m : Int) : Bool := (rngI s (t + 1)).all fun n => m * n / B == M.fl a b d n
theorem srvB_iff {a b d s t B m : Int} (hB : 0 < B) : srvB a b d s t B m = true ↔ Srv a b d s t m B := by
  unfold srvB Srv
  rw [List.all_eq_true]
  have key : ∀ n v, m * n / B = v ↔ B * v ≤ m * n ∧ m * n < B * (v + 1) := fun n v => by
    have h1 : v ≤ m * n / B ↔ v * B ≤ m * n := Int.le_ediv_iff_mul_le hB
    have h2 : m * n / B < v + 1 ↔ m * n < (v + 1) * B := Int.ediv_lt_iff_lt_mul hB
    rw [Int.mul_comm v B] at h1
    rw [Int.mul_comm (v + 1)] at h2
    omega
  constructor
  · intro h n n0 n1
    exact (key n _).mp (beq_iff_eq.mp (h n (mem_rngI.mpr ⟨n0, by omega⟩)))
  · intro h n hn
    have := mem_rngI.mp hn
    exact beq_iff_eq.mpr ((key n _).mpr (h n this.1 (by omega)))
theorem good_pt (f : Int → Int) (n : Int) : PyData.canLay0 (ptD f n) = true ∧ PyData.depth (ptD f n) ≤ 60 := ⟨rfl, by simp [ptD, PyData.depth, PyData.depthAll]⟩
def Good (d : PyData) : Prop := PyData.canLay0 d = true ∧ PyData.depth d ≤ 60
theorem shp_list : ∀ {ds : List PyData}, (∀ d ∈ ds, Good d) → PyData.canLayAll0 ds = true ∧ PyData.depthAll ds ≤ 60
  | [], _ => ⟨rfl, Nat.zero_le _⟩
  | d :: ds, h => by
    obtain ⟨h1, h2⟩ := h d List.mem_cons_self
    obtain ⟨h3, h4⟩ := shp_list (ds := ds) fun x hx => h x (List.mem_cons_of_mem _ hx)
    exact ⟨by show (_ && _) = true; rw [h1, h3]; rfl, by show max _ _ ≤ 60; omega⟩
theorem shaped_list {ds : List PyData} (h : ∀ d ∈ ds, Good d) : SeqAt.shaped (.list ds) = true := by
  obtain ⟨h1, h2⟩ := shp_list h
  show (PyData.canLayAll0 ds && decide (PyData.depthAll ds + 1 ≤ 64)) = true
  rw [h1, decide_eq_true (by omega)]
  rfl
theorem eqv_nil (ds : List PyData) : PyData.eqv (.list ds) (.list []) = ds.isEmpty := by
  cases ds <;> rfl
theorem eqvAll_nil (ds : List PyData) : PyData.eqvAll ds [] = ds.isEmpty := by
  cases ds <;> rfl
theorem good_int (i : Int) : Good (.int i) := ⟨rfl, Nat.zero_le _⟩
theorem eq_nil {w : W} {ds : List PyData} {neg : Bool} {S : Sto} (hw : look w S = some (.list ds)) (h : ∀ d ∈ ds, Good d) : oEq neg w (.pu (.list [])) S = some (.pu (.bool (neg != ds.isEmpty))) := by
  have h1 := shaped_list h
  have h2 : SeqAt.shaped (.list []) = true := shaped_list fun d hd => by cases hd
  have l2 : look (.pu (.list [])) S = some (.list []) := rfl
  unfold oEq
  simp [hw, l2, h1, h2, eqv_nil, -List.isEmpty_iff, -List.isEmpty_eq_false_iff]
section
variable {N : Nat} {a b d s t : Int}
def eLw (V1 V2 : PyData) (B : Int) (P : List PyData) (c : Nat) (x5 x6 : Option W) : En := [some (.pu V1), some (.pu V2), some (.pu (.int B)), some (.pu (.list P)), some (.mu c), x5, x6]
theorem lw_body {B fac : Int} (hB : 0 < B) (hB1 : B ≤ 64) (s0 : -60 ≤ s) (st : s ≤ t) (t1 : t ≤ 60) {V1 V2 : PyData} {S : Sto} {acc : List PyData} (la : acc.length ≤ 50000) {x6 : Option W} : (h_u_law_bare_1 N).run (eLw V1 V2 B ((rngI s (t + 1)).map (ptD (M.fl a b d))) S.length (some (.pu (.int fac))) x6) (S ++ [(true, acc)]) = some (.nx, eLw V1 V2 B ((rngI s (t + 1)).map (ptD (M.fl a b d))) S.length (some (.pu (.int fac))) x6, S ++ [(true, if srvB a b d s t B fac then acc ++ [.int fac] else acc)]) := by
  have gA : (S ++ [((true : Bool), acc)])[S.length]? = some (true, acc) := by rw [List.getElem?_append_right (Nat.le_refl _), Nat.sub_self]; rfl
  have sA : ∀ r : Bool × List PyData, (S ++ [((true : Bool), acc)]).set S.length r = S ++ [r] := fun r => by rw [List.set_append_right _ _ (Nat.le_refl _), Nat.sub_self]; rfl
  generalize hU : S ++ [((true : Bool), acc)] = U at *
  have dB : dvs B := dvs_of hB (by omega)
  have i0 : ∀ n, oIx (.pu (ptD (M.fl a b d) n)) (.pu (.int 0)) U = some (.pu (.int n)) := fun _ => rfl
  have i1 : ∀ n, oIx (.pu (ptD (M.fl a b d) n)) (.pu (.int 1)) U = some (.pu (.int (M.fl a b d n))) := fun _ => rfl
  have lc := lc_run (own := [6]) (t := tgName 6) (c := c_u_law_bare_1 N) (f := e_u_law_bare_1 N) (it := i_u_law_bare_1 N) (en := eLw V1 V2 B ((rngI s (t + 1)).map (ptD (M.fl a b d))) S.length (some (.pu (.int fac))) x6) (S := U) (S' := U) (xs := rngI s (t + 1)) (ptD (M.fl a b d)) (fun n => !(fac * n / B == M.fl a b d n)) (ptD (M.fl a b d)) (by
    unfold i_u_law_bare_1 eLw
    generalize (rngI s (t + 1)).map (ptD (M.fl a b d)) = P
    simp) (by rw [rngI_len]; omega) fun n hn => by
      have := mem_rngI.mp hn
      have mo : mulOk fac n = true := mulOk_r (by omega) (by omega)
      have j0 := i0 n
      have j1 := i1 n
      refine ⟨eLw V1 V2 B ((rngI s (t + 1)).map (ptD (M.fl a b d))) S.length (some (.pu (.int fac))) (some (.pu (ptD (M.fl a b d) n))), rfl, ?_, fun _ => ?_⟩
      · unfold c_u_law_bare_1 eLw
        generalize (rngI s (t + 1)).map (ptD (M.fl a b d)) = P
        generalize ptD (M.fl a b d) n = PT at *
        simp [mo, j0, j1, divOk_of dB, Z.eq_int]
      · unfold e_u_law_bare_1 eLw
        generalize (rngI s (t + 1)).map (ptD (M.fl a b d)) = P
        simp
  have en := eq_nil (w := .pu (.list (((rngI s (t + 1)).filter fun n => !(fac * n / B == M.fl a b d n)).map (ptD (M.fl a b d))))) (neg := false) (S := U) rfl (fun x hx => by
    obtain ⟨n, _, rfl⟩ := List.mem_map.mp hx
    exact good_pt _ _)
  have ev : (((rngI s (t + 1)).filter fun n => !(fac * n / B == M.fl a b d n)).map (ptD (M.fl a b d))).isEmpty = srvB a b d s t B fac := by
    rw [List.isEmpty_map]
    unfold srvB
    apply Bool.eq_iff_iff.mpr
    rw [List.isEmpty_iff, List.filter_eq_nil_iff, List.all_eq_true]
    constructor
    · intro h n hn
      have := h n hn
      simpa using this
    · intro h n hn
      have := h n hn
      simpa using this
  rw [ev] at en
  unfold h_u_law_bare_1
  generalize ((rngI s (t + 1)).filter fun n => !(fac * n / B == M.fl a b d n)).map (ptD (M.fl a b d)) = FL at *
  generalize (rngI s (t + 1)).map (ptD (M.fl a b d)) = P at *
  generalize (sLc false [6] (i_u_law_bare_1 N) (tgName 6) (c_u_law_bare_1 N) (e_u_law_bare_1 N)) = C at *
  have nl : (sLst false aNil).run (eLw V1 V2 B P S.length (some (.pu (.int fac))) x6) U = some (.pu (.list []), U) := rfl
  have ap := app_at (en := eLw V1 V2 B P S.length (some (.pu (.int fac))) x6) (i := 4) (f := sVar 5) (d := .int fac) (S := U) (S1 := U) (ds := acc) rfl rfl gA (by omega)
  rw [sA] at ap
  generalize srvB a b d s t B fac = bl at *
  cases bl with
  | true =>
    rw [if_pos rfl]
    have tt : (sEq C (sLst false aNil)).run (eLw V1 V2 B P S.length (some (.pu (.int fac))) x6) U = some (.pu (.bool true), U) := by
      simp [lc, en, -r_lst, nl]
    rw [r_gif, tt]
    exact ap
  | false =>
    rw [if_neg (by decide), hU]
    have tt : (sEq C (sLst false aNil)).run (eLw V1 V2 B P S.length (some (.pu (.int fac))) x6) U = some (.pu (.bool false), U) := by
      simp [lc, en, -r_lst, nl]
    rw [r_gif, tt]
    rfl
theorem lw_loop {B : Int} (hB : 0 < B) (hB1 : B ≤ 64) (s0 : -60 ≤ s) (st : s ≤ t) (t1 : t ≤ 60) {V1 V2 : PyData} {S : Sto} {x6 : Option W} : ∀ (fs : List Int) (acc : List Int) (x5 : Option W), acc.length + fs.length ≤ 40000 → ∃ y5, loopR (tgName 5) (h_u_law_bare_1 N) (dI fs) (eLw V1 V2 B ((rngI s (t + 1)).map (ptD (M.fl a b d))) S.length x5 x6) (S ++ [(true, dI acc)]) = some (.nx, eLw V1 V2 B ((rngI s (t + 1)).map (ptD (M.fl a b d))) S.length y5 x6, S ++ [(true, dI (acc ++ fs.filter (srvB a b d s t B)))])
  | [], acc, x5, _ => ⟨x5, by rw [List.filter_nil, List.append_nil]; rfl⟩
  | f :: fs, acc, x5, hl => by
    rw [List.length_cons] at hl
    have bd := lw_body (N := N) (a := a) (b := b) (d := d) (fac := f) hB hB1 s0 st t1 (V1 := V1) (V2 := V2) (S := S) (acc := dI acc) (by unfold dI; rw [List.length_map]; omega) (x6 := x6)
    by_cases c : srvB a b d s t B f = true
    · obtain ⟨y5, r⟩ := lw_loop hB hB1 s0 st t1 (V1 := V1) (V2 := V2) (S := S) (x6 := x6) fs (acc ++ [f]) (some (.pu (.int f))) (by rw [List.length_append]; show acc.length + 1 + fs.length ≤ 40000; omega)
      refine ⟨y5, ?_⟩
      rw [if_pos c] at bd
      have e : dI acc ++ [PyData.int f] = dI (acc ++ [f]) := by unfold dI; rw [List.map_append]; rfl
      rw [e] at bd
      rw [List.filter_cons_of_pos c]
      show loopR _ _ (.int f :: dI fs) _ _ = _
      rw [loop_nx rfl bd, r, List.append_assoc]
      rfl
    · obtain ⟨y5, r⟩ := lw_loop hB hB1 s0 st t1 (V1 := V1) (V2 := V2) (S := S) (x6 := x6) fs acc (some (.pu (.int f))) (by omega)
      refine ⟨y5, ?_⟩
      rw [if_neg c] at bd
      rw [List.filter_cons_of_neg c]
      show loopR _ _ (.int f :: dI fs) _ _ = _
      rw [loop_nx rfl bd, r]
theorem lbare_run (h : Small 200 a b d) {B : Int} (hB : 0 < B) (hB1 : B ≤ 64) (s0 : -60 ≤ s) (st : s ≤ t) (t1 : t ≤ 60) (S : Sto) : (f_u_law_bare N).run [.pu (lnD a b d), .pu (stD s t), .pu (.int B)] S = some (.mu S.length, S ++ [(true, dI ((rngI (-14 * B) (14 * B + 1)).filter (srvB a b d s t B)))]) := by
  have pr := points_run (N := N) (S := S) h (by omega) st (by omega : t ≤ 1000)
  have pr : (f_u_law_points N).run [.pu (lnD a b d), .pu (stD s t)] S = some (.pu (.list ((rngI s (t + 1)).map (ptD (M.fl a b d)))), S) := pr
  obtain ⟨y5, lp⟩ := lw_loop (N := N) (a := a) (b := b) (d := d) hB hB1 s0 st t1 (V1 := lnD a b d) (V2 := stD s t) (S := S) (x6 := none) (rngI (-14 * B) (14 * B + 1)) [] none (by rw [rngI_len]; show 0 + _ ≤ _; omega)
  rw [List.nil_append] at lp
  have mo : mulOk (-14) B = true := mulOk_r (by omega) (by omega)
  have mo2 : mulOk 14 B = true := mulOk_r (by omega) (by omega)
  rw [q_u_law_bare]
  unfold b_u_law_bare
  unfold eLw at lp
  generalize lnD a b d = V1 at *
  generalize stD s t = V2 at *
  generalize (rngI s (t + 1)).map (ptD (M.fl a b d)) = P at *
  have rg : ∀ U x5, (r_u_law_bare_1 N).run [some (.pu V1), some (.pu V2), some (.pu (.int B)), some (.pu (.list P)), some (.mu S.length), x5, none] U = some (dI (rngI (-14 * B) (14 * B + 1)), U) := fun U x5 => by
    unfold r_u_law_bare_1
    exact rng_run (S1 := U) (by simp [mo]) (by simp [mo2]) (smallI_of (by omega) (by omega)) (smallI_of (by omega) (by omega))
  refine fset (w := .pu (.list P)) (S1 := S) (by simp [pr]) rfl ?_
  refine fset (w := .mu S.length) (S1 := S ++ [(true, [])]) rfl rfl ?_
  refine ffor (rg _ _) lp ?_
  exact fret rfl
end
end My

namespace My
open PySem L2 PyProof.Rows Z
structure Dr (a b d s t : Int) : Prop where
  a0 : -9 ≤ a
  a1 : a ≤ 9
  b0 : -9 ≤ b
  b1 : b ≤ 9
  d0 : 0 < d
  d1 : d ≤ 9
  s0 : -6 ≤ s
  st : s < t
  t1 : t ≤ 20
section
variable {a b d s t : Int}
theorem e6 : (2 : Int) ^ 6 = 64 := rfl
theorem Dr.cq {v1 v2 : PyData} (h : Dr a b d s t) (l : Lin v1 a b d) (k : Stre v2 s t) : CQ 6 v1 v2 a b d s t ∧ Sz 6 b := by
  obtain ⟨h1, h2, h3, h4, h5, h6, h7, h8, h9⟩ := h
  have := e6
  exact ⟨⟨l, k, h5, by omega, ⟨by omega, by omega⟩, ⟨by omega, by omega⟩, ⟨by omega, by omega⟩, ⟨by omega, by omega⟩⟩, ⟨by omega, by omega⟩⟩
theorem Dr.sm (h : Dr a b d s t) : Small 200 a b d := by
  obtain ⟨h1, h2, h3, h4, h5, h6, h7, h8, h9⟩ := h
  exact ⟨by omega, by omega, by omega, by omega, by omega, by omega⟩
theorem srv_small (h : Dr a b d s t) {m B : Int} (hB : 0 < B) (k : Srv a b d s t m B) : -10 * B ≤ m ∧ m ≤ 10 * B := by
  obtain ⟨h1, h2, h3, h4, h5, h6, h7, h8, h9⟩ := h
  have k1 := k s (by omega) (by omega)
  have k2 := k (s + 1) (by omega) (by omega)
  have u1 := M.fl_step (b := b) h5 s 9 (show a ≤ 9 * d by omega)
  have u2 := M.fl_step' (b := b) h5 s (-9) (show -9 * d ≤ a by omega)
  have w1 : B * M.fl a b d (s + 1) ≤ B * (M.fl a b d s + 9) := Int.mul_le_mul_of_nonneg_left u1 (Int.le_of_lt hB)
  have w2 : B * (M.fl a b d s + -9) ≤ B * M.fl a b d (s + 1) := Int.mul_le_mul_of_nonneg_left u2 (Int.le_of_lt hB)
  rw [Int.mul_add] at w1 w2
  rw [Int.mul_add, Int.mul_add, Int.mul_one, Int.mul_one] at k2
  rw [Int.mul_add] at k1
  omega
/-- both writings give the same -/
theorem bare_two (h : Dr a b d s t) {k : Nat} (hk : k ≤ 100) : ∃ o, BareOk (fun mm => Srv a b d s t mm (2 ^ k)) o ∧ FPu (f_bare_multipliers 400) [.pu (lnD a b d), .pu (stD s t), .pu (.int k)] (oP o) ∧ FPu (f_bare_multipliers 400) [.pu (.list [.int a, .int b, .int d]), .pu (.list [.int s, .int t]), .pu (.int k)] (oP o) := by
  obtain ⟨c1, sb⟩ := h.cq (v1 := lnD a b d) (v2 := stD s t) (.tup _) (.tup _)
  obtain ⟨c2, _⟩ := h.cq (v1 := .list [.int a, .int b, .int d]) (v2 := .list [.int s, .int t]) (.lst _) (.lst _)
  obtain ⟨o, h1, f1⟩ := bare_run (N := 400) c1 sb h.st (by decide) (by decide) (by decide) (k := k) (by omega)
  obtain ⟨o', h2, f2⟩ := bare_run (N := 400) c2 sb h.st (by decide) (by decide) (by decide) (k := k) (by omega)
  rw [BareOk.uniq h2 h1] at f2
  exact ⟨o, h1, f1, f2⟩
theorem least_two (h : Dr a b d s t) : ∃ o, (LbOk (Srv a b d s t) o ∧ ∀ k, o = some k → k ≤ 28) ∧ FPu (f_least_bare_shift 400) [.pu (lnD a b d), .pu (stD s t)] (oN o) ∧ FPu (f_least_bare_shift 400) [.pu (.list [.int a, .int b, .int d]), .pu (.list [.int s, .int t])] (oN o) := by
  obtain ⟨c1, sb⟩ := h.cq (v1 := lnD a b d) (v2 := stD s t) (.tup _) (.tup _)
  obtain ⟨c2, _⟩ := h.cq (v1 := .list [.int a, .int b, .int d]) (v2 := .list [.int s, .int t]) (.lst _) (.lst _)
  obtain ⟨o, h1, f1⟩ := least_bare_run (N := 400) c1 sb h.st (by decide) (by decide) (by decide)
  obtain ⟨o', h2, f2⟩ := least_bare_run (N := 400) c2 sb h.st (by decide) (by decide) (by decide)
  rw [LbOk.uniq h2.1 h1.1] at f2
  exact ⟨o, h1, f1, f2⟩
def facL : Option (Int × Int) → List Int
  | some p => rngI p.1 (p.2 + 1)
  | none => []
theorem facs_eq (h : Dr a b d s t) {B : Int} (hB : 0 < B) {o : Option (Int × Int)} (ho : BareOk (fun mm => Srv a b d s t mm B) o) : (rngI (-14 * B) (14 * B + 1)).filter (srvB a b d s t B) = facL o := by
  cases o with
  | none => exact List.filter_eq_nil_iff.mpr fun m _ hm => ho m ((srvB_iff hB).mp hm)
  | some p =>
    have l1 := srv_small h hB ((ho.2 p.1).mpr ⟨Int.le_refl _, ho.1⟩)
    have l2 := srv_small h hB ((ho.2 p.2).mpr ⟨ho.1, Int.le_refl _⟩)
    have le := ho.1
    refine filt_mid (by omega) (by omega) (by omega) fun n _ _ => ?_
    rw [srvB_iff hB]
    have := ho.2 n
    have : Srv a b d s t n B ↔ p.1 ≤ n ∧ n ≤ p.2 := this
    rw [this]
    omega
/-- the first of the shifts below 6 so far -/
def FirstOk (P : Int → Int → Prop) (k : Nat) : Option Nat → Prop
  | some j => j < 6 ∧ (∃ m, P m (2 ^ j)) ∧ ∀ i, i < j → ∀ m, ¬ P m (2 ^ i)
  | none => ∀ i, i < 6 → i < k → ∀ m, ¬ P m (2 ^ i)
def e5 (b0 : Nat) (x1 : Option W) (V1 V2 F K : PyData) (x6 x7 x8 x9 x10 x11 : Option W) : En := [some (.mu b0), x1, some (.pu V1), some (.pu V2), some (.pu F), some (.pu K), x6, x7, x8, x9, x10, x11]
theorem pl_oP (k : Nat) (o : Option (Int × Int)) : Pl (k + 1) (oP o) := by
  cases o with
  | none => exact .none _
  | some p => exact .tup (fun z hz => by
      simp at hz
      rcases hz with rfl | rfl <;> exact .int _ _) (by simp)
theorem pl_oN (k : Nat) (o : Option Nat) : Pl k (oN o) := by
  cases o with
  | none => exact .none _
  | some p => exact .int _ _
theorem two_lists (h : Dr a b d s t) {fn : FS} {X : List PyData} {r : PyData} (f1 : FPu fn (.pu (lnD a b d) :: .pu (stD s t) :: X.map W.pu) r) (f2 : FPu fn (.pu (.list [.int a, .int b, .int d]) :: .pu (.list [.int s, .int t]) :: X.map W.pu) r) (S : Sto) : ∃ S1 S2, Ext S S2 ∧ fn.run (.pu (lnD a b d) :: .pu (stD s t) :: X.map W.pu) S = some (.pu r, S1) ∧ fn.run (.pu (.list [.int a, .int b, .int d]) :: .pu (.list [.int s, .int t]) :: X.map W.pu) S1 = some (.pu r, S2) := by
  obtain ⟨S1, x1, r1⟩ := f1 S
  obtain ⟨S2, x2, r2⟩ := f2 S1
  exact ⟨S1, S2, x1.trans x2, r1, r2⟩
theorem k_body (h : Dr a b d s t) {k : Nat} (hk : k < 9) {f : Option Nat} (hf : FirstOk (Srv a b d s t) k f) (b0 : Nat) (x1 x6 x7 x8 x9 x10 x11 : Option W) (U : Sto) : ∃ U' f' y6 y7 y8, Ext U U' ∧ FirstOk (Srv a b d s t) (k + 1) f' ∧ (h_u_law_right_1 400).run (e5 b0 x1 (lnD a b d) (stD s t) (oN f) (.int k) x6 x7 x8 x9 x10 x11) U = some (.nx, e5 b0 x1 (lnD a b d) (stD s t) (oN f') (.int k) y6 y7 y8 x9 x10 x11, U') := by
  obtain ⟨o, ho, f1, f2⟩ := bare_two h (k := k) (by omega)
  have B0 : (0 : Int) < 2 ^ k := two_pos k
  have lo1 : ∀ S, lookL (.pu (lnD a b d)) S = some [.int a, .int b, .int d] := fun _ => rfl
  have lo2 : ∀ S, lookL (.pu (stD s t)) S = some [.int s, .int t] := fun _ => rfl
  -- stmt 3 to 5, once fine and due are there
  have rest : ∀ (U1 : Sto) (y6 : Option W) (due : PyData), Ext U U1 → (k < 6 → due = oP o) → (¬ k < 6 → due = .none) → ∃ U' f', Ext U U' ∧ FirstOk (Srv a b d s t) (k + 1) f' ∧ (gSeq (gSet 8 (sLst false (aCons (sCall (f_bare_multipliers 400) (aCons (sVar 2) (aCons (sVar 3) (aCons (sVar 5) aNil)))) (aCons (sCall (f_bare_multipliers 400) (aCons (sListOf false (sVar 2)) (aCons (sListOf false (sVar 3)) (aCons (sVar 5) aNil)))) aNil))))
      (gSeq (gIf (sAnd (sLt (sVar 5) (sC (.int 6))) (sNot (sCall (f_same 12) (aCons (sVar 8) (aCons (sLst false (aCons (sVar 7) (aCons (sVar 7) aNil))) aNil))))) (gRet (sC (.bool false))) gNop)
      (gIf (sAnd (sNotN (sVar 7)) (sIsN (sVar 4))) (gSet 4 (sVar 5)) gNop))).run (e5 b0 x1 (lnD a b d) (stD s t) (oN f) (.int k) y6 (some (.pu due)) x8 x9 x10 x11) U1 = some (.nx, e5 b0 x1 (lnD a b d) (stD s t) (oN f') (.int k) y6 (some (.pu due)) (some (.pu (.list [oP o, oP o]))) x9 x10 x11, U') := fun U1 y6 due x1' d1 d2 => by
    obtain ⟨S1, S2, xx, r1, r2⟩ := two_lists h (fn := f_bare_multipliers 400) (X := [.int k]) f1 f2 U1
    have r1 : (f_bare_multipliers 400).run [.pu (lnD a b d), .pu (stD s t), .pu (.int k)] U1 = some (.pu (oP o), S1) := r1
    have r2 : (f_bare_multipliers 400).run [.pu (.list [.int a, .int b, .int d]), .pu (.list [.int s, .int t]), .pu (.int k)] S1 = some (.pu (oP o), S2) := r2
    have sm := same_self (S := S2) (d := .list [oP o, oP o]) (.lst (fun z hz => by
      simp at hz
      rw [hz]
      exact pl_oP 9 o) (by simp))
    have st3 : ∀ X : SS, (gSeq (gSet 8 (sLst false (aCons (sCall (f_bare_multipliers 400) (aCons (sVar 2) (aCons (sVar 3) (aCons (sVar 5) aNil)))) (aCons (sCall (f_bare_multipliers 400) (aCons (sListOf false (sVar 2)) (aCons (sListOf false (sVar 3)) (aCons (sVar 5) aNil)))) aNil)))) X).run (e5 b0 x1 (lnD a b d) (stD s t) (oN f) (.int k) y6 (some (.pu due)) x8 x9 x10 x11) U1 = X.run (e5 b0 x1 (lnD a b d) (stD s t) (oN f) (.int k) y6 (some (.pu due)) (some (.pu (.list [oP o, oP o]))) x9 x10 x11) S2 := fun X => by
      unfold e5
      generalize lnD a b d = V1 at *
      generalize stD s t = V2 at *
      generalize oP o = OP at *
      exact seq_nx (by conv => lhs; simp [r1, lo1, lo2, r2, mkL])
    have st4 : ∀ X : SS, (gSeq (gIf (sAnd (sLt (sVar 5) (sC (.int 6))) (sNot (sCall (f_same 12) (aCons (sVar 8) (aCons (sLst false (aCons (sVar 7) (aCons (sVar 7) aNil))) aNil))))) (gRet (sC (.bool false))) gNop) X).run (e5 b0 x1 (lnD a b d) (stD s t) (oN f) (.int k) y6 (some (.pu due)) (some (.pu (.list [oP o, oP o]))) x9 x10 x11) S2 = X.run (e5 b0 x1 (lnD a b d) (stD s t) (oN f) (.int k) y6 (some (.pu due)) (some (.pu (.list [oP o, oP o]))) x9 x10 x11) S2 := fun X => by
      by_cases c : k < 6
      · rw [d1 c]
        have c' : (k : Int) < 6 := by omega
        unfold e5
        generalize oP o = OP at *
        exact seq_nx (by conv => lhs; simp [c', mkL, sm])
      · have c' : ¬ (k : Int) < 6 := by omega
        unfold e5
        exact seq_nx (by conv => lhs; simp [c'])
    have fin : ∀ X Y : Bool, Z.isNon (.pu due) = X → Z.isNon (.pu (oN f)) = Y → (gIf (sAnd (sNotN (sVar 7)) (sIsN (sVar 4))) (gSet 4 (sVar 5)) gNop).run (e5 b0 x1 (lnD a b d) (stD s t) (oN f) (.int k) y6 (some (.pu due)) (some (.pu (.list [oP o, oP o]))) x9 x10 x11) S2 = some (.nx, e5 b0 x1 (lnD a b d) (stD s t) (if X = false ∧ Y = true then .int k else oN f) (.int k) y6 (some (.pu due)) (some (.pu (.list [oP o, oP o]))) x9 x10 x11, S2) := fun X Y hX hY => by
      unfold e5
      generalize oN f = OF at *
      cases X <;> cases Y <;> simp [hX, hY]
    refine ⟨S2, if Z.isNon (.pu due) = false ∧ Z.isNon (.pu (oN f)) = true then some k else f, x1'.trans xx, ?_, ?_⟩
    · by_cases c : k < 6
      · rw [d1 c]
        cases o with
        | none =>
          rw [if_neg (by intro z; cases z.1)]
          cases f with
          | none =>
            intro i i6 ik
            by_cases e : i = k
            · rw [e]; exact ho
            · exact hf i i6 (by omega)
          | some j => exact hf
        | some p =>
          cases f with
          | none =>
            rw [if_pos ⟨rfl, rfl⟩]
            exact ⟨c, ⟨p.1, (ho.2 _).mpr ⟨Int.le_refl _, ho.1⟩⟩, fun i hi => hf i (by omega) hi⟩
          | some j =>
            rw [if_neg (by intro z; cases z.2)]
            exact hf
      · rw [d2 c, if_neg (by intro z; cases z.1)]
        cases f with
        | none => exact fun i i6 ik => hf i i6 (by omega)
        | some j => exact hf
    · rw [st3, st4, fin _ _ rfl rfl]
      have e : oN (if Z.isNon (.pu due) = false ∧ Z.isNon (.pu (oN f)) = true then some k else f) = if Z.isNon (.pu due) = false ∧ Z.isNon (.pu (oN f)) = true then .int k else oN f := by
        split <;> rfl
      rw [e]
  unfold h_u_law_right_1
  rw [same_eq]
  by_cases c : k < 6
  · have c' : (k : Int) < 6 := by omega
    have B1 : (2 : Int) ^ k ≤ 64 := by
      have := two_le (show k ≤ 6 by omega)
      have := e6
      omega
    have lb := lbare_run (N := 400) h.sm B0 B1 (by have := h.s0; omega) (Int.le_of_lt h.st) (by have := h.t1; omega) U
    rw [facs_eq h B0 ho] at lb
    have tw := two_run (N := 400) (k := k) (by omega) U
    have gA : ∀ p : Bool × List PyData, (U ++ [p])[U.length]? = some p := fun p => by rw [List.getElem?_append_right (Nat.le_refl _), Nat.sub_self]; rfl
    obtain ⟨U', f', xx, ff, r⟩ := rest (U ++ [(true, dI (facL o))]) (some (.mu U.length)) (oP o) ⟨_, rfl⟩ (fun _ => rfl) (fun n => absurd c n)
    refine ⟨U', f', some (.mu U.length), some (.pu (oP o)), some (.pu (.list [oP o, oP o])), xx, ff, ?_⟩
    refine (seq_nx (en1 := e5 b0 x1 (lnD a b d) (stD s t) (oN f) (.int k) (some (.mu U.length)) x7 x8 x9 x10 x11) (S1 := U ++ [(true, dI (facL o))]) ?_).trans ?_
    · unfold e5
      generalize lnD a b d = V1 at *
      generalize stD s t = V2 at *
      generalize (U ++ [((true : Bool), dI (facL o))]) = UU at *
      conv => lhs; simp [c', tw, lb]
    refine (seq_nx (en1 := e5 b0 x1 (lnD a b d) (stD s t) (oN f) (.int k) (some (.mu U.length)) (some (.pu (oP o))) x8 x9 x10 x11) (S1 := U ++ [(true, dI (facL o))]) ?_).trans r
    · have g := gA (true, dI (facL o))
      have en := eq_nil (w := .mu U.length) (neg := true) (S := U ++ [(true, dI (facL o))]) (ds := dI (facL o)) (by
        show ((U ++ [_])[U.length]?).map (fun p => PyData.list p.2) = _
        rw [g]
        rfl) (fun x hx => by
        obtain ⟨n, _, rfl⟩ := List.mem_map.mp hx
        exact good_int n)
      have nl : ∀ E V, (sLst false aNil).run E V = some (.pu (.list []), V) := fun _ _ => rfl
      cases o with
      | none =>
        have en : oEq true (.mu U.length) (.pu (.list [])) (U ++ [(true, dI [])]) = some (.pu (.bool false)) := en
        show (gSet 7 _).run _ (U ++ [(true, dI [])]) = some (_, _, U ++ [(true, dI [])])
        generalize (U ++ [((true : Bool), dI [])]) = UU at *
        unfold e5 oP
        generalize sLst false aNil = LN at *
        simp [nl, en]
      | some p =>
        have le := ho.1
        have g' : (U ++ [((true : Bool), dI (rngI p.1 (p.2 + 1)))])[U.length]? = some (true, dI (rngI p.1 (p.2 + 1))) := g
        have ne : (dI (rngI p.1 (p.2 + 1))).isEmpty = false := by
          have : rngI p.1 (p.2 + 1) ≠ [] := rngI_ne (by omega)
          cases hr : rngI p.1 (p.2 + 1) with
          | nil => exact absurd hr this
          | cons x xs => rfl
        have en : oEq true (.mu U.length) (.pu (.list [])) (U ++ [(true, dI (rngI p.1 (p.2 + 1)))]) = some (.pu (.bool (true != (dI (rngI p.1 (p.2 + 1))).isEmpty))) := en
        rw [ne] at en
        have i0 : oIx (.mu U.length) (.pu (.int 0)) (U ++ [(true, dI (rngI p.1 (p.2 + 1)))]) = some (.pu (.int p.1)) := by
          rw [ix_mu g', rngI_at0 (by omega)]
          rfl
        have i1 : oIx (.mu U.length) (.pu (.int (-1))) (U ++ [(true, dI (rngI p.1 (p.2 + 1)))]) = some (.pu (.int p.2)) := by
          rw [ix_mu g', rngI_atm (by omega), show p.2 + 1 - 1 = p.2 by omega]
          rfl
        show (gSet 7 _).run _ (U ++ [(true, dI (rngI p.1 (p.2 + 1)))]) = some (_, _, U ++ [(true, dI (rngI p.1 (p.2 + 1)))])
        generalize (U ++ [((true : Bool), dI (rngI p.1 (p.2 + 1)))]) = UU at *
        have op : oP (some p) = .tuple [.int p.1, .int p.2] := rfl
        rw [op]
        unfold e5
        generalize sLst false aNil = LN at *
        simp [nl, en, i0, i1]
  · have c' : ¬ (k : Int) < 6 := by omega
    obtain ⟨U', f', xx, ff, r⟩ := rest U (some (.pu (.list []))) .none (.refl _) (fun n => absurd n c) (fun _ => rfl)
    refine ⟨U', f', some (.pu (.list [])), some (.pu .none), some (.pu (.list [oP o, oP o])), xx, ff, ?_⟩
    have nl : ∀ E V, (sLst false aNil).run E V = some (.pu (.list []), V) := fun _ _ => rfl
    have en := eq_nil (w := .pu (.list [])) (neg := true) (S := U) (ds := []) rfl (fun x hx => by cases hx)
    refine (seq_nx (en1 := e5 b0 x1 (lnD a b d) (stD s t) (oN f) (.int k) (some (.pu (.list []))) x7 x8 x9 x10 x11) (S1 := U) ?_).trans ?_
    · unfold e5
      generalize sLst false aNil = LN at *
      conv => lhs; simp [c', nl]
    refine (seq_nx (en1 := e5 b0 x1 (lnD a b d) (stD s t) (oN f) (.int k) (some (.pu (.list []))) (some (.pu .none)) x8 x9 x10 x11) (S1 := U) ?_).trans r
    · unfold e5
      generalize sLst false aNil = LN at *
      conv => lhs; simp [nl, en]
end
end My

namespace My
open PySem L2 PyProof.Rows Z
/-! ### the test by hand: the ends of all sides reckoned plainly -/
def sdOf : PyData → Option M.Sd
  | .tuple [.int s, .tuple [.int a, .int b], .tuple [.int c, .int d]] => some ⟨s, (a, b), (c, d)⟩
  | _ => none
def sdsOf : List PyData → Option (List M.Sd)
  | [] => some []
  | d :: ds => (sdOf d).bind fun x => (sdsOf ds).map (x :: ·)
theorem sdOf_eq {d : PyData} {x : M.Sd} (h : sdOf d = some x) : d = sdD x := by
  unfold sdOf at h
  split at h
  · cases h
    rfl
  · cases h
theorem sdsOf_eq : ∀ {ds : List PyData} {xs : List M.Sd}, sdsOf ds = some xs → ds = xs.map sdD
  | [], xs, h => by cases h; rfl
  | d :: ds, xs, h => by
    obtain ⟨x, h1, h⟩ := bind_some_of h
    obtain ⟨ys, h2, h3⟩ := Option.map_eq_some_iff.mp h
    rw [← h3, List.map_cons, ← sdOf_eq h1, ← sdsOf_eq h2]
def okB (B : Int) (x : M.Sd) : Bool := (decide (x.sg = 1 ∨ x.sg = -1)) && (decide (0 < x.L.2 ∧ x.L.2.natAbs.log2 < 9000)) && (decide (0 < x.H.2 ∧ x.H.2.natAbs.log2 < 9000)) && mulOk (-x.L.1) B && mulOk (-x.H.1) B
theorem okB_ok {B : Int} {x : M.Sd} (h : okB B x = true) : SdOk x B := by
  unfold okB at h
  rw [Bool.and_eq_true, Bool.and_eq_true, Bool.and_eq_true, Bool.and_eq_true, decide_eq_true_iff, decide_eq_true_iff, decide_eq_true_iff] at h
  obtain ⟨⟨⟨⟨h1, h2⟩, h3⟩, h4⟩, h5⟩ := h
  exact ⟨h1, h2, h3, h4, h5⟩
/-- the list made one of plain cells ahead of going on -/
def forceK {α : Type} : List (Bool × List PyData) → (List (Bool × List PyData) → α) → α
  | [], k => k []
  | x :: xs, k => forceK xs fun ys => k (x :: ys)
theorem forceK_eq {α : Type} : ∀ (S : List (Bool × List PyData)) (k : List (Bool × List PyData) → α), forceK S k = k S
  | [], _ => rfl
  | x :: xs, k => forceK_eq xs fun ys => k (x :: ys)
def cheapT (ws : List W) (S : Sto) : Option (W × Sto) := match ws with
  | [.mu j, .pu (.int B)] => (S[j]?).bind fun p => (sdsOf p.2).bind fun xs => if (xs.isEmpty = false ∧ xs.length ≤ 1000) ∧ xs.all (okB B) = true then
      forceK (S.set j (false, p.2) ++ [(true, dI (xs.map (·.least B))), (true, dI (xs.map (·.great B)))]) fun U => some (.pu (oP (topO xs B)), U) else none
  | _ => none
theorem cheapT_ok (ws : List W) (S : Sto) (r : W × Sto) (h : cheapT ws S = some r) : (f_u_tops_of_sides 400).run ws S = some r := by
  unfold cheapT at h
  split at h
  · rename_i j B
    obtain ⟨⟨fl, ds⟩, h0, h⟩ := bind_some_of h
    obtain ⟨xs, h1, h2⟩ := bind_some_of h
    split at h2
    · rename_i hl
      obtain ⟨⟨l2, l8⟩, ha⟩ := hl
      have ha := List.all_eq_true.mp ha
      have e := sdsOf_eq h1
      have e : ds = xs.map sdD := e
      subst e
      rw [forceK_eq] at h2
      rw [← h2]
      exact ts_run h0 (fun x hx => okB_ok (ha x hx)) (fun e => by rw [e] at l2; cases l2) (by omega)
    · cases h2
  · cases h
/-! the whole search at once -/
def cellsOf (xs : List M.Sd) (i : Nat) : Sto := [(true, dI (xs.map (·.least (2 ^ i)))), (true, dI (xs.map (·.great (2 ^ i))))]
def lbx (xs : List M.Sd) : Nat → Nat → Option (Option Nat × Sto)
  | 0, _ => some (none, [])
  | n + 1, i => if xs.all (okB (2 ^ i)) = true then (match topO xs (2 ^ i) with
      | some _ => some (some i, cellsOf xs i)
      | none => (lbx xs n (i + 1)).map fun r => (r.1, cellsOf xs i ++ r.2)) else none
def flN : Option Nat → Fl
  | some k => .rt (.pu (.int k))
  | none => .nx
theorem lbx_loop {xs : List M.Sd} {j K : Nat} {v1 v2 : PyData} (hK : K ≤ 4000) (ne : xs ≠ []) (few : xs.length ≤ 2) {x5 x6 x7 : Option W} : ∀ (n i : Nat) (U : Sto) (x4 : Option W) (r : Option Nat × Sto), i + n = K + 1 → U[j]? = some (false, xs.map sdD) → lbx xs n i = some r →
    ∃ x4', loopR (tgName 4) (h_least_bare_shift_1 400) (dI (rngI i ((K : Int) + 1))) (eLbs v1 v2 j K x4 x5 x6 x7) U = some (flN r.1, eLbs v1 v2 j K x4' x5 x6 x7, U ++ r.2)
  | 0, i, U, x4, r, hi, hU, h => by
    have e : dI (rngI i ((K : Int) + 1)) = [] := by
      rw [show ((i : Nat) : Int) = (K : Int) + 1 by omega]
      unfold dI rngI
      rw [show ((K : Int) + 1 - ((K : Int) + 1)).toNat = 0 by omega]
      rfl
    have h : some ((none : Option Nat), ([] : Sto)) = some r := h
    cases h
    exact ⟨x4, by rw [e, List.append_nil]; rfl⟩
  | n + 1, i, U, x4, r, hi, hU, h => by
    have e : dI (rngI i ((K : Int) + 1)) = .int i :: dI (rngI ((i : Int) + 1) ((K : Int) + 1)) := by
      rw [rngI_at (show (i : Int) ≤ i by omega) (show (i : Int) < (K : Int) + 1 by omega)]
      unfold dI rngI
      rw [show ((i : Int) - i).toNat = 0 by omega]
      rfl
    unfold lbx at h
    split at h
    · rename_i ha
      have ha := List.all_eq_true.mp ha
      have tr := ts_run (N := 400) hU (fun x hx => okB_ok (ha x hx)) ne (by omega)
      have jU : j < U.length := (List.getElem?_eq_some_iff.mp hU).1
      have es : U.set j (false, xs.map sdD) = U := by
        apply List.ext_getElem?
        intro k
        by_cases c : j = k
        · subst c
          rw [List.getElem?_set_self jU, hU]
        · rw [List.getElem?_set_ne c]
      rw [es] at tr
      have tr : (f_u_tops_of_sides 400).run [.mu j, .pu (.int (2 ^ i))] U = some (.pu (oP (topO xs (2 ^ i))), U ++ cellsOf xs i) := tr
      have sh : ∀ V : Sto, (sShl (sC (.int 1)) (sVar 4)).run (eLbs v1 v2 j K (some (.pu (.int i))) x5 x6 x7) V = some (.pu (.int (2 ^ i)), V) := fun V => shl_run rfl (by omega)
      have g2 : (U ++ cellsOf xs i)[j]? = some (false, xs.map sdD) := by rw [List.getElem?_append_left jU]; exact hU
      rw [e]
      unfold eLbs at *
      cases ho : topO xs (2 ^ i) with
      | some p =>
        rw [ho] at tr h
        have h : some ((some i : Option Nat), cellsOf xs i) = some r := h
        cases h
        refine ⟨some (.pu (.int i)), ?_⟩
        refine loop_rt (en1 := [some (.pu v1), some (.pu v2), some (.mu j), some (.pu (.int K)), some (.pu (.int i)), x5, x6, x7]) rfl ?_
        have nn : Z.isNon (.pu (oP (some p))) = false := rfl
        unfold h_least_bare_shift_1
        generalize (U ++ cellsOf xs i) = U2 at *
        generalize (sShl (sC (.int 1)) (sVar 4)) = SH at *
        generalize oP (some p) = OP at *
        simp [sh, tr, nn]
      | none =>
        rw [ho] at tr h
        obtain ⟨r', h1, h2⟩ := Option.map_eq_some_iff.mp h
        cases h2
        obtain ⟨x4', lp⟩ := lbx_loop (v1 := v1) (v2 := v2) hK ne few (x5 := x5) (x6 := x6) (x7 := x7) n (i + 1) (U ++ cellsOf xs i) (some (.pu (.int i))) r' (by omega) g2 h1
        have hb : (h_least_bare_shift_1 400).run [some (.pu v1), some (.pu v2), some (.mu j), some (.pu (.int K)), some (.pu (.int i)), x5, x6, x7] U = some (.nx, [some (.pu v1), some (.pu v2), some (.mu j), some (.pu (.int K)), some (.pu (.int i)), x5, x6, x7], U ++ cellsOf xs i) := by
          have nn : Z.isNon (.pu (oP none)) = true := rfl
          unfold h_least_bare_shift_1
          generalize (U ++ cellsOf xs i) = U2 at *
          generalize (sShl (sC (.int 1)) (sVar 4)) = SH at *
          generalize oP none = OP at *
          simp [sh, tr, nn]
        have ci : ((i + 1 : Nat) : Int) = (i : Int) + 1 := by omega
        rw [ci, List.append_assoc] at lp
        exact ⟨x4', (loop_nx rfl hb).trans lp⟩
    · cases h
def cheapL (ws : List W) (S : Sto) : Option (W × Sto) := match ws with
  | [.pu v1, .pu v2] => match (f_u_need_two 400).run [.pu v2] S with
    | some (.pu .none, S1) => match (f_u_starts_at_nought 400).run [.pu v1, .pu v2] S1 with
      | some (.pu (.bool true), S2) => match (f_u_bare_sides 400).run [.pu v1, .pu v2] S2 with
        | some (.mu j, S3) => match S3[j]? with
          | some (true, ds) => (sdsOf ds).bind fun xs => if (xs.isEmpty = false ∧ xs.length ≤ 2) ∧ (xs.map bls).sum ≤ 4000 then
              (lbx xs ((xs.map bls).sum + 1) 0).bind fun r => forceK (S3.set j (false, ds) ++ r.2) fun U => some (.pu (oN r.1), U) else none
          | _ => none
        | _ => none
      | _ => none
    | _ => none
  | _ => none
theorem cheapL_ok (ws : List W) (S : Sto) (r : W × Sto) (h : cheapL ws S = some r) : (f_least_bare_shift 400).run ws S = some r := by
  unfold cheapL at h
  split at h
  · rename_i v1 v2
    split at h
    · rename_i S1 e1
      split at h
      · rename_i S2 e2
        split at h
        · rename_i j S3 e3
          split at h
          · rename_i ds g
            obtain ⟨xs, h1, h⟩ := bind_some_of h
            have e := sdsOf_eq h1
            subst e
            split at h
            · rename_i hl
              obtain ⟨⟨l2, l8⟩, hK⟩ := hl
              obtain ⟨q, h2, h3⟩ := bind_some_of h
              rw [forceK_eq] at h3
              have ne : xs ≠ [] := fun e => by rw [e] at l2; cases l2
              have jS : j < S3.length := (List.getElem?_eq_some_iff.mp g).1
              have it : (i_least_bare_shift_1 400).run [some (.pu v1), some (.pu v2), some (.mu j), none, none, none, none, none] S3 = some (xs.map sdD, S3.set j (false, xs.map sdD)) := by
                have e : fz (.mu j) S3 = some (.list (xs.map sdD), S3.set j (false, xs.map sdD)) := by
                  show (match S3[j]? with
                    | some (true, ds) => some (PyData.list ds, S3.set j (false, ds))
                    | some (false, ds) => some (.list ds, S3)
                    | none => none) = _
                  rw [g]
                show (Option.bind (fz (.mu j) S3) _) = _
                rw [e]
                rfl
              have lc := lc_all (own := [5, 6, 7]) (t := tgSeq 3 (tgCons (tgName 5) (tgCons (tgName 6) (tgCons (tgName 7) tgNil)))) (f := e_least_bare_shift_1 400) (it := i_least_bare_shift_1 400) (en := [some (.pu v1), some (.pu v2), some (.mu j), none, none, none, none, none]) (S := S3) (S' := S3.set j (false, xs.map sdD)) (xs := xs) sdD (fun x => .int (bls x : Nat)) it (by omega) fun x hx => ⟨_, rfl, by
                have i1 : ∀ (p : Int × Int) U, oIx (.pu (prD p)) (.pu (.int 1)) U = some (.pu (.int p.2)) := fun _ _ => rfl
                have k1 := i1 x.L
                have k2 := i1 x.H
                have eb : ((bls x : Nat) : Int) = (Builtin.Int.intBits x.L.2 : Nat) + (Builtin.Int.intBits x.H.2 : Nat) := by unfold bls; omega
                rw [eb]
                unfold e_least_bare_shift_1
                generalize prD x.L = PL at *
                generalize prD x.H = PH at *
                simp [wipeE, k1, k2, look]⟩
              have em : (xs.map fun x => PyData.int (bls x : Nat)) = dI ((xs.map bls).map (fun n : Nat => (n : Int))) := by unfold dI; rw [List.map_map, List.map_map]; rfl
              rw [em] at lc
              have sm := fun U => sum_nat (xs.map bls) U
              generalize (xs.map bls).sum = K at *
              obtain ⟨x4', lp⟩ := lbx_loop (v1 := v1) (v2 := v2) hK ne l8 (x5 := none) (x6 := none) (x7 := none) (K + 1) 0 (S3.set j (false, xs.map sdD)) none q (by omega) (List.getElem?_set_self jS) h2
              have rg : ∀ U, (r_least_bare_shift_1 400).run (eLbs v1 v2 j K none none none none) U = some (dI (rngI 0 ((K : Int) + 1)), U) := fun U => by
                unfold r_least_bare_shift_1 eLbs
                exact rng_run (S1 := U) (by simp) (by simp) (smallI_of (by omega) (by omega)) (smallI_of (by omega) (by omega))
              rw [← Option.some.inj h3]
              rw [q_least_bare_shift]
              unfold b_least_bare_shift
              refine fseq (en1 := [some (.pu v1), some (.pu v2), none, none, none, none, none, none]) (S1 := S1) (by conv => lhs; simp [e1]) ?_
              refine fif_f (w := .pu (.bool false)) (S1 := S2) (by simp [e2]) rfl (fnop ?_)
              refine fset (w := .mu j) (S1 := S3) (by simp [e3]) rfl ?_
              generalize (sLc false [5, 6, 7] (i_least_bare_shift_1 400) (tgSeq 3 (tgCons (tgName 5) (tgCons (tgName 6) (tgCons (tgName 7) tgNil)))) sYes (e_least_bare_shift_1 400)) = C at *
              generalize S3.set j (false, xs.map sdD) = U at *
              refine fset (en1 := eLbs v1 v2 j K none none none none) (w := .pu (.int K)) (S1 := U) ?_ rfl ?_
              · have lc' : C.run ([some (.pu v1), some (.pu v2), none, none, none, none, none, none].set 2 (some (.mu j))) S3 = _ := lc
                generalize dI ((xs.map bls).map (fun n : Nat => (n : Int))) = DL at *
                simp at lc'
                simp [lc', sm]
              · cases hq : q.1 with
                | some k =>
                  rw [hq] at lp
                  exact frt (by rw [r_for, rg]; exact lp)
                | none =>
                  rw [hq] at lp
                  refine ffor (rg _) lp ?_
                  exact fret rfl
            · cases h
          · cases h
        · cases h
      · cases h
    · cases h
  · cases h
theorem hand : isT ((f_u_law_by_hand_right 400).run [] []) = true := by
  unfold f_u_law_by_hand_right b_u_law_by_hand_right e_u_law_by_hand_right_1
  rw [hybF_eq (f := f_least_bare_shift 400) cheapL_ok]
  unfold f_bare_multipliers b_bare_multipliers
  rw [hybF_eq (f := f_u_tops_of_sides 400) cheapT_ok]
  decide +kernel
end My

namespace My
open PySem L2 PyProof.Rows Z
section
variable {a b d s t : Int}
theorem k_loop (h : Dr a b d s t) (b0 : Nat) (x1 x9 x10 x11 : Option W) : ∀ (n i : Nat) (f : Option Nat) (e5' x6 x7 x8 : Option W) (U : Sto), i + n = 9 → FirstOk (Srv a b d s t) i f → ∃ U' f' y5 y6 y7 y8, Ext U U' ∧ FirstOk (Srv a b d s t) 9 f' ∧ loopR (tgName 5) (h_u_law_right_1 400) (dI (rngI i 9)) [some (.mu b0), x1, some (.pu (lnD a b d)), some (.pu (stD s t)), some (.pu (oN f)), e5', x6, x7, x8, x9, x10, x11] U = some (.nx, [some (.mu b0), x1, some (.pu (lnD a b d)), some (.pu (stD s t)), some (.pu (oN f')), y5, y6, y7, y8, x9, x10, x11], U')
  | 0, i, f, e5', x6, x7, x8, U, hi, hf => by
    have : i = 9 := by omega
    subst this
    exact ⟨U, f, e5', x6, x7, x8, .refl _, hf, rfl⟩
  | n + 1, i, f, e5', x6, x7, x8, U, hi, hf => by
    obtain ⟨U1, f1, y6, y7, y8, ex1, hf1, r1⟩ := k_body h (k := i) (by omega) hf b0 x1 x6 x7 x8 x9 x10 x11 U
    obtain ⟨U2, f2, z5, z6, z7, z8, ex2, hf2, r2⟩ := k_loop h b0 x1 x9 x10 x11 n (i + 1) f1 (some (.pu (.int i))) y6 y7 y8 U1 (by omega) hf1
    have e : dI (rngI (i : Int) 9) = .int i :: dI (rngI ((i : Int) + 1) 9) := by
      rw [rngI_at (show (i : Int) ≤ i by omega) (show (i : Int) < 9 by omega)]
      unfold dI rngI
      rw [show ((i : Int) - i).toNat = 0 by omega]
      rfl
    refine ⟨U2, f2, z5, z6, z7, z8, ex1.trans ex2, hf2, ?_⟩
    rw [e]
    refine (loop_nx (en1 := e5 b0 x1 (lnD a b d) (stD s t) (oN f) (.int i) x6 x7 x8 x9 x10 x11) rfl r1).trans ?_
    rw [show ((i + 1 : Nat) : Int) = (i : Int) + 1 by omega] at r2
    exact r2
theorem worths_run {v : PyData} {x y z : Int} (l : Lin v x y z) (hd : dvs z) (h : Dr a b d s t) (S : Sto) : (f_u_law_worths 400).run [.pu v, .pu (stD s t)] S = some (.pu (.list (dI ((rngI s (t + 1)).map (M.fl x y z)))), S) := by
  obtain ⟨h1, h2, h3, h4, h5, h6, h7, h8, h9⟩ := h
  rw [q_u_law_worths]
  unfold b_u_law_worths
  have hi : (i_u_law_worths_1 400).run [some (.pu v), some (.pu (stD s t)), none] S = some (dI (rngI s (t + 1)), S) := by
    unfold i_u_law_worths_1
    have i0 : oIx (.pu (stD s t)) (.pu (.int 0)) S = some (.pu (.int s)) := rfl
    have i1 : oIx (.pu (stD s t)) (.pu (.int 1)) S = some (.pu (.int t)) := rfl
    generalize stD s t = D3 at *
    exact rng_run (S1 := S) (by simp [i0]) (by simp [i1]) (smallI_of (by omega) (by omega)) (smallI_of (by omega) (by omega))
  have hl := lc_all (t := tgName 2) (f := e_u_law_worths_1 400) (own := [2]) (fun n => .int n) (fun n => .int (M.fl x y z n)) hi (by rw [rngI_len]; omega) fun n hn => by
    obtain ⟨n0, n1⟩ := mem_rngI.mp hn
    refine ⟨[some (.pu v), some (.pu (stD s t)), some (.pu (.int n))], rfl, ?_⟩
    have wv : f_worthL.run [.pu v, .pu (.int n)] S = some (.pu (.int (M.fl x y z n)), S) := worth_run (S := S) l (n := n) (mulOk_r (by omega) (by omega)) hd
    unfold e_u_law_worths_1
    rw [worth_eq]
    simp [wv]
  have e : (rngI s (t + 1)).map (fun n => PyData.int (M.fl x y z n)) = dI ((rngI s (t + 1)).map (M.fl x y z)) := by
    show _ = ((rngI s (t + 1)).map (M.fl x y z)).map PyData.int
    rw [List.map_map]
    rfl
  rw [e] at hl
  exact fret hl
theorem late_eq {m : Int} {k : Nat} (h : Srv a b d s t m (2 ^ k)) : (rngI s (t + 1)).map (M.fl m 0 (2 ^ k)) = (rngI s (t + 1)).map (M.fl a b d) := by
  refine List.map_congr_left fun n hn => ?_
  have := mem_rngI.mp hn
  have k1 := h n this.1 (by omega)
  have B0 : (0 : Int) < 2 ^ k := two_pos k
  show (m * n + 0) / 2 ^ k = _
  rw [Int.add_zero]
  generalize (2 : Int) ^ k = B at *
  have h1 : M.fl a b d n ≤ m * n / B := (Int.le_ediv_iff_mul_le B0).mpr (by rw [Int.mul_comm (M.fl a b d n)]; exact k1.1)
  have h2 : m * n / B < M.fl a b d n + 1 := (Int.ediv_lt_iff_lt_mul B0).mpr (by rw [Int.mul_comm (M.fl a b d n + 1)]; exact k1.2)
  omega
/-- what is held against the least shift, once the first one is there -/
theorem tail_run (h : Dr a b d s t) {f : Option Nat} (hf : FirstOk (Srv a b d s t) 9 f) (b0 : Nat) (x1 x5 x6 x7 x8 x9 x10 x11 : Option W) (U : Sto) : ∃ U' y8 y9 y10 y11, Ext U U' ∧
    (gSeq (gSet 9 (sCall (f_least_bare_shift 400) (aCons (sVar 2) (aCons (sVar 3) aNil))))
    (gSeq (gSet 8 (sLst false (aCons (sVar 9) (aCons (sCall (f_least_bare_shift 400) (aCons (sListOf false (sVar 2)) (aCons (sListOf false (sVar 3)) aNil))) aNil))))
    (gSeq (gIf (sAnd (sNotN (sVar 4)) (sNot (sCall (f_same 12) (aCons (sVar 8) (aCons (sLst false (aCons (sVar 4) (aCons (sVar 4) aNil))) aNil))))) (gRet (sC (.bool false))) gNop)
    (gIf (sAnd (sIsN (sVar 4)) (sNotN (sVar 9))) (gSeq (gSet 10 (sCall (f_bare_multipliers 400) (aCons (sVar 2) (aCons (sVar 3) (aCons (sVar 9) aNil)))))
    (gSeq (gSet 11 (sTup (aCons (sIx (sVar 10) (sC (.int 0))) (aCons (sC (.int 0)) (aCons (sCall (f_u_law_two 400) (aCons (sVar 9) aNil)) aNil)))))
    (gSeq (gIf (sOr (sLt (sVar 9) (sC (.int 6))) (sNe (sCall (f_u_law_worths 400) (aCons (sVar 11) (aCons (sVar 3) aNil))) (sCall (f_u_law_worths 400) (aCons (sVar 2) (aCons (sVar 3) aNil))))) (gRet (sC (.bool false))) gNop)
    (gIf (sNotN (sCall (f_bare_multipliers 400) (aCons (sVar 2) (aCons (sVar 3) (aCons (sSub (sVar 9) (sC (.int 1))) aNil))))) (gRet (sC (.bool false))) gNop)))) gNop)))).run [some (.mu b0), x1, some (.pu (lnD a b d)), some (.pu (stD s t)), some (.pu (oN f)), x5, x6, x7, x8, x9, x10, x11] U = some (.nx, [some (.mu b0), x1, some (.pu (lnD a b d)), some (.pu (stD s t)), some (.pu (oN f)), x5, x6, x7, y8, y9, y10, y11], U') := by
  obtain ⟨o, ⟨ho, hb⟩, f1, f2⟩ := least_two h
  obtain ⟨S1, S2, xx, r1, r2⟩ := two_lists h (fn := f_least_bare_shift 400) (X := []) f1 f2 U
  have r1 : (f_least_bare_shift 400).run [.pu (lnD a b d), .pu (stD s t)] U = some (.pu (oN o), S1) := r1
  have r2 : (f_least_bare_shift 400).run [.pu (.list [.int a, .int b, .int d]), .pu (.list [.int s, .int t])] S1 = some (.pu (oN o), S2) := r2
  have lo1 : ∀ S, lookL (.pu (lnD a b d)) S = some [.int a, .int b, .int d] := fun _ => rfl
  have lo2 : ∀ S, lookL (.pu (stD s t)) S = some [.int s, .int t] := fun _ => rfl
  have sm := same_self (S := S2) (d := .list [oN o, oN o]) (.lst (fun z hz => by
    simp at hz
    rw [hz]
    exact pl_oN 10 o) (by simp))
  have st1 : ∀ X Y : SS, (gSeq (gSet 9 (sCall (f_least_bare_shift 400) (aCons (sVar 2) (aCons (sVar 3) aNil)))) (gSeq (gSet 8 (sLst false (aCons (sVar 9) (aCons (sCall (f_least_bare_shift 400) (aCons (sListOf false (sVar 2)) (aCons (sListOf false (sVar 3)) aNil))) aNil)))) X)).run [some (.mu b0), x1, some (.pu (lnD a b d)), some (.pu (stD s t)), some (.pu (oN f)), x5, x6, x7, x8, x9, x10, x11] U = X.run [some (.mu b0), x1, some (.pu (lnD a b d)), some (.pu (stD s t)), some (.pu (oN f)), x5, x6, x7, some (.pu (.list [oN o, oN o])), some (.pu (oN o)), x10, x11] S2 := fun X Y => by
    generalize lnD a b d = V1 at *
    generalize stD s t = V2 at *
    generalize oN o = ON at *
    refine (seq_nx (en1 := [some (.mu b0), x1, some (.pu V1), some (.pu V2), some (.pu (oN f)), x5, x6, x7, x8, some (.pu ON), x10, x11]) (S1 := S1) (by conv => lhs; simp [r1])).trans ?_
    exact seq_nx (by conv => lhs; simp [lo1, lo2, r2, mkL])
  rw [st1 _ gNop]
  cases f with
  | some j =>
    obtain ⟨j6, j1, j2⟩ := hf
    have e : o = some j := LbOk.uniq ho ⟨j1, j2⟩
    subst e
    have nn : Z.isNon (.pu (oN (some j))) = false := rfl
    refine ⟨S2, some (.pu (.list [oN (some j), oN (some j)])), some (.pu (oN (some j))), x10, x11, xx, ?_⟩
    generalize oN (some j) = ON at *
    generalize lnD a b d = V1 at *
    generalize stD s t = V2 at *
    refine (seq_nx (en1 := [some (.mu b0), x1, some (.pu V1), some (.pu V2), some (.pu ON), x5, x6, x7, some (.pu (.list [ON, ON])), some (.pu ON), x10, x11]) (S1 := S2) (by conv => lhs; simp [nn, mkL, sm])).trans ?_
    simp [nn]
  | none =>
    have nf : Z.isNon (.pu (oN none)) = true := rfl
    cases o with
    | none =>
      refine ⟨S2, some (.pu (.list [oN none, oN none])), some (.pu (oN none)), x10, x11, xx, ?_⟩
      generalize oN none = ON at *
      generalize lnD a b d = V1 at *
      generalize stD s t = V2 at *
      refine (seq_nx (en1 := [some (.mu b0), x1, some (.pu V1), some (.pu V2), some (.pu ON), x5, x6, x7, some (.pu (.list [ON, ON])), some (.pu ON), x10, x11]) (S1 := S2) (by conv => lhs; simp [nf])).trans ?_
      simp [nf]
    | some k =>
      obtain ⟨⟨m, hm⟩, hk⟩ := ho
      have k28 := hb k rfl
      have k6 : 6 ≤ k := by
        apply Nat.not_lt.mp
        intro z
        exact hf k z (by omega) m hm
      obtain ⟨p, hp, g1, _⟩ := bare_two h (k := k) (by omega)
      obtain ⟨q, hq, g2, _⟩ := bare_two h (k := k - 1) (by omega)
      cases p with
      | none => exact absurd hm (hp m)
      | some p =>
        cases q with
        | some q => exact absurd ((hq.2 q.1).mpr ⟨Int.le_refl _, hq.1⟩) (hk (k - 1) (by omega) q.1)
        | none =>
          have sp : Srv a b d s t p.1 (2 ^ k) := (hp.2 p.1).mpr ⟨Int.le_refl _, hp.1⟩
          obtain ⟨S3, x3, e3⟩ := g1 S2
          obtain ⟨S4, x4, e4⟩ := g2 S3
          have B0 : (0 : Int) < 2 ^ k := two_pos k
          have B1 : (2 : Int) ^ k ≤ 2 ^ 28 := two_le k28
          have w1 := worths_run (v := lnD p.1 0 (2 ^ k)) (.tup _) (dvs_of B0 (by omega)) h S3
          have w2 := worths_run (v := lnD a b d) (.tup _) (dvs_of h.d0 (by have := h.d1; omega)) h S3
          rw [late_eq sp] at w1
          have eq1 := Z.eq_ints (xs := (rngI s (t + 1)).map (M.fl a b d)) (ys := (rngI s (t + 1)).map (M.fl a b d)) (b := true) (S := S3)
          have tw := two_run (N := 400) (k := k) (by omega) S3
          have i0 : oIx (.pu (oP (some p))) (.pu (.int 0)) S3 = some (.pu (.int p.1)) := rfl
          have nk : Z.isNon (.pu (PyData.int k)) = false := rfl
          have nq : Z.isNon (.pu (oP none)) = true := rfl
          have ek : oN (some k) = .int k := rfl
          have em : ((k - 1 : Nat) : Int) = (k : Int) - 1 := by omega
          rw [em] at e4
          have kl : ¬ (k : Int) < 6 := by omega
          have el : lnD p.1 0 (2 ^ k) = .tuple [.int p.1, .int 0, .int (2 ^ k)] := rfl
          refine ⟨S4, some (.pu (.list [.int k, .int k])), some (.pu (.int k)), some (.pu (oP (some p))), some (.pu (lnD p.1 0 (2 ^ k))), (xx.trans x3).trans x4, ?_⟩
          rw [ek]
          rw [el] at w1
          rw [el]
          generalize (2 : Int) ^ k = B at *
          generalize dI ((rngI s (t + 1)).map (M.fl a b d)) = DL at *
          generalize oN none = ON at *
          generalize lnD a b d = V1 at *
          generalize stD s t = V2 at *
          generalize oP (some p) = OP at *
          generalize oP none = ONO at *
          refine (seq_nx (en1 := [some (.mu b0), x1, some (.pu V1), some (.pu V2), some (.pu ON), x5, x6, x7, some (.pu (.list [.int k, .int k])), some (.pu (.int k)), x10, x11]) (S1 := S2) (by conv => lhs; simp [nf])).trans ?_
          have blk : (gSeq (gSet 10 (sCall (f_bare_multipliers 400) (aCons (sVar 2) (aCons (sVar 3) (aCons (sVar 9) aNil)))))
    (gSeq (gSet 11 (sTup (aCons (sIx (sVar 10) (sC (.int 0))) (aCons (sC (.int 0)) (aCons (sCall (f_u_law_two 400) (aCons (sVar 9) aNil)) aNil)))))
    (gSeq (gIf (sOr (sLt (sVar 9) (sC (.int 6))) (sNe (sCall (f_u_law_worths 400) (aCons (sVar 11) (aCons (sVar 3) aNil))) (sCall (f_u_law_worths 400) (aCons (sVar 2) (aCons (sVar 3) aNil))))) (gRet (sC (.bool false))) gNop)
    (gIf (sNotN (sCall (f_bare_multipliers 400) (aCons (sVar 2) (aCons (sVar 3) (aCons (sSub (sVar 9) (sC (.int 1))) aNil))))) (gRet (sC (.bool false))) gNop)))).run [some (.mu b0), x1, some (.pu V1), some (.pu V2), some (.pu ON), x5, x6, x7, some (.pu (.list [.int k, .int k])), some (.pu (.int k)), x10, x11] S2 = some (.nx, [some (.mu b0), x1, some (.pu V1), some (.pu V2), some (.pu ON), x5, x6, x7, some (.pu (.list [.int k, .int k])), some (.pu (.int k)), some (.pu OP), some (.pu (.tuple [.int p.1, .int 0, .int B]))], S4) := by
            refine (seq_nx (en1 := [some (.mu b0), x1, some (.pu V1), some (.pu V2), some (.pu ON), x5, x6, x7, some (.pu (.list [.int k, .int k])), some (.pu (.int k)), some (.pu OP), x11]) (S1 := S3) (by conv => lhs; simp [e3])).trans ?_
            refine (seq_nx (en1 := [some (.mu b0), x1, some (.pu V1), some (.pu V2), some (.pu ON), x5, x6, x7, some (.pu (.list [.int k, .int k])), some (.pu (.int k)), some (.pu OP), some (.pu (.tuple [.int p.1, .int 0, .int B]))]) (S1 := S3) (by conv => lhs; simp [i0, tw])).trans ?_
            refine (seq_nx (en1 := [some (.mu b0), x1, some (.pu V1), some (.pu V2), some (.pu ON), x5, x6, x7, some (.pu (.list [.int k, .int k])), some (.pu (.int k)), some (.pu OP), some (.pu (.tuple [.int p.1, .int 0, .int B]))]) (S1 := S3) (by
              generalize PyData.tuple [.int p.1, .int 0, .int B] = LT at *
              conv => lhs; simp [kl, w1, w2, eq1])).trans ?_
            generalize PyData.tuple [.int p.1, .int 0, .int B] = LT at *
            simp [e4, nq]
          have cnd : (sAnd (sIsN (sVar 4)) (sNotN (sVar 9))).run [some (.mu b0), x1, some (.pu V1), some (.pu V2), some (.pu ON), x5, x6, x7, some (.pu (.list [.int k, .int k])), some (.pu (.int k)), x10, x11] S2 = some (.pu (.bool true), S2) := by simp [nf, nk]
          rw [r_gif, cnd]
          exact blk
end
theorem run_eq (N : Nat) : f_u_law_run N = f_runL := rfl
theorem turn_ok : TurnOk (h_u_law_right_2 400) 12 8 := by
  intro en S b B hl h0 hb bz hB
  match en, hl with
  | [e0, x1, x2, x3, x4, x5, x6, x7, x8, x9, x10, x11], _ =>
    cases h0
    obtain ⟨x, y, d, S1, e1, a0, a1, y0, y1, d0, d1, h1, f1⟩ := rule_st (wide := 9) hb (by omega) (by decide) (by decide)
    obtain ⟨v, S2, e2, v0, v1, h2, f2⟩ := take_st (top := 3) h1 (by omega) (dvs_of (by decide) (by decide))
    have le : PyData.tuple [.int x, .int y, .int d] = lnD x y d := rfl
    rw [le] at e1
    obtain ⟨s, t, S3, st3, s0, s1, t0, t1, h3, f3⟩ : ∃ s t S3, (sIte (sGt (sCall f_take (aCons (sVar 0) (aCons (sC (.int 3)) aNil))) (sC (.int 0))) (sCall f_runL (aCons (sVar 0) (aCons (sC (.int 9)) (aCons (sC (.int 6)) aNil)))) (sTup (aCons (sC (.int 0)) (aCons (sCall f_take (aCons (sVar 0) (aCons (sC (.int 9)) aNil))) aNil)))).run [some (.mu b), x1, some (.pu (lnD x y d)), x3, x4, x5, x6, x7, x8, x9, x10, x11] S1 = some (.pu (stD s t), S3) ∧ -6 ≤ s ∧ s ≤ 6 ∧ s ≤ t ∧ t ≤ s + 9 ∧ BS b (B + 6) S3 ∧ Fr b S S3 := by
      rcases Int.lt_or_le 0 v with c | c
      · obtain ⟨s, t, S3, e3, z0, z1, z2, z3, h3, f3⟩ := run_st (most := 9) (wide := 6) h2 (by omega) (by decide) (by decide) (by decide) (by decide)
        have se : PyData.tuple [.int s, .int t] = stD s t := rfl
        rw [se] at e3
        refine ⟨s, t, S3, ?_, z0, z1, z2, by omega, h3.mono (by omega), (f1.trans f2).trans f3⟩
        generalize lnD x y d = V1 at *
        simp [e2, c, e3]
      · obtain ⟨w, S3, e3, w0, w1, h3, f3⟩ := take_st (top := 9) h2 (by omega) (dvs_of (by decide) (by decide))
        have c' : ¬ 0 < v := by omega
        refine ⟨0, w, S3, ?_, by decide, by decide, by omega, by omega, h3.mono (by omega), (f1.trans f2).trans f3⟩
        have se : stD 0 w = PyData.tuple [.int 0, .int w] := rfl
        rw [se]
        generalize lnD x y d = V1 at *
        simp [e2, c', e3]
    have dr : Dr x y d s (t + 1) := ⟨a0, a1, y0, y1, by omega, d1, s0, by omega, by omega⟩
    obtain ⟨U1, ff, z5, z6, z7, z8, ex1, hf, lp⟩ := k_loop dr b x1 x9 x10 x11 9 0 none x5 x6 x7 x8 S3 (by omega) (fun i _ hi => by omega)
    obtain ⟨U2, w8, w9, w10, w11, ex2, tl⟩ := tail_run dr hf b x1 z5 z6 z7 z8 x9 x10 x11 U1
    have rg : ∀ (E : En) (U : Sto), (r_u_law_right_1 400).run E U = some (dI (rngI 0 9), U) := fun E U => by
      unfold r_u_law_right_1
      exact rng_run (S1 := U) (by simp) (by simp) (smallI_of (by omega) (by omega)) (smallI_of (by omega) (by omega))
    refine ⟨[some (.mu b), x1, some (.pu (lnD x y d)), some (.pu (stD s (t + 1))), some (.pu (oN ff)), z5, z6, z7, w8, w9, w10, w11], U2, ?_, rfl, rfl, (Ext.bs h3 (ex1.trans ex2)).mono (by omega), f3.trans (ex1.trans ex2).fr⟩
    have i0 : ∀ U, oIx (.pu (stD s t)) (.pu (.int 0)) U = some (.pu (.int s)) := fun _ => rfl
    have i1 : ∀ U, oIx (.pu (stD s t)) (.pu (.int 1)) U = some (.pu (.int t)) := fun _ => rfl
    have se : stD s (t + 1) = PyData.tuple [.int s, .int (t + 1)] := rfl
    unfold h_u_law_right_2
    rw [rule_eq, run_eq, same_eq, take_eq]
    refine (seq_nx (en1 := [some (.mu b), x1, some (.pu (lnD x y d)), x3, x4, x5, x6, x7, x8, x9, x10, x11]) (S1 := S1) (by
      generalize lnD x y d = V at *
      conv => lhs; simp [e1])).trans ?_
    refine (seq_nx (en1 := [some (.mu b), x1, some (.pu (lnD x y d)), some (.pu (stD s t)), x4, x5, x6, x7, x8, x9, x10, x11]) (S1 := S3) (by rw [r_set, st3]; rfl)).trans ?_
    refine (seq_nx (en1 := [some (.mu b), x1, some (.pu (lnD x y d)), some (.pu (stD s (t + 1))), x4, x5, x6, x7, x8, x9, x10, x11]) (S1 := S3) (by
      rw [se]
      generalize lnD x y d = V at *
      generalize stD s t = V2 at *
      conv => lhs; simp [i0, i1])).trans ?_
    refine (seq_nx (en1 := [some (.mu b), x1, some (.pu (lnD x y d)), some (.pu (stD s (t + 1))), some (.pu (oN none)), x5, x6, x7, x8, x9, x10, x11]) (S1 := S3) rfl).trans ?_
    refine (seq_nx (by rw [r_for, rg]; exact lp)).trans ?_
    exact tl
theorem right : CaseOk (f_u_law_right 400) (4 * 8) := right_turns (L := 11) turn_ok (by decide) (by decide) (N := 4) (by decide)
theorem law_eq : f_law 400 = mkF 1 4 (b_law2 (f_u_law_by_hand_right 400) (f_u_law_right 400) 2717) := rfl
theorem main (ns : List Int) (hn : ns.length ≤ 63) : ∃ n S', (f_law n).run [.sq ns] [] = some (.pu (.bool true), S') := by
  refine ⟨400, ?_⟩
  rw [law_eq]
  exact law2_ok (by decide) (by decide) (isT_ok hand) right (by decide) (by decide) ns hn
end My

open PySem PySem.W PyProof.Rows in
set_option maxRecDepth 100000 in
set_option maxHeartbeats 0 in
theorem PySem.Challenge.cw_floorcorners_k82_bare_shifts_holds : PySem.Challenge.rw_floorcorners_k82_bare_shifts.Holds := by
  w_on; o_law; k_head; (case hw => w_witness2)
  k_fill
  refine My.walk (l := PySem.Challenge.rw_floorcorners_k82_bare_shifts) rfl rfl (fun w h Y => PySem.W.kIn_of Y) ?F
  case F =>
    intro w mg fa h KX G hmg
    refine' My.all_mk KX G hmg ?a0 ?l0 ?c0 ?k0 ?a1 ?l1 ?c1 ?k1 ?a2 ?l2 ?c2 ?k2 ?a3 ?l3 ?c3 ?k3 ?a4 ?l4 ?c4 ?k4 ?a5 ?l5 ?c5 ?k5 ?a6 ?l6 ?c6 ?k6 ?a7 ?l7 ?c7 ?k7 ?a8 ?l8 ?c8 ?k8 ?a9 ?l9 ?c9 ?k9 ?a10 ?l10 ?c10 ?k10 ?a11 ?l11 ?c11 ?k11 ?a12 ?l12 ?c12 ?k12 ?a13 ?l13 ?c13 ?k13 ?a14 ?l14 ?c14 ?k14 ?a15 ?l15 ?c15 ?k15 ?a16 ?l16 ?c16 ?k16 ?a17 ?l17 ?c17 ?k17 ?a18 ?l18 ?c18 ?k18 ?a19 ?l19 ?c19 ?k19 ?a20 ?l20 ?c20 ?k20 ?a21 ?l21 ?c21 ?k21 ?a22 ?l22 ?c22 ?k22 ?a23 ?l23 ?c23 ?k23 ?a24 ?l24 ?c24 ?k24 ?a25 ?l25 ?c25 ?k25 ?a26 ?l26 ?c26 ?k26 ?a27 ?l27 ?c27 ?k27 ?a28 ?l28 ?c28 ?k28 ?a29 ?l29 ?c29 ?k29 ?a30 ?l30 ?c30 ?k30 ?a31 ?l31 ?c31 ?k31 ?z_abs ?z_all ?z_bool ?z_dict ?z_enumerate ?z_int ?z_isinstance ?z_len ?z_list ?z_max ?z_min ?z_range ?z_str ?z_sum ?z_tuple ?z_zip My.main
    (case a0 => k_is)
    (case l0 => k_is)
    (case c0 => k_is)
    (case k0 => k_is)
    (case a1 => k_is)
    (case l1 => k_is)
    (case c1 => k_is)
    (case k1 => k_is)
    (case a2 => k_is)
    (case l2 => k_is)
    (case c2 => k_is)
    (case k2 => k_is)
    (case a3 => k_is)
    (case l3 => k_is)
    (case c3 => k_is)
    (case k3 => k_is)
    (case a4 => k_is)
    (case l4 => k_is)
    (case c4 => k_is)
    (case k4 => k_is)
    (case a5 => k_is)
    (case l5 => k_is)
    (case c5 => k_is)
    (case k5 => k_is)
    (case a6 => k_is)
    (case l6 => k_is)
    (case c6 => k_is)
    (case k6 => k_is)
    (case a7 => k_is)
    (case l7 => k_is)
    (case c7 => k_is)
    (case k7 => k_is)
    (case a8 => k_is)
    (case l8 => k_is)
    (case c8 => k_is)
    (case k8 => k_is)
    (case a9 => k_is)
    (case l9 => k_is)
    (case c9 => k_is)
    (case k9 => k_is)
    (case a10 => k_is)
    (case l10 => k_is)
    (case c10 => k_is)
    (case k10 => k_is)
    (case a11 => k_is)
    (case l11 => k_is)
    (case c11 => k_is)
    (case k11 => k_is)
    (case a12 => k_is)
    (case l12 => k_is)
    (case c12 => k_is)
    (case k12 => k_is)
    (case a13 => k_is)
    (case l13 => k_is)
    (case c13 => k_is)
    (case k13 => k_is)
    (case a14 => k_is)
    (case l14 => k_is)
    (case c14 => k_is)
    (case k14 => k_is)
    (case a15 => k_is)
    (case l15 => k_is)
    (case c15 => k_is)
    (case k15 => k_is)
    (case a16 => k_is)
    (case l16 => k_is)
    (case c16 => k_is)
    (case k16 => k_is)
    (case a17 => k_is)
    (case l17 => k_is)
    (case c17 => k_is)
    (case k17 => k_is)
    (case a18 => k_is)
    (case l18 => k_is)
    (case c18 => k_is)
    (case k18 => k_is)
    (case a19 => k_is)
    (case l19 => k_is)
    (case c19 => k_is)
    (case k19 => k_is)
    (case a20 => k_is)
    (case l20 => k_is)
    (case c20 => k_is)
    (case k20 => k_is)
    (case a21 => k_is)
    (case l21 => k_is)
    (case c21 => k_is)
    (case k21 => k_is)
    (case a22 => k_is)
    (case l22 => k_is)
    (case c22 => k_is)
    (case k22 => k_is)
    (case a23 => k_is)
    (case l23 => k_is)
    (case c23 => k_is)
    (case k23 => k_is)
    (case a24 => k_is)
    (case l24 => k_is)
    (case c24 => k_is)
    (case k24 => k_is)
    (case a25 => k_is)
    (case l25 => k_is)
    (case c25 => k_is)
    (case k25 => k_is)
    (case a26 => k_is)
    (case l26 => k_is)
    (case c26 => k_is)
    (case k26 => k_is)
    (case a27 => k_is)
    (case l27 => k_is)
    (case c27 => k_is)
    (case k27 => k_is)
    (case a28 => k_is)
    (case l28 => k_is)
    (case c28 => k_is)
    (case k28 => k_is)
    (case a29 => k_is)
    (case l29 => k_is)
    (case c29 => k_is)
    (case k29 => k_is)
    (case a30 => k_is)
    (case l30 => k_is)
    (case c30 => k_is)
    (case k30 => k_is)
    (case a31 => k_is)
    (case l31 => k_is)
    (case c31 => k_is)
    (case k31 => k_is)
    (case z_abs => k_is)
    (case z_all => k_is)
    (case z_bool => k_is)
    (case z_dict => k_is)
    (case z_enumerate => k_is)
    (case z_int => k_is)
    (case z_isinstance => k_is)
    (case z_len => k_is)
    (case z_list => k_is)
    (case z_max => k_is)
    (case z_min => k_is)
    (case z_range => k_is)
    (case z_str => k_is)
    (case z_sum => k_is)
    (case z_tuple => k_is)
    (case z_zip => k_is)

