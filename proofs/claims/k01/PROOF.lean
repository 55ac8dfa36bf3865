import PyProof.Rows.All
import Wide.All
import OpenK.AllK
import Wide.FinOn
import HandS.ForMost
import HandS.Deep
import HandS.IsInst
import HandS.Flow
import KE.SortData
import KE.DataCmp
import PyProof.Rows.SortWalk
import PySem.Challenge.RW_tickoff_k01_in_order
set_option Elab.async false
set_option linter.all false
set_option maxRecDepth 100000
set_option maxHeartbeats 4000000
namespace DL
open PySem L2

/-! ### heaps: C the part that never changes, H all that is tracked -/
def Ex (H H' : Hp) : Prop := ∀ a o, H a = some o → H' a = some o
theorem Ex.refl (H : Hp) : Ex H H := fun _ _ h => h
theorem Ex.trans {H H1 H2 : Hp} (a : Ex H H1) (b : Ex H1 H2) : Ex H H2 := fun x o h => b x o (a x o h)
theorem Ex.new {H : Hp} {p : Addr} {o : HO} (h : H p = none) : Ex H (upd H p o) := fun a u e => by
  rw [upd_ne (ne_of_none e h)]
  exact e
theorem Ex.back {H H' : Hp} {p : Addr} (e : Ex H H') (h : H' p = none) : H p = none := by
  cases h1 : H p with
  | none => rfl
  | some o =>
    rw [e p o h1] at h
    cases h
theorem Ex.rd {H H' : Hp} {a : Addr} {u : HO} (e : Ex H H') (h : Rd H a u) : Rd H' a u := by
  rcases h with h | ⟨o, h⟩
  · exact Or.inl (e a _ h)
  · exact Or.inr ⟨o, e a _ h⟩
theorem Ex.l {K : PySem.W.Frag} {H H' : Hp} {a : Addr} {xs : List V} (e : Ex H H') (h : SqL K H a xs) : SqL K H' a xs := by
  rcases h with h | h
  · exact Or.inl (e.rd h)
  · exact Or.inr h
theorem Ex.t {K : PySem.W.Frag} {H H' : Hp} {a : Addr} {xs : List V} (e : Ex H H') (h : SqT K H a xs) : SqT K H' a xs := by
  rcases h with h | h
  · exact Or.inl (e.rd h)
  · exact Or.inr h
/-- an object that H does not know may change -/
theorem Ex.mut {H H' : Hp} {p : Addr} {o : HO} (e : Ex H H') (h : H p = none) : Ex H (upd H' p o) := fun a u ha => by
  rw [upd_ne (ne_of_none ha h)]
  exact e a u ha
/-- a part that takes one more object over from the whole -/
theorem Ex.take {C H : Hp} {p : Addr} {o : HO} (e : Ex C H) (h : H p = some o) : Ex (upd C p o) H := fun a u ha => by
  by_cases q : a = p
  · subst q
    rw [upd_same] at ha
    cases ha
    exact h
  · rw [upd_ne q] at ha
    exact e a u ha
theorem Ex.both {C H : Hp} {p : Addr} {o : HO} (e : Ex C H) : Ex (upd C p o) (upd H p o) := fun a u ha => by
  by_cases q : a = p
  · subst q
    rw [upd_same] at ha ⊢
    exact ha
  · rw [upd_ne q] at ha ⊢
    exact e a u ha
mutual
theorem dp_ex {K : PySem.W.Frag} {H H' : Hp} (e : Ex H H') : ∀ {d : PyData} {v : V}, Dp K H v d → Dp K H' v d
  | .none, _, h => by cases h; exact .non
  | .bool b, _, h => by cases h; exact .bl b
  | .int i, _, h => by cases h; exact .int i
  | .str x, _, h => by cases h; exact .str x
  | .list ds, _, h => by
    cases h with
    | lst hs ha => exact .lst (e.l hs) (dps_ex e ha)
  | .tuple ds, _, h => by
    cases h with
    | tup hs ha => exact .tup (e.t hs) (dps_ex e ha)
  | .dict _, _, h => by cases h
theorem dps_ex {K : PySem.W.Frag} {H H' : Hp} (e : Ex H H') : ∀ {ds : List PyData} {vs : List V}, DpAll K H vs ds → DpAll K H' vs ds
  | [], _, h => by cases h; exact .nil
  | d :: ds, _, h => by
    cases h with
    | cons h1 h2 => exact .cons (dp_ex e h1) (dps_ex e h2)
end
theorem dps_len {K : PySem.W.Frag} {H : Hp} : ∀ {vs : List V} {ds : List PyData}, DpAll K H vs ds → vs.length = ds.length
  | _, _, .nil => rfl
  | _, _, .cons _ t => congrArg (· + 1) (dps_len t)
theorem dps_app {K : PySem.W.Frag} {H : Hp} : ∀ {vs ws : List V} {ds es : List PyData}, DpAll K H vs ds → DpAll K H ws es → DpAll K H (vs ++ ws) (ds ++ es)
  | _, _, _, _, .nil, s => s
  | _, _, _, _, .cons r t, s => .cons r (dps_app t s)
theorem dps_get {K : PySem.W.Frag} {H : Hp} : ∀ {vs : List V} {ds : List PyData} {i : Nat} {d : PyData}, DpAll K H vs ds → ds[i]? = some d → ∃ v, vs[i]? = some v ∧ Dp K H v d
  | _, _, _, _, .nil, e => by simp at e
  | _, _, 0, _, .cons r _, e => by simp at e; subst e; exact ⟨_, rfl, r⟩
  | _, _, i + 1, d, .cons _ t, e => by
    obtain ⟨u, h1, h2⟩ := dps_get (i := i) (d := d) t (by simpa using e)
    exact ⟨u, by simpa using h1, h2⟩
theorem dps_getV {K : PySem.W.Frag} {H : Hp} : ∀ {vs : List V} {ds : List PyData} {i : Nat} {v : V}, DpAll K H vs ds → vs[i]? = some v → ∃ d, ds[i]? = some d ∧ Dp K H v d
  | _, _, _, _, .nil, e => by simp at e
  | _, _, 0, _, .cons r _, e => by simp at e; subst e; exact ⟨_, rfl, r⟩
  | _, _, i + 1, d, .cons _ t, e => by
    obtain ⟨u, h1, h2⟩ := dps_getV (i := i) t (by simpa using e)
    exact ⟨u, by simpa using h1, h2⟩
theorem dps_take {K : PySem.W.Frag} {H : Hp} : ∀ {vs : List V} {ds : List PyData} (n : Nat), DpAll K H vs ds → DpAll K H (vs.take n) (ds.take n)
  | _, _, 0, _ => .nil
  | _, _, _ + 1, .nil => .nil
  | _, _, n + 1, .cons r t => .cons r (dps_take n t)
theorem dps_drop {K : PySem.W.Frag} {H : Hp} : ∀ {vs : List V} {ds : List PyData} (n : Nat), DpAll K H vs ds → DpAll K H (vs.drop n) (ds.drop n)
  | _, _, 0, r => r
  | _, _, _ + 1, .nil => .nil
  | _, _, n + 1, .cons _ t => dps_drop n t
theorem dps_ints {K : PySem.W.Frag} {H : Hp} : ∀ (ns : List Int), DpAll K H (ns.map V.int) (ns.map PyData.int)
  | [] => .nil
  | n :: ns => .cons (.int n) (dps_ints ns)
theorem dps_of_ints {K : PySem.W.Frag} {H : Hp} : ∀ {vs : List V} (ns : List Int), DpAll K H vs (ns.map PyData.int) → vs = ns.map V.int
  | _, [], h => by cases h; rfl
  | _, n :: ns, h => by
    cases h with
    | cons h1 h2 =>
      cases h1
      rw [dps_of_ints ns h2]
      rfl

/-- an expression's evaluation: only new objects come -/
structure Grow (C H C' H' : Hp) : Prop where
  c : Ex C C'
  h : Ex H H'
  s : Ex C' H'
  f : ∀ a, C a = none → C' a ≠ none → H a = none
theorem Grow.refl {C H : Hp} (e : Ex C H) : Grow C H C H := ⟨Ex.refl _, Ex.refl _, e, fun a h1 h2 => absurd h1 h2⟩
theorem Grow.trans {C H C1 H1 C2 H2 : Hp} (a : Grow C H C1 H1) (b : Grow C1 H1 C2 H2) : Grow C H C2 H2 :=
  ⟨a.c.trans b.c, a.h.trans b.h, b.s, fun x h1 h2 => by
    by_cases q : C1 x = none
    · exact a.h.back (b.f x q h2)
    · exact a.f x h1 q⟩
theorem Grow.new {C H : Hp} {p : Addr} {o : HO} (e : Ex C H) (h : H p = none) : Grow C H (upd C p o) (upd H p o) :=
  ⟨Ex.new (e.back h), Ex.new h, e.both, fun a h1 h2 => by
    by_cases q : a = p
    · subst q; exact h
    · rw [upd_ne q] at h2
      exact absurd h1 h2⟩
/-- a new object that is not (yet) of the part that never changes -/
theorem Grow.newH {C H : Hp} {p : Addr} {o : HO} (e : Ex C H) (h : H p = none) : Grow C H C (upd H p o) :=
  ⟨Ex.refl _, Ex.new h, e.trans (Ex.new h), fun a h1 h2 => absurd h1 h2⟩
/-- .. and then is -/
theorem Grow.keep {C H C1 H1 : Hp} {p : Addr} {o : HO} (g : Grow C H C1 H1) (h0 : H p = none) (h : H1 p = some o) (hc : C1 p = none) : Grow C H (upd C1 p o) H1 :=
  ⟨fun a u q => by rw [upd_ne (ne_of_none (g.c a u q) hc)]; exact g.c a u q, g.h, g.s.take h, fun a h1 h2 => by
    by_cases q : a = p
    · subst q; exact h0
    · rw [upd_ne q] at h2
      exact g.f a h1 h2⟩
theorem Grow.same {C H C1 H1 : Hp} {p : Addr} {o : HO} (g : Grow C H C1 H1) (h0 : H p = some o) (hc : C p = none) : C1 p = none := by
  by_cases q : C1 p = none
  · exact q
  · have z := g.f p hc q
    rw [h0] at z
    cases z

/-! ### slots -/
/-- what a slot holds: something unknown; data that changes no more; a list of its own that may change; such a list of such lists -/
inductive SV where
  | un
  | val (d : PyData)
  | own (ds : List PyData)
  | oll (dss : List (List PyData))
abbrev DEnv := List SV
/-- lists of one's own, by their addresses -/
inductive Inner (K : PySem.W.Frag) (C H : Hp) : List Addr → List (List PyData) → Prop
  | nil : Inner K C H [] []
  | cons {a : Addr} {as : List Addr} {ds : List PyData} {dss : List (List PyData)} {vs : List V} : H a = some (.lst vs) → DpAll K C vs ds → Inner K C H as dss → Inner K C H (a :: as) (ds :: dss)
/-- fp: the addresses of what may change -/
def SlotOk (K : PySem.W.Frag) (C H : Hp) (s : SV) (o : Option (Option V)) (fp : List Addr) : Prop :=
  match s with
  | .un => fp = []
  | .val d => fp = [] ∧ ∃ v, o = some (some v) ∧ Dp K C v d
  | .own ds => ∃ a vs, fp = [a] ∧ o = some (some (.ref a)) ∧ H a = some (.lst vs) ∧ DpAll K C vs ds
  | .oll dss => ∃ a as, fp = a :: as ∧ fp.Nodup ∧ o = some (some (.ref a)) ∧ H a = some (.lst (as.map V.ref)) ∧ Inner K C H as dss
theorem Inner.there {K : PySem.W.Frag} {C H : Hp} : ∀ {as : List Addr} {dss : List (List PyData)}, Inner K C H as dss → ∀ b, b ∈ as → ∃ o, H b = some o
  | _, _, .nil, _, h => by simp at h
  | _, _, .cons h1 _ t, b, h => by
    rcases List.mem_cons.mp h with e | h
    · subst e; exact ⟨_, h1⟩
    · exact t.there b h
theorem Inner.frame {K : PySem.W.Frag} {C H C' H' : Hp} (hC : Ex C C') : ∀ {as : List Addr} {dss : List (List PyData)}, Inner K C H as dss → (∀ b, b ∈ as → H' b = H b) → Inner K C' H' as dss
  | _, _, .nil, _ => .nil
  | _, _, .cons h1 h2 t, hb => .cons (by rw [hb _ List.mem_cons_self]; exact h1) (dps_ex hC h2) (t.frame hC fun b m => hb b (List.mem_cons_of_mem _ m))
theorem Inner.len {K : PySem.W.Frag} {C H : Hp} : ∀ {as : List Addr} {dss : List (List PyData)}, Inner K C H as dss → as.length = dss.length
  | _, _, .nil => rfl
  | _, _, .cons _ _ t => congrArg (· + 1) t.len
theorem Inner.app {K : PySem.W.Frag} {C H : Hp} : ∀ {as bs : List Addr} {dss ess : List (List PyData)}, Inner K C H as dss → Inner K C H bs ess → Inner K C H (as ++ bs) (dss ++ ess)
  | _, _, _, _, .nil, s => s
  | _, _, _, _, .cons h1 h2 t, s => .cons h1 h2 (t.app s)
theorem SlotOk.there {K : PySem.W.Frag} {C H : Hp} {s : SV} {o : Option (Option V)} {fp : List Addr} (h : SlotOk K C H s o fp) : ∀ b, b ∈ fp → ∃ u, H b = some u := by
  intro b hb
  cases s with
  | un => cases (show fp = [] from h); simp at hb
  | val d => cases (show fp = [] from h.1); simp at hb
  | own ds =>
    obtain ⟨a, vs, rfl, e, h1, h2⟩ := h
    have : b = a := by simpa using hb
    subst this
    exact ⟨_, h1⟩
  | oll dss =>
    obtain ⟨a, as, rfl, _, e, h1, h2⟩ := h
    rcases List.mem_cons.mp hb with e | hb
    · subst e; exact ⟨_, h1⟩
    · exact h2.there b hb
theorem SlotOk.frame {K : PySem.W.Frag} {C H C' H' : Hp} {s : SV} {o : Option (Option V)} {fp : List Addr} (h : SlotOk K C H s o fp) (hC : Ex C C') (hb : ∀ b, b ∈ fp → H' b = H b) : SlotOk K C' H' s o fp := by
  cases s with
  | un => exact h
  | val d =>
    obtain ⟨e, v, e1, e2⟩ := h
    exact ⟨e, v, e1, dp_ex hC e2⟩
  | own ds =>
    obtain ⟨a, vs, rfl, e, h1, h2⟩ := h
    exact ⟨a, vs, rfl, e, by rw [hb a (by simp)]; exact h1, dps_ex hC h2⟩
  | oll dss =>
    obtain ⟨a, as, rfl, nd, e, h1, h2⟩ := h
    exact ⟨a, as, rfl, nd, e, by rw [hb a (by simp)]; exact h1, h2.frame hC fun b m => hb b (List.mem_cons_of_mem _ m)⟩
structure Slots (K : PySem.W.Frag) (H0 C H : Hp) (ρ : DEnv) (σ : St) : Prop where
  ex : Ex C H
  ex0 : Ex H0 H
  len : σ.length = ρ.length
  ok : ∃ fp : Nat → List Addr, (∀ (i : Nat) s, ρ[i]? = some s → SlotOk K C H s σ[i]? (fp i)) ∧ (∀ (i : Nat) b, b ∈ fp i → i < ρ.length ∧ C b = none ∧ H0 b = none) ∧ ∀ (i j : Nat) b, b ∈ fp i → b ∈ fp j → i = j
section
variable {K : PySem.W.Frag} {H0 C H C' H' : Hp} {ρ : DEnv} {σ : St}
theorem Slots.grow (h : Slots K H0 C H ρ σ) (g : Grow C H C' H') : Slots K H0 C' H' ρ σ := by
  obtain ⟨fp, h1, h2, h3⟩ := h.ok
  refine ⟨g.s, h.ex0.trans g.h, h.len, fp, fun i s e => ?_, fun i b hb => ?_, h3⟩
  · refine (h1 i s e).frame g.c fun b hb => ?_
    obtain ⟨u, hu⟩ := (h1 i s e).there b hb
    rw [hu, g.h b u hu]
  · obtain ⟨q1, q2, q3⟩ := h2 i b hb
    obtain ⟨u, hu⟩ := (h1 i _ (List.getElem?_eq_getElem q1)).there b hb
    exact ⟨q1, g.same hu q2, q3⟩
theorem Slots.val (h : Slots K H0 C H ρ σ) {i : Nat} {d : PyData} (e : ρ[i]? = some (.val d)) : ∃ v, σ[i]? = some (some v) ∧ Dp K C v d := by
  obtain ⟨fp, h1, _, _⟩ := h.ok
  exact (h1 i _ e).2
theorem Slots.own (h : Slots K H0 C H ρ σ) {i : Nat} {ds : List PyData} (e : ρ[i]? = some (.own ds)) : ∃ a vs, σ[i]? = some (some (.ref a)) ∧ H a = some (.lst vs) ∧ C a = none ∧ H0 a = none ∧ DpAll K C vs ds := by
  obtain ⟨fp, h1, h2, _⟩ := h.ok
  obtain ⟨a, vs, e1, e2, e3, e4⟩ := h1 i _ e
  obtain ⟨_, q2, q3⟩ := h2 i a (by rw [e1]; simp)
  exact ⟨a, vs, e2, e3, q2, q3, e4⟩
/-- slot i gets something else; only what it owned, and what it owns now, may be changed -/
theorem Slots.put (h : Slots K H0 C H ρ σ) (i : Nat) (s : SV) (o : Option V) (new : List Addr) (hC : Ex C C') (hCH : Ex C' H') (h0 : Ex H0 H') (hs : SlotOk K C' H' s (some o) new) (hn : ∀ b, b ∈ new → C' b = none ∧ H0 b = none)
    (hf : ∀ fp : Nat → List Addr, (∀ (i : Nat) s, ρ[i]? = some s → SlotOk K C H s σ[i]? (fp i)) → (∀ (i : Nat) b, b ∈ fp i → i < ρ.length ∧ C b = none ∧ H0 b = none) → (∀ (i j : Nat) b, b ∈ fp i → b ∈ fp j → i = j) → ∀ (j : Nat) b, j ≠ i → b ∈ fp j → H' b = H b ∧ C' b = none ∧ b ∉ new) :
    Slots K H0 C' H' (ρ.set i s) (σ.set i o) := by
  obtain ⟨fp, h1, h2, h3⟩ := h.ok
  have hf := hf fp h1 h2 h3
  by_cases hi : i < ρ.length
  · refine ⟨hCH, h0, by rw [List.length_set, List.length_set]; exact h.len, fun j => if j = i then new else fp j, fun j t e => ?_, fun j b hb => ?_, fun j k b hj hk => ?_⟩
    · show SlotOk K C' H' t _ (if j = i then new else fp j)
      by_cases q : j = i
      · subst q
        rw [List.getElem?_set_self hi] at e
        cases e
        rw [if_pos rfl, List.getElem?_set_self (by rw [h.len]; exact hi)]
        exact hs
      · rw [List.getElem?_set_ne (fun z => q z.symm)] at e ⊢
        rw [if_neg q]
        exact (h1 j t e).frame hC fun b hb => (hf j b q hb).1
    · rw [List.length_set]
      have hb : b ∈ (if j = i then new else fp j) := hb
      by_cases q : j = i
      · rw [if_pos q] at hb
        exact ⟨by rw [q]; exact hi, hn b hb⟩
      · rw [if_neg q] at hb
        exact ⟨(h2 j b hb).1, (hf j b q hb).2.1, (h2 j b hb).2.2⟩
    · have hj : b ∈ (if j = i then new else fp j) := hj
      have hk : b ∈ (if k = i then new else fp k) := hk
      by_cases qj : j = i
      · rw [if_pos qj] at hj
        by_cases qk : k = i
        · rw [qj, qk]
        · rw [if_neg qk] at hk
          exact absurd hj (hf k b qk hk).2.2
      · rw [if_neg qj] at hj
        by_cases qk : k = i
        · rw [if_pos qk] at hk
          exact absurd hk (hf j b qj hj).2.2
        · rw [if_neg qk] at hk
          exact h3 j k b hj hk
  · have e1 : ρ.set i s = ρ := List.set_eq_of_length_le (by omega)
    have e2 : σ.set i o = σ := List.set_eq_of_length_le (by rw [h.len]; omega)
    rw [e1, e2]
    have nj : ∀ (j : Nat) b, b ∈ fp j → j ≠ i := fun j b hb e => hi (by rw [← e]; exact (h2 j b hb).1)
    exact ⟨hCH, h0, h.len, fp, fun j t e => (h1 j t e).frame hC fun b hb => (hf j b (nj j b hb) hb).1, fun j b hb => ⟨(h2 j b hb).1, (hf j b (nj j b hb) hb).2.1, (h2 j b hb).2.2⟩, h3⟩
theorem Slots.setVal (h : Slots K H0 C H ρ σ) {v : V} {d : PyData} (i : Nat) (hd : Dp K C v d) : Slots K H0 C H (ρ.set i (.val d)) (σ.set i (some v)) :=
  h.put i _ _ [] (Ex.refl _) h.ex h.ex0 ⟨rfl, v, rfl, hd⟩ (by simp) fun fp _ h2 _ j b _ hb => ⟨rfl, (h2 j b hb).2.1, by simp⟩
theorem Slots.setUn (h : Slots K H0 C H ρ σ) (o : Option V) (i : Nat) : Slots K H0 C H (ρ.set i .un) (σ.set i o) :=
  h.put i _ _ [] (Ex.refl _) h.ex h.ex0 rfl (by simp) fun fp _ h2 _ j b _ hb => ⟨rfl, (h2 j b hb).2.1, by simp⟩
/-- a new list comes to a slot -/
theorem Slots.setOwn (h : Slots K H0 C H ρ σ) (g : Grow C H C' H') {a : Addr} {vs : List V} {ds : List PyData} (i : Nat) (hn : H a = none) (h2 : C' a = none) (h1 : H' a = some (.lst vs)) (h4 : DpAll K C' vs ds) : Slots K H0 C' H' (ρ.set i (.own ds)) (σ.set i (some (.ref a))) := by
  refine h.put i _ _ [a] g.c g.s (h.ex0.trans g.h) ⟨a, vs, rfl, rfl, h1, h4⟩ (fun b hb => ?_) fun fp q1 q2 q3 j b _ hb => ?_
  · have e : b = a := by simpa using hb
    subst e
    exact ⟨h2, h.ex0.back hn⟩
  · obtain ⟨z1, z2, z3⟩ := q2 j b hb
    obtain ⟨u, hu⟩ := (q1 j _ (List.getElem?_eq_getElem z1)).there b hb
    refine ⟨by rw [hu, g.h b u hu], g.same hu z2, fun hm => ?_⟩
    have e : b = a := by simpa using hm
    subst e
    rw [hn] at hu
    cases hu
/-- the list of slot i is changed -/
theorem Slots.change (h : Slots K H0 C H ρ σ) {i : Nat} {a : Addr} {ds es : List PyData} {ws : List V} (e : ρ[i]? = some (.own ds)) (ea : σ[i]? = some (some (.ref a))) (hw : DpAll K C ws es) :
    Slots K H0 C (upd H a (.lst ws)) (ρ.set i (.own es)) σ := by
  obtain ⟨a', vs, e', h1, h2, h3, h4⟩ := h.own e
  rw [ea] at e'
  cases e'
  have hi : i < σ.length := (List.getElem?_eq_some_iff.mp ea).1
  have es' : σ.set i (some (.ref a)) = σ := by
    refine List.ext_getElem? fun j => ?_
    by_cases q : i = j
    · subst q
      rw [List.getElem?_set_self hi, ea]
    · rw [List.getElem?_set_ne q]
  have z := h.put (C' := C) (H' := upd H a (.lst ws)) i (.own es) (some (.ref a)) [a] (Ex.refl _) (h.ex.mut h2) (h.ex0.mut h3) ⟨a, ws, rfl, rfl, upd_same, hw⟩ (fun b hb => by
    have e : b = a := by simpa using hb
    subst e
    exact ⟨h2, h3⟩) fun fp q1 q2 q3 j b hj hb => by
      obtain ⟨a2, vs2, f1, f2, _⟩ := q1 i _ e
      rw [ea] at f2
      cases f2
      have hne : b ≠ a := fun eb => hj (q3 j i b hb (by rw [f1, eb]; simp))
      exact ⟨upd_ne hne, (q2 j b hb).2.1, by simp [hne]⟩
  rw [es'] at z
  exact z
/-- the list of slot i changes no more -/
theorem Slots.freeze (h : Slots K H0 C H ρ σ) {i : Nat} {a : Addr} {vs : List V} {ds : List PyData} (e : ρ[i]? = some (.own ds)) (ea : σ[i]? = some (some (.ref a))) (h1 : H a = some (.lst vs)) (h4 : DpAll K C vs ds) :
    Slots K H0 (upd C a (.lst vs)) H (ρ.set i (.val (.list ds))) σ := by
  obtain ⟨a', vs', e', h1', h2, h3, h4'⟩ := h.own e
  rw [ea] at e'
  cases e'
  have hi : i < σ.length := (List.getElem?_eq_some_iff.mp ea).1
  have es' : σ.set i (some (.ref a)) = σ := by
    refine List.ext_getElem? fun j => ?_
    by_cases q : i = j
    · subst q
      rw [List.getElem?_set_self hi, ea]
    · rw [List.getElem?_set_ne q]
  have ec : Ex C (upd C a (.lst vs)) := Ex.new h2
  have z := h.put (C' := upd C a (.lst vs)) (H' := H) i (.val (.list ds)) (some (.ref a)) [] ec (h.ex.take h1) h.ex0 ⟨rfl, .ref a, rfl, .lst (SqL.of upd_same) (dps_ex ec h4)⟩ (by simp) fun fp q1 q2 q3 j b hj hb => by
      obtain ⟨a2, vs2, f1, f2, _⟩ := q1 i _ e
      rw [ea] at f2
      cases f2
      have hne : b ≠ a := fun eb => hj (q3 j i b hb (by rw [f1, eb]; simp))
      exact ⟨rfl, by rw [upd_ne hne]; exact (q2 j b hb).2.1, by simp⟩
  rw [es'] at z
  exact z
end
/-! ### lists of lists of one's own -/
theorem Inner.last {K : PySem.W.Frag} {C H : Hp} : ∀ {as : List Addr} {dss : List (List PyData)} {ds : List PyData}, Inner K C H as (dss ++ [ds]) → ∃ as' b vs, as = as' ++ [b] ∧ Inner K C H as' dss ∧ H b = some (.lst vs) ∧ DpAll K C vs ds
  | _, [], _, h => by
    cases h with
    | cons h1 h2 t =>
      cases t
      exact ⟨[], _, _, rfl, .nil, h1, h2⟩
  | _, d :: dss, ds, h => by
    cases h with
    | cons h1 h2 t =>
      obtain ⟨as', b, vs, e, i1, i2, i3⟩ := Inner.last (dss := dss) (ds := ds) t
      exact ⟨_ :: as', b, vs, by rw [e]; rfl, .cons h1 h2 i1, i2, i3⟩
/-- a part of the heap that takes these objects over -/
def adds (C H : Hp) (as : List Addr) : Hp := fun b => if b ∈ as then H b else C b
theorem adds_ex {C H : Hp} {as : List Addr} (h : ∀ b, b ∈ as → C b = none) : Ex C (adds C H as) := fun b o e => by
  unfold adds
  by_cases q : b ∈ as
  · rw [h b q] at e; cases e
  · rw [if_neg q]; exact e
theorem adds_in {C H : Hp} {as : List Addr} (e : Ex C H) : Ex (adds C H as) H := fun b o h => by
  unfold adds at h
  by_cases q : b ∈ as
  · rw [if_pos q] at h; exact h
  · rw [if_neg q] at h; exact e b o h
theorem Inner.data {K : PySem.W.Frag} {C C' H : Hp} (hC : Ex C C') : ∀ {as : List Addr} {dss : List (List PyData)}, Inner K C H as dss → (∀ b, b ∈ as → C' b = H b) → DpAll K C' (as.map V.ref) (dss.map PyData.list)
  | _, _, .nil, _ => .nil
  | _, _, .cons h1 h2 t, hb => .cons (.lst (SqL.of (by rw [hb _ List.mem_cons_self]; exact h1)) (dps_ex hC h2)) (t.data hC fun b m => hb b (List.mem_cons_of_mem _ m))
section
variable {K : PySem.W.Frag} {H0 C H C' H' : Hp} {ρ : DEnv} {σ : St}
theorem set_back {i : Nat} {v : V} (ea : σ[i]? = some (some v)) : σ.set i (some v) = σ := by
  have hi : i < σ.length := (List.getElem?_eq_some_iff.mp ea).1
  refine List.ext_getElem? fun j => ?_
  by_cases q : i = j
  · subst q
    rw [List.getElem?_set_self hi, ea]
  · rw [List.getElem?_set_ne q]
/-- what is known of a slot with a list of lists -/
theorem Slots.oll (h : Slots K H0 C H ρ σ) {i : Nat} {dss : List (List PyData)} (e : ρ[i]? = some (.oll dss)) : ∃ a as, (a :: as).Nodup ∧ σ[i]? = some (some (.ref a)) ∧ H a = some (.lst (as.map V.ref)) ∧ Inner K C H as dss ∧ (∀ b, b ∈ a :: as → C b = none ∧ H0 b = none) ∧
    ∀ fp : Nat → List Addr, (∀ (i : Nat) s, ρ[i]? = some s → SlotOk K C H s σ[i]? (fp i)) → fp i = a :: as := by
  obtain ⟨fp, h1, h2, _⟩ := h.ok
  obtain ⟨a, as, e1, nd, e2, e3, e4⟩ := h1 i _ e
  refine ⟨a, as, by rw [← e1]; exact nd, e2, e3, e4, fun b hb => (h2 i b (by rw [e1]; exact hb)).2, fun fq q1 => ?_⟩
  obtain ⟨a', as', f1, _, f2, f3, f4⟩ := q1 i _ e
  rw [e2] at f2
  cases f2
  rw [e3] at f3
  injection f3 with f3
  injection f3 with f3
  have g : as = as' := by
    have := List.map_inj_right (f := V.ref) (l := as) (l' := as') (fun x y z => by injection z)
    exact this.mp f3
  rw [f1, g]
theorem Slots.freezeL (h : Slots K H0 C H ρ σ) {i : Nat} {dss : List (List PyData)} (e : ρ[i]? = some (.oll dss)) : ∃ C', Slots K H0 C' H (ρ.set i (.val (.list (dss.map PyData.list)))) σ ∧ Ex C C' ∧ ∀ a, C a = none → C' a ≠ none → H0 a = none := by
  obtain ⟨a, as, nd, ea, h1, hI, hn, hu⟩ := h.oll e
  have ec : Ex C (adds C H (a :: as)) := adds_ex fun b hb => (hn b hb).1
  have hin : ∀ b, b ∈ a :: as → adds C H (a :: as) b = H b := fun b hb => by unfold adds; rw [if_pos hb]
  refine ⟨adds C H (a :: as), ?_, ec, fun b q1 q2 => ?_⟩
  · have z := h.put (C' := adds C H (a :: as)) (H' := H) i (.val (.list (dss.map PyData.list))) (some (.ref a)) [] ec (adds_in h.ex) h.ex0
      ⟨rfl, .ref a, rfl, .lst (SqL.of (by rw [hin a List.mem_cons_self]; exact h1)) (hI.data ec fun b m => hin b (List.mem_cons_of_mem _ m))⟩ (by simp) fun fp q1 q2 q3 j b hj hb => by
        refine ⟨rfl, ?_, by simp⟩
        have hne : b ∉ a :: as := fun hm => hj (q3 j i b hb (by rw [hu fp q1]; exact hm))
        unfold adds
        rw [if_neg hne]
        exact (q2 j b hb).2.1
    rw [set_back ea] at z
    exact z
  · by_cases q : b ∈ a :: as
    · exact (hn b q).2
    · unfold adds at q2
      rw [if_neg q] at q2
      exact absurd q1 q2
end
@[simp] def wipeE (ρ : DEnv) : List Nat → DEnv
  | [] => ρ
  | v :: vs => (wipeE ρ vs).set v .un
theorem Slots.wipe {K : PySem.W.Frag} {H0 C H : Hp} {ρ : DEnv} {σ : St} (h : Slots K H0 C H ρ σ) : ∀ vs : List Nat, Slots K H0 C H (wipeE ρ vs) (L2.wipe σ vs)
  | [] => h
  | v :: vs => (Slots.wipe h vs).setUn none v
theorem wipe_set (σ : St) (i : Nat) (o : Option V) : ∀ (vs : List Nat), i ∈ vs → L2.wipe (σ.set i o) vs = L2.wipe σ vs
  | [], h => by simp at h
  | v :: vs, h => by
    show (L2.wipe (σ.set i o) vs).set v none = (L2.wipe σ vs).set v none
    by_cases q : i ∈ vs
    · rw [wipe_set σ i o vs q]
    · have e : v = i := by
        rcases List.mem_cons.mp h with e | e
        · exact e.symm
        · exact absurd e q
      subst e
      have f : ∀ (ws : List Nat), v ∉ ws → L2.wipe (σ.set v o) ws = (L2.wipe σ ws).set v o := by
        intro ws
        induction ws with
        | nil => intro _; rfl
        | cons w ws ih =>
          intro hn
          have n1 : v ≠ w := fun z => hn (by rw [z]; exact List.mem_cons_self)
          have n2 : v ∉ ws := fun z => hn (List.mem_cons_of_mem _ z)
          show (L2.wipe (σ.set v o) ws).set w none = ((L2.wipe σ ws).set w none).set v o
          rw [ih n2, List.set_comm _ _ n1]
      rw [f vs q, List.set_set]
theorem wipe_idem (σ : St) : ∀ (vs : List Nat), L2.wipe (L2.wipe σ vs) vs = L2.wipe σ vs := by
  intro vs
  have f : ∀ (ws us : List Nat) (τ : St), (∀ x ∈ ws, x ∈ us) → L2.wipe (L2.wipe τ ws) us = L2.wipe τ us := by
    intro ws
    induction ws with
    | nil => intro us τ _; rfl
    | cons w ws ih =>
      intro us τ h
      show L2.wipe ((L2.wipe τ ws).set w none) us = L2.wipe τ us
      rw [wipe_set _ w none us (h w List.mem_cons_self), ih us τ fun x hx => h x (List.mem_cons_of_mem _ hx)]
  exact f vs vs σ fun _ h => h
end DL

set_option Elab.async false
set_option linter.all false
set_option maxRecDepth 100000
set_option maxHeartbeats 4000000
namespace DL
open PySem L2

/-! ### what an expression gives: clean data, data that may be read now, a new list -/
abbrev Den := DEnv → Option PyData
def ExD (K : PySem.W.Frag) (t : TE) (f : Den) : Prop := ∀ H0 C H ρ σ d, Slots K H0 C H ρ σ → f ρ = some d → ∀ Q : VK, (∀ C' H' v, Grow C H C' H' → Dp K C' v d → Q v H') → t σ H Q
def ExR (K : PySem.W.Frag) (t : TE) (f : Den) : Prop := ∀ H0 C H ρ σ d, Slots K H0 C H ρ σ → f ρ = some d → ∀ Q : VK, (∀ C' H' v, Grow C H C' H' → Dp K H' v d → Q v H') → t σ H Q
def ExN (K : PySem.W.Frag) (t : TE) (f : DEnv → Option (List PyData)) : Prop := ∀ H0 C H ρ σ ds, Slots K H0 C H ρ σ → f ρ = some ds → ∀ Q : VK,
  (∀ C' H' a vs, Grow C H C' H' → H a = none → C' a = none → H' a = some (.lst vs) → DpAll K C' vs ds → Q (.ref a) H') → t σ H Q
def TsD (K : PySem.W.Frag) (t : TT) (f : DEnv → Option Bool) : Prop := ∀ H0 C H ρ σ b, Slots K H0 C H ρ σ → f ρ = some b → ∀ Q : Bool → Hp → Prop, (∀ C' H', Grow C H C' H' → Q b H') → t σ H Q
def ArD (K : PySem.W.Frag) (t : TA) (f : DEnv → Option (List PyData)) : Prop := ∀ H0 C H ρ σ ds, Slots K H0 C H ρ σ → f ρ = some ds → ∀ Q : List V → Hp → Prop, (∀ C' H' vs, Grow C H C' H' → DpAll K C' vs ds → Q vs H') → t σ H Q
def ArR (K : PySem.W.Frag) (t : TA) (f : DEnv → Option (List PyData)) : Prop := ∀ H0 C H ρ σ ds, Slots K H0 C H ρ σ → f ρ = some ds → ∀ Q : List V → Hp → Prop, (∀ C' H' vs, Grow C H C' H' → DpAll K H' vs ds → Q vs H') → t σ H Q

def PD (X : Cx) (e : Expr) (f : Den) : Prop := ∃ t : TE, PE X e t ∧ ExD X.K t f
noncomputable def PD.rdg {X : Cx} {e : Expr} {f : Den} (h : PD X e f) : TE := Classical.choose h
theorem PD.pe {X : Cx} {e : Expr} {f : Den} (h : PD X e f) : PE X e h.rdg := (Classical.choose_spec h).1
theorem PD.ex {X : Cx} {e : Expr} {f : Den} (h : PD X e f) : ExD X.K h.rdg f := (Classical.choose_spec h).2
def PR (X : Cx) (e : Expr) (f : Den) : Prop := ∃ t : TE, PE X e t ∧ ExR X.K t f
noncomputable def PR.rdg {X : Cx} {e : Expr} {f : Den} (h : PR X e f) : TE := Classical.choose h
theorem PR.pe {X : Cx} {e : Expr} {f : Den} (h : PR X e f) : PE X e h.rdg := (Classical.choose_spec h).1
theorem PR.ex {X : Cx} {e : Expr} {f : Den} (h : PR X e f) : ExR X.K h.rdg f := (Classical.choose_spec h).2
def PN (X : Cx) (e : Expr) (f : DEnv → Option (List PyData)) : Prop := ∃ t : TE, PE X e t ∧ ExN X.K t f
noncomputable def PN.rdg {X : Cx} {e : Expr} {f : DEnv → Option (List PyData)} (h : PN X e f) : TE := Classical.choose h
theorem PN.pe {X : Cx} {e : Expr} {f : DEnv → Option (List PyData)} (h : PN X e f) : PE X e h.rdg := (Classical.choose_spec h).1
theorem PN.ex {X : Cx} {e : Expr} {f : DEnv → Option (List PyData)} (h : PN X e f) : ExN X.K h.rdg f := (Classical.choose_spec h).2
def PTd (X : Cx) (e : Expr) (f : DEnv → Option Bool) : Prop := ∃ t : TT, PT X e t ∧ TsD X.K t f
noncomputable def PTd.rdg {X : Cx} {e : Expr} {f : DEnv → Option Bool} (h : PTd X e f) : TT := Classical.choose h
theorem PTd.pt {X : Cx} {e : Expr} {f : DEnv → Option Bool} (h : PTd X e f) : PT X e h.rdg := (Classical.choose_spec h).1
theorem PTd.ex {X : Cx} {e : Expr} {f : DEnv → Option Bool} (h : PTd X e f) : TsD X.K h.rdg f := (Classical.choose_spec h).2
def PWd (X : Cx) (e : Expr) (f : DEnv → Option Bool) : Prop := ∃ t : TT, PW X e t ∧ TsD X.K t f
noncomputable def PWd.rdg {X : Cx} {e : Expr} {f : DEnv → Option Bool} (h : PWd X e f) : TT := Classical.choose h
theorem PWd.pw {X : Cx} {e : Expr} {f : DEnv → Option Bool} (h : PWd X e f) : PW X e h.rdg := (Classical.choose_spec h).1
theorem PWd.ex {X : Cx} {e : Expr} {f : DEnv → Option Bool} (h : PWd X e f) : TsD X.K h.rdg f := (Classical.choose_spec h).2
def PAd (X : Cx) (es : List Expr) (f : DEnv → Option (List PyData)) : Prop := ∃ t : TA, PA X es t ∧ ArD X.K t f
noncomputable def PAd.rdg {X : Cx} {es : List Expr} {f : DEnv → Option (List PyData)} (h : PAd X es f) : TA := Classical.choose h
theorem PAd.pa {X : Cx} {es : List Expr} {f : DEnv → Option (List PyData)} (h : PAd X es f) : PA X es h.rdg := (Classical.choose_spec h).1
theorem PAd.ex {X : Cx} {es : List Expr} {f : DEnv → Option (List PyData)} (h : PAd X es f) : ArD X.K h.rdg f := (Classical.choose_spec h).2
def PAr (X : Cx) (es : List Expr) (f : DEnv → Option (List PyData)) : Prop := ∃ t : TA, PA X es t ∧ ArR X.K t f
noncomputable def PAr.rdg {X : Cx} {es : List Expr} {f : DEnv → Option (List PyData)} (h : PAr X es f) : TA := Classical.choose h
theorem PAr.pa {X : Cx} {es : List Expr} {f : DEnv → Option (List PyData)} (h : PAr X es f) : PA X es h.rdg := (Classical.choose_spec h).1
theorem PAr.ex {X : Cx} {es : List Expr} {f : DEnv → Option (List PyData)} (h : PAr X es f) : ArR X.K h.rdg f := (Classical.choose_spec h).2

@[simp] def lstD (f : DEnv → Option (List PyData)) : Den := fun ρ => (f ρ).map PyData.list
section
variable {X : Cx} {e a b c : Expr} {es : List Expr} {pos : Pos} {t ta tb tc : TE} {f fa fb fc : Den} {g : PyData → PyData → Option PyData} {r : R2}

theorem exd_rd {K : PySem.W.Frag} {t : TE} (h : ExD K t f) : ExR K t f := fun H0 C H ρ σ d S e Q q => h H0 C H ρ σ d S e Q fun C' H' v G hd => q C' H' v G (dp_ex G.s hd)
theorem PD.rd (h : PD X e f) : PR X e f := ⟨_, h.pe, fun H0 C H ρ σ d S e Q q => h.ex H0 C H ρ σ d S e Q fun C' H' v G hd => q C' H' v G (dp_ex G.s hd)⟩
theorem exn_d {K : PySem.W.Frag} {t : TE} {f : DEnv → Option (List PyData)} (h : ExN K t f) : ExD K t (lstD f) := fun H0 C H ρ σ d S e Q q => by
  unfold lstD at e
  cases e1 : f ρ with
  | none => rw [e1] at e; cases e
  | some ds =>
    rw [e1] at e
    cases e
    refine h H0 C H ρ σ ds S e1 Q fun C' H' a vs G h0 hc hh hd => ?_
    exact q (upd C' a (.lst vs)) H' (.ref a) (G.keep h0 hh hc) (.lst (SqL.of upd_same) (dps_ex (Ex.new hc) hd))
theorem PN.d {f : DEnv → Option (List PyData)} (h : PN X e f) : PD X e (lstD f) := ⟨_, h.pe, exn_d h.ex⟩

/-! names, constants -/
@[simp] def eV (i : Nat) : Den := fun ρ => match ρ[i]? with
  | some (.val d) => some d
  | _ => none
@[simp] def eR (i : Nat) : Den := fun ρ => match ρ[i]? with
  | some (.val d) => some d
  | some (.own ds) => some (.list ds)
  | _ => none
@[simp] def eC (d : PyData) : Den := fun _ => some d
theorem exd_var (K : PySem.W.Frag) (i : Nat) : ExD K (tVar i) (eV i) := fun H0 C H ρ σ d S e Q q => by
  unfold eV at e
  split at e
  · rename_i d' h
    cases e
    obtain ⟨v, h1, h2⟩ := S.val h
    exact ⟨v, h1, q C H v (Grow.refl S.ex) h2⟩
  · cases e
theorem exr_var (K : PySem.W.Frag) (i : Nat) : ExR K (tVar i) (eR i) := fun H0 C H ρ σ d S e Q q => by
  unfold eR at e
  split at e
  · rename_i d' h
    cases e
    obtain ⟨v, h1, h2⟩ := S.val h
    exact ⟨v, h1, q C H v (Grow.refl S.ex) (dp_ex S.ex h2)⟩
  · rename_i ds h
    cases e
    obtain ⟨a, vs, h1, h2, _, _, h5⟩ := S.own h
    exact ⟨.ref a, h1, q C H _ (Grow.refl S.ex) (.lst (SqL.of h2) (dps_ex S.ex h5))⟩
  · cases e
theorem pd_v (i : Nat) {x : Str} {pos : Pos} (hN : X.N[i]? = some x := by rfl) (hv : Vis X.env.scope x := by first | exact Or.inl rfl | exact Or.inr (Or.inl rfl) | exact Or.inr (Or.inr rfl)) (hd : (x == ("__debug__" : Str)) = false := by decide)
    (hcd : (x == ("__classdict__" : Str)) = false := by decide) : PD X (.Name x pos) (eV i) := ⟨_, pe_var hN hv hd hcd, exd_var X.K i⟩
theorem pr_v (i : Nat) {x : Str} {pos : Pos} (hN : X.N[i]? = some x := by rfl) (hv : Vis X.env.scope x := by first | exact Or.inl rfl | exact Or.inr (Or.inl rfl) | exact Or.inr (Or.inr rfl)) (hd : (x == ("__debug__" : Str)) = false := by decide)
    (hcd : (x == ("__classdict__" : Str)) = false := by decide) : PR X (.Name x pos) (eR i) := ⟨_, pe_var hN hv hd hcd, exr_var X.K i⟩
theorem exd_c {K : PySem.W.Frag} {v : V} {d : PyData} (h : ∀ C, Dp K C v d) : ExD K (tC v) (eC d) := fun H0 C H ρ σ d' S e Q q => by
  cases e
  exact q C H v (Grow.refl S.ex) (h C)
theorem pd_int {i : Int} {j} : PD X (.Constant (.int i) j pos) (eC (.int i)) := ⟨_, pe_int, exd_c fun _ => .int i⟩
theorem pd_bl {b : Bool} {j} : PD X (.Constant (.bool b) j pos) (eC (.bool b)) := ⟨_, pe_bl, exd_c fun _ => .bl b⟩
theorem pd_non {j} : PD X (.Constant .none j pos) (eC .none) := ⟨_, pe_non, exd_c fun _ => .non⟩
theorem pd_str {x : Str} {j} : PD X (.Constant (.str x) j pos) (eC (.str x)) := ⟨_, pe_str, exd_c fun _ => .str x⟩

/-! two-place operations on clean data -/
@[simp] def e2 (g : PyData → PyData → Option PyData) (fa fb : Den) : Den := fun ρ => match fa ρ, fb ρ with
  | some d, some e => g d e
  | _, _ => none
theorem e2_some {ρ : DEnv} {z : PyData} (h : e2 g fa fb ρ = some z) : ∃ d e, fa ρ = some d ∧ fb ρ = some e ∧ g d e = some z := by
  unfold e2 at h
  split at h
  · rename_i d e h1 h2
    exact ⟨d, e, h1, h2, h⟩
  · cases h
def R2D (K : PySem.W.Frag) (r : R2) (g : PyData → PyData → Option PyData) : Prop := ∀ C H x y d e z, Ex C H → Dp K C x d → Dp K C y e → g d e = some z → ∀ Q : VK, (∀ C' H' v, Grow C H C' H' → Dp K C' v z → Q v H') → r x y H Q
/-- the answer is flat -/
def R2R (K : PySem.W.Frag) (r : R2) (g : PyData → PyData → Option PyData) : Prop := ∀ H x y d e z, Dp K H x d → Dp K H y e → g d e = some z → ∀ Q : VK, (∀ v, (∀ C, Dp K C v z) → Q v H) → r x y H Q
theorem exd_op {K : PySem.W.Frag} (hr : R2D K r g) (ha : ExD K ta fa) (hb : ExD K tb fb) : ExD K (tOp r ta tb) (e2 g fa fb) := fun H0 C H ρ σ z S h Q q => by
  obtain ⟨d, e, h1, h2, h3⟩ := e2_some h
  refine ha H0 C H ρ σ d S h1 _ fun C1 H1 v1 G1 D1 => ?_
  refine hb H0 C1 H1 ρ σ e (S.grow G1) h2 _ fun C2 H2 v2 G2 D2 => ?_
  refine hr C2 H2 v1 v2 d e z G2.s (dp_ex G2.c D1) D2 h3 Q fun C3 H3 v3 G3 D3 => ?_
  exact q C3 H3 v3 ((G1.trans G2).trans G3) D3
theorem exd_opR {K : PySem.W.Frag} (hr : R2R K r g) (ha : ExR K ta fa) (hb : ExR K tb fb) : ExD K (tOp r ta tb) (e2 g fa fb) := fun H0 C H ρ σ z S h Q q => by
  obtain ⟨d, e, h1, h2, h3⟩ := e2_some h
  refine ha H0 C H ρ σ d S h1 _ fun C1 H1 v1 G1 D1 => ?_
  refine hb H0 C1 H1 ρ σ e (S.grow G1) h2 _ fun C2 H2 v2 G2 D2 => ?_
  refine hr H2 v1 v2 d e z (dp_ex G2.h D1) D2 h3 Q fun v3 D3 => ?_
  exact q C2 H2 v3 (G1.trans G2) (D3 C2)
theorem pd_op {op : Operator} (ho : OpR X (binaryOp op) r) (hr : R2R X.K r g) (ha : PD X a fa) (hb : PD X b fb) : PD X (.BinOp a op b pos) (e2 g fa fb) := ⟨_, pe_op ho ha.pe hb.pe, exd_opR hr (exd_rd ha.ex) (exd_rd hb.ex)⟩
theorem pd_opD {op : Operator} (ho : OpR X (binaryOp op) r) (hr : R2D X.K r g) (ha : PD X a fa) (hb : PD X b fb) : PD X (.BinOp a op b pos) (e2 g fa fb) := ⟨_, pe_op ho ha.pe hb.pe, exd_op hr ha.ex hb.ex⟩
theorem pd_cmp {op : CmpOp} (ho : OpR X (compareOp op) r) (hr : R2R X.K r g) (ha : PR X a fa) (hb : PR X b fb) (hm : behindInMarks op b = false) : PD X (.Compare a [op] [b] pos) (e2 g fa fb) := ⟨_, pe_cmpR ho ha.pe hb.pe hm, exd_opR hr ha.ex hb.ex⟩
/-- a truth value as a test -/
@[simp] def tst (f : Den) : DEnv → Option Bool := fun ρ => match f ρ with
  | some (.bool b) => some b
  | _ => none
theorem tst_some {ρ : DEnv} {k : Bool} (h : tst f ρ = some k) : f ρ = some (.bool k) := by
  unfold tst at h
  split at h
  · rename_i b hb
    cases h
    exact hb
  · cases h
theorem tsd_test {K : PySem.W.Frag} (h : ExD K t f) : TsD K (tTest t) (tst f) := fun H0 C H ρ σ k S e Q q => by
  refine h H0 C H ρ σ _ S (tst_some e) _ fun C' H' v G D => ?_
  cases D
  exact ⟨k, rfl, q C' H' G⟩
theorem tsd_tB {K : PySem.W.Frag} (h : ExD K t f) : TsD K (tB t) (tst f) := fun H0 C H ρ σ k S e Q q => by
  refine h H0 C H ρ σ _ S (tst_some e) _ fun C' H' v G D => ?_
  cases D
  exact ⟨k, rfl, q C' H' G⟩
theorem pt_cmpd {op : CmpOp} (ho : OpR X (compareOp op) r) (hr : R2R X.K r g) (ha : PR X a fa) (hb : PR X b fb) (hm : behindInMarks op b = false) : PTd X (.Compare a [op] [b] pos) (tst (e2 g fa fb)) :=
  ⟨_, pt_cmpR ho ha.pe hb.pe hm, tsd_test (exd_opR hr ha.ex hb.ex)⟩
theorem pt_vald (h : PD X e f) (he : ∀ whole, isTrue e X.env whole = (do let v ← whole; standAt e.pos; holding [v] (truthy v)) := by intro _; rfl) : PTd X e (tst f) := ⟨_, pt_val h.pe he, tsd_tB h.ex⟩

/-! tests joined -/
@[simp] def bAnd (f g : DEnv → Option Bool) : DEnv → Option Bool := fun ρ => match f ρ with
  | some true => g ρ
  | some false => some false
  | none => none
@[simp] def bOr (f g : DEnv → Option Bool) : DEnv → Option Bool := fun ρ => match f ρ with
  | some true => some true
  | some false => g ρ
  | none => none
@[simp] def bNot (f : DEnv → Option Bool) : DEnv → Option Bool := fun ρ => (f ρ).map (!·)
variable {p q : DEnv → Option Bool} {tp tq : TT}
theorem tsd_and {K : PySem.W.Frag} (h1 : TsD K tp p) (h2 : TsD K tq q) : TsD K (tAnd tp tq) (bAnd p q) := fun H0 C H ρ σ k S e Q z => by
  unfold bAnd at e
  cases e1 : p ρ with
  | none => rw [e1] at e; cases e
  | some c =>
    rw [e1] at e
    refine h1 H0 C H ρ σ c S e1 _ fun C1 H1 G1 => ?_
    cases c with
    | true =>
      have e' : q ρ = some k := e
      exact h2 H0 C1 H1 ρ σ k (S.grow G1) e' Q fun C2 H2 G2 => z C2 H2 (G1.trans G2)
    | false =>
      cases e
      exact z C1 H1 G1
theorem tsd_or {K : PySem.W.Frag} (h1 : TsD K tp p) (h2 : TsD K tq q) : TsD K (tOr tp tq) (bOr p q) := fun H0 C H ρ σ k S e Q z => by
  unfold bOr at e
  cases e1 : p ρ with
  | none => rw [e1] at e; cases e
  | some c =>
    rw [e1] at e
    refine h1 H0 C H ρ σ c S e1 _ fun C1 H1 G1 => ?_
    cases c with
    | false =>
      have e' : q ρ = some k := e
      exact h2 H0 C1 H1 ρ σ k (S.grow G1) e' Q fun C2 H2 G2 => z C2 H2 (G1.trans G2)
    | true =>
      cases e
      exact z C1 H1 G1
theorem tsd_not {K : PySem.W.Frag} (h1 : TsD K tp p) : TsD K (tNot tp) (bNot p) := fun H0 C H ρ σ k S e Q z => by
  unfold bNot at e
  cases e1 : p ρ with
  | none => rw [e1] at e; cases e
  | some c =>
    rw [e1] at e
    cases e
    exact h1 H0 C H ρ σ c S e1 _ fun C1 H1 G1 => z C1 H1 G1
theorem PWd.test (h : PWd X e p) : PTd X e p := ⟨_, h.pw.pt, h.ex⟩
theorem pw_and1d (h : PTd X a p) : PWd X (.BoolOp .And [a] pos) p := ⟨_, pw_and1 h.pt, h.ex⟩
theorem pw_or1d (h : PTd X a p) : PWd X (.BoolOp .Or [a] pos) p := ⟨_, pw_or1 h.pt, h.ex⟩
theorem pw_andd {rest : List Expr} (h : PTd X a p) (h2 : PWd X (.BoolOp .And (b :: rest) pos) q) : PWd X (.BoolOp .And (a :: b :: rest) pos) (bAnd p q) := ⟨_, pw_and h.pt h2.pw, tsd_and h.ex h2.ex⟩
theorem pw_ord {rest : List Expr} (h : PTd X a p) (h2 : PWd X (.BoolOp .Or (b :: rest) pos) q) : PWd X (.BoolOp .Or (a :: b :: rest) pos) (bOr p q) := ⟨_, pw_or h.pt h2.pw, tsd_or h.ex h2.ex⟩
theorem pt_notd (h : PTd X a p) : PTd X (.UnaryOp .Not a pos) (bNot p) := ⟨_, pt_not h.pt, tsd_not h.ex⟩
/-- as values, of truth values -/
@[simp] def vAnd (f g : Den) : Den := fun ρ => match f ρ with
  | some (.bool true) => g ρ
  | some (.bool false) => some (.bool false)
  | _ => none
@[simp] def vOr (f g : Den) : Den := fun ρ => match f ρ with
  | some (.bool true) => some (.bool true)
  | some (.bool false) => g ρ
  | _ => none
@[simp] def vNot (f : Den) : Den := fun ρ => match f ρ with
  | some (.bool b) => some (.bool (!b))
  | _ => none
theorem exd_and {K : PySem.W.Frag} (h1 : ExD K ta fa) (h2 : ExD K tb fb) : ExD K (tAndV ta tb) (vAnd fa fb) := fun H0 C H ρ σ k S e Q z => by
  unfold vAnd at e
  split at e
  · rename_i e1
    refine h1 H0 C H ρ σ _ S e1 _ fun C1 H1 v G1 D => ?_
    cases D
    exact ⟨true, rfl, h2 H0 C1 H1 ρ σ k (S.grow G1) e Q fun C2 H2 v2 G2 D2 => z C2 H2 v2 (G1.trans G2) D2⟩
  · rename_i e1
    cases e
    refine h1 H0 C H ρ σ _ S e1 _ fun C1 H1 v G1 D => ?_
    cases D
    exact ⟨false, rfl, z C1 H1 _ G1 (.bl false)⟩
  · cases e
theorem exd_or {K : PySem.W.Frag} (h1 : ExD K ta fa) (h2 : ExD K tb fb) : ExD K (tOrV ta tb) (vOr fa fb) := fun H0 C H ρ σ k S e Q z => by
  unfold vOr at e
  split at e
  · rename_i e1
    cases e
    refine h1 H0 C H ρ σ _ S e1 _ fun C1 H1 v G1 D => ?_
    cases D
    exact ⟨true, rfl, z C1 H1 _ G1 (.bl true)⟩
  · rename_i e1
    refine h1 H0 C H ρ σ _ S e1 _ fun C1 H1 v G1 D => ?_
    cases D
    exact ⟨false, rfl, h2 H0 C1 H1 ρ σ k (S.grow G1) e Q fun C2 H2 v2 G2 D2 => z C2 H2 v2 (G1.trans G2) D2⟩
  · cases e
theorem exd_not {K : PySem.W.Frag} (h1 : ExD K ta fa) : ExD K (tNotV ta) (vNot fa) := fun H0 C H ρ σ k S e Q z => by
  unfold vNot at e
  split at e
  · rename_i b e1
    cases e
    refine h1 H0 C H ρ σ _ S e1 _ fun C1 H1 v G1 D => ?_
    cases D
    exact ⟨b, rfl, z C1 H1 _ G1 (.bl _)⟩
  · cases e
theorem pd_one {op} (h : PD X a f) : PD X (.BoolOp op [a] pos) f := ⟨_, pe_one h.pe, h.ex⟩
theorem pd_and {rest : List Expr} (h : PD X a fa) (h2 : PD X (.BoolOp .And (b :: rest) pos) fb) : PD X (.BoolOp .And (a :: b :: rest) pos) (vAnd fa fb) := ⟨_, pe_and h.pe h2.pe, exd_and h.ex h2.ex⟩
theorem pd_or {rest : List Expr} (h : PD X a fa) (h2 : PD X (.BoolOp .Or (b :: rest) pos) fb) : PD X (.BoolOp .Or (a :: b :: rest) pos) (vOr fa fb) := ⟨_, pe_or h.pe h2.pe, exd_or h.ex h2.ex⟩
theorem pd_not (h : PD X a fa) : PD X (.UnaryOp .Not a pos) (vNot fa) := ⟨_, pe_not h.pe, exd_not h.ex⟩
@[simp] def eIf (p : DEnv → Option Bool) (fa fb : Den) : Den := fun ρ => match p ρ with
  | some true => fa ρ
  | some false => fb ρ
  | none => none
theorem pd_if (h : PTd X c p) (ha : PD X a fa) (hb : PD X b fb) : PD X (.IfExp c a b pos) (eIf p fa fb) := ⟨_, pe_ifExp h.pt ha.pe hb.pe, fun H0 C H ρ σ k S e Q z => by
  unfold eIf at e
  cases e1 : p ρ with
  | none => rw [e1] at e; cases e
  | some c =>
    rw [e1] at e
    refine h.ex H0 C H ρ σ c S e1 _ fun C1 H1 G1 => ?_
    cases c with
    | true => exact ha.ex H0 C1 H1 ρ σ k (S.grow G1) e Q fun C2 H2 v2 G2 D2 => z C2 H2 v2 (G1.trans G2) D2
    | false => exact hb.ex H0 C1 H1 ρ σ k (S.grow G1) e Q fun C2 H2 v2 G2 D2 => z C2 H2 v2 (G1.trans G2) D2⟩

/-! argument lists, displays -/
@[simp] def aNil : DEnv → Option (List PyData) := fun _ => some []
@[simp] def aCons (f : Den) (g : DEnv → Option (List PyData)) : DEnv → Option (List PyData) := fun ρ => match f ρ, g ρ with
  | some d, some ds => some (d :: ds)
  | _, _ => none
theorem aCons_some {f : Den} {g : DEnv → Option (List PyData)} {ρ : DEnv} {zs : List PyData} (h : aCons f g ρ = some zs) : ∃ d ds, f ρ = some d ∧ g ρ = some ds ∧ zs = d :: ds := by
  unfold aCons at h
  split at h
  · rename_i d ds h1 h2
    cases h
    exact ⟨d, ds, h1, h2, rfl⟩
  · cases h
variable {u : TA} {fs : DEnv → Option (List PyData)}
theorem pa_nild : PAd X [] aNil := ⟨_, pa_nil, fun H0 C H ρ σ ds S e Q q => by
  cases e
  exact q C H [] (Grow.refl S.ex) .nil⟩
theorem pa_consd (h : PD X e f) (hr : PAd X es fs) (hs : starEach (e :: es) X.env = (false, eval e X.env) :: starEach es X.env := by rfl) : PAd X (e :: es) (aCons f fs) := ⟨_, pa_cons h.pe hr.pa hs, fun H0 C H ρ σ zs S e Q q => by
  obtain ⟨d, ds, h1, h2, rfl⟩ := aCons_some e
  refine h.ex H0 C H ρ σ d S h1 _ fun C1 H1 v1 G1 D1 => ?_
  refine hr.ex H0 C1 H1 ρ σ ds (S.grow G1) h2 _ fun C2 H2 vs G2 D2 => ?_
  exact q C2 H2 (v1 :: vs) (G1.trans G2) (.cons (dp_ex G2.c D1) D2)⟩
theorem pa_nilr : PAr X [] aNil := ⟨_, pa_nil, fun H0 C H ρ σ ds S e Q q => by
  cases e
  exact q C H [] (Grow.refl S.ex) .nil⟩
theorem pa_consr (h : PR X e f) (hr : PAr X es fs) (hs : starEach (e :: es) X.env = (false, eval e X.env) :: starEach es X.env := by rfl) : PAr X (e :: es) (aCons f fs) := ⟨_, pa_cons h.pe hr.pa hs, fun H0 C H ρ σ zs S e Q q => by
  obtain ⟨d, ds, h1, h2, rfl⟩ := aCons_some e
  refine h.ex H0 C H ρ σ d S h1 _ fun C1 H1 v1 G1 D1 => ?_
  refine hr.ex H0 C1 H1 ρ σ ds (S.grow G1) h2 _ fun C2 H2 vs G2 D2 => ?_
  exact q C2 H2 (v1 :: vs) (G1.trans G2) (.cons (dp_ex G2.h D1) D2)⟩
theorem PAd.rd (h : PAd X es fs) : PAr X es fs := ⟨_, h.pa, fun H0 C H ρ σ ds S e Q q => h.ex H0 C H ρ σ ds S e Q fun C' H' vs G hd => q C' H' vs G (dps_ex G.s hd)⟩
/-- lists and tuples that the layer makes have at most so many items -/
@[simp] def most : Nat := 1000000
theorem most_line {n : Nat} (h : n ≤ most) : n ≤ sizeLine := Nat.le_trans h (by decide)
theorem most_lt {n : Nat} (h : n ≤ most) : n < sizeLine := Nat.lt_of_le_of_lt h (by decide)
@[simp] def few (f : DEnv → Option (List PyData)) : DEnv → Option (List PyData) := fun ρ => match f ρ with
  | some ds => if ds.length ≤ most then some ds else none
  | none => none
theorem few_some {f : DEnv → Option (List PyData)} {ρ : DEnv} {ds : List PyData} (h : few f ρ = some ds) : f ρ = some ds ∧ ds.length ≤ most := by
  unfold few at h
  split at h
  · rename_i es e
    split at h
    · rename_i hl
      cases h
      exact ⟨e, hl⟩
    · cases h
  · cases h
@[simp] def tupD (f : DEnv → Option (List PyData)) : Den := fun ρ => (few f ρ).map PyData.tuple
theorem map_some' {α β : Type} {f : α → β} {o : Option α} {b : β} (h : o.map f = some b) : ∃ a, o = some a ∧ f a = b := by
  cases o with
  | none => cases h
  | some a => exact ⟨a, rfl, Option.some.inj h⟩
theorem pd_tup {x1} (h : PAd X es fs) : PD X (.Tuple es x1 pos) (tupD fs) := ⟨_, pe_tup h.pa, fun H0 C H ρ σ z S e Q q => by
  obtain ⟨ds, e1, rfl⟩ := map_some' e
  obtain ⟨e2, hl⟩ := few_some e1
  refine h.ex H0 C H ρ σ ds S e2 _ fun C1 H1 vs G1 D1 => ?_
  refine ⟨most_line (by rw [dps_len D1]; exact hl), fun p hp => ?_⟩
  have n := Grow.new (o := .tup vs) G1.s hp
  exact q _ _ _ (G1.trans n) (.tup (SqT.of upd_same) (dps_ex n.c D1))⟩
theorem pn_lst (h : PAd X es fs) : PN X (.List es pos) (few fs) := ⟨_, pe_lst h.pa, fun H0 C H ρ σ ds S e Q q => by
  obtain ⟨e2, hl⟩ := few_some e
  refine h.ex H0 C H ρ σ ds S e2 _ fun C1 H1 vs G1 D1 => ?_
  refine ⟨most_line (by rw [dps_len D1]; exact hl), fun p hp => ?_⟩
  have n := Grow.newH (o := .lst vs) G1.s hp
  exact q C1 _ p vs (G1.trans n) (G1.h.back hp) (G1.s.back hp) upd_same D1⟩
end
end DL

set_option Elab.async false
set_option linter.all false
set_option maxRecDepth 100000
set_option maxHeartbeats 4000000
namespace DL
open PySem L2 PySem.Spec PyProof.Rows

theorem opr_or {X : Cx} {f : Value → Value → Sem Value} {r r' : R2} (h : OpR X f r) (h' : OpR X f r') : OpR X f (fun x y H Q => r x y H Q ∨ r' x y H Q) := by
  intro pins s σ H x y v u Q I rx ry q
  rcases q with q | q
  · exact h pins s σ H x y v u Q I rx ry q
  · exact h' pins s σ H x y v u Q I rx ry q

/-! ### list + list -/
def rCatL (K : PySem.W.Frag) : R2 := fun x y H Q => ∃ l b xs zs, x = .ref l ∧ y = .ref b ∧ SqL K H l xs ∧ SqL K H b zs ∧ xs.length + zs.length ≤ sizeLine ∧ ∀ p, H p = none → Q (.ref p) (upd H p (.lst (xs ++ zs)))
theorem op_catL {X : Cx} : OpR X (binaryOp .Add) (rCatL X.K) := by
  intro pins s σ H x y v u Q I rx ry h
  obtain ⟨l, b, xs, zs, rfl, rfl, hH, hB, hz, q⟩ := h
  cases rx
  cases ry
  obtain ⟨its, r, pl, hl⟩ := I.list hH
  obtain ⟨its2, r2, pl2, hl2⟩ := I.list hB
  obtain ⟨⟨cls, dd, data, sl⟩, n, ho, hc, _, hd⟩ := pl
  obtain ⟨⟨cls2, dd2, data2, sl2⟩, n2, ho2, hc2, _, hd2⟩ := pl2
  simp only at hc hd hc2 hd2
  subst hc hd hc2 hd2
  have e : its.toArray ++ its2.toArray = (its ++ its2).toArray := by simp
  have e1 := r.length
  have e2 := r2.length
  refine concat_meets ⟨_, ho, rfl⟩ ⟨_, ho2, rfl⟩ noFill_list_add seq_list_add PySem.F.slot_list_add PySem.F.entry_list_add (PySem.F.args_list_add_2 _ _) (list_addW l b its.toArray its2.toArray n n2 dd dd2 sl sl2 (by rw [List.size_toArray, List.size_toArray]; omega)) ⟨ho, ho2, ?_⟩
  rw [e]
  exact ⟨.ref _, _, I.lnew (t' := s.toks) (r.append r2) (by rw [List.length_append]; omega), rfl, q _ I.fresh⟩

/-! ### operators -/
/-- ints -/
@[simp] def gI (f : Int → Int → Int) : PyData → PyData → Option PyData := fun d e => match d, e with
  | .int i, .int j => some (.int (f i j))
  | _, _ => none
/-- ints, where the test says so -/
@[simp] def gIc (c : Int → Int → Bool) (f : Int → Int → Int) : PyData → PyData → Option PyData := fun d e => match d, e with
  | .int i, .int j => if c i j = true then some (.int (f i j)) else none
  | _, _ => none
@[simp] def gAdd : PyData → PyData → Option PyData := fun d e => match d, e with
  | .int i, .int j => some (.int (i + j))
  | .list xs, .list ys => if xs.length + ys.length ≤ most then some (.list (xs ++ ys)) else none
  | _, _ => none
@[simp] def cMul (i j : Int) : Bool := decide ((-(2 ^ 64) < i ∧ i < 2 ^ 64) ∨ (-(2 ^ 64) < j ∧ j < 2 ^ 64))
theorem cMul_ok {i j : Int} (h : cMul i j = true) : CMul i j := of_decide_eq_true (p := (-(2 ^ 64) < i ∧ i < 2 ^ 64) ∨ (-(2 ^ 64) < j ∧ j < 2 ^ 64)) h
@[simp] def cDiv (_ j : Int) : Bool := decide (0 < j ∧ j < 1073741824)
theorem cDiv_ok {i j : Int} (h : cDiv i j = true) : CDiv i j := of_decide_eq_true (p := 0 < j ∧ j < 1073741824) h
@[simp] def cMod (_ j : Int) : Bool := decide (0 < j)
@[simp] def cPow (i j : Int) : Bool := decide (0 ≤ j ∧ j ≤ 1000000 ∧ i.natAbs < 2 ^ 64)
theorem cPow_ok {i j : Int} (h : cPow i j = true) : CPow i j := of_decide_eq_true (p := 0 ≤ j ∧ j ≤ 1000000 ∧ i.natAbs < 2 ^ 64) h
def rAddD (K : PySem.W.Frag) : R2 := fun x y H Q => (rI0 fun i j => .int (i + j)) x y H Q ∨ rCatL K x y H Q
theorem op_addD {X : Cx} : OpR X (binaryOp .Add) (rAddD X.K) := opr_or op_add op_catL
theorem r2_add {K : PySem.W.Frag} : R2D K (rAddD K) gAdd := fun C H x y d e z EX D1 D2 h Q q => by
  unfold gAdd at h
  split at h
  · rename_i i j
    cases h
    cases D1
    cases D2
    exact .inl ⟨i, j, rfl, rfl, q C H _ (Grow.refl EX) (.int _)⟩
  · rename_i xs ys
    split at h
    · rename_i hl
      cases h
      cases D1 with
      | lst s1 a1 =>
        cases D2 with
        | lst s2 a2 =>
          rename_i p1 ws1 p2 ws2
          refine .inr ⟨_, _, _, _, rfl, rfl, EX.l s1, EX.l s2, most_line (by rw [dps_len a1, dps_len a2]; exact hl), fun p hp => ?_⟩
          have n := Grow.new (o := .lst (ws1 ++ ws2)) EX hp
          exact q _ _ _ n (.lst (SqL.of upd_same) (dps_ex n.c (dps_app a1 a2)))
    · cases h
  · cases h
theorem r2_i {K : PySem.W.Frag} {f : Int → Int → Int} : R2R K (rI0 fun i j => .int (f i j)) (gI f) := fun H x y d e z D1 D2 h Q q => by
  unfold gI at h
  split at h
  · rename_i i j
    cases h
    cases D1
    cases D2
    exact ⟨i, j, rfl, rfl, q _ fun _ => .int _⟩
  · cases h
theorem r2_ic {K : PySem.W.Frag} {c : Int → Int → Bool} {CC : Int → Int → Prop} {f : Int → Int → Int} (hc : ∀ i j, c i j = true → CC i j) : R2R K (rI CC fun i j => .int (f i j)) (gIc c f) := fun H x y d e z D1 D2 h Q q => by
  unfold gIc at h
  split at h
  · rename_i i j
    split at h
    · rename_i hh
      cases h
      cases D1
      cases D2
      exact ⟨i, j, rfl, rfl, hc i j hh, q _ fun _ => .int _⟩
    · cases h
  · cases h
section
variable {X : Cx} {a b : Expr} {pos : Pos} {ta tb : TE} {fa fb : Den}
theorem pd_add (ha : PD X a fa) (hb : PD X b fb) : PD X (.BinOp a .Add b pos) (e2 gAdd fa fb) := pd_opD op_addD r2_add ha hb
theorem pd_sub (ha : PD X a fa) (hb : PD X b fb) : PD X (.BinOp a .Sub b pos) (e2 (gI fun i j => i - j) fa fb) := pd_op op_sub r2_i ha hb
theorem pd_mul (ha : PD X a fa) (hb : PD X b fb) : PD X (.BinOp a .Mult b pos) (e2 (gIc cMul fun i j => i * j) fa fb) := pd_op op_mul (r2_ic fun _ _ h => cMul_ok h) ha hb
theorem pd_fdiv (ha : PD X a fa) (hb : PD X b fb) : PD X (.BinOp a .FloorDiv b pos) (e2 (gIc cDiv fun i j => i / j) fa fb) := pd_op op_fdiv (r2_ic fun _ _ h => cDiv_ok h) ha hb
theorem pd_mod (ha : PD X a fa) (hb : PD X b fb) : PD X (.BinOp a .Mod b pos) (e2 (gIc cMod fun i j => i % j) fa fb) := pd_op op_mod (r2_ic fun _ _ h => of_decide_eq_true h) ha hb
theorem pd_pow (ha : PD X a fa) (hb : PD X b fb) : PD X (.BinOp a .Pow b pos) (e2 (gIc cPow fun i j => i ^ j.toNat) fa fb) := pd_op op_pow (r2_ic fun _ _ h => cPow_ok h) ha hb
/-- -a -/
@[simp] def e1 (g : PyData → Option PyData) (f : Den) : Den := fun ρ => (f ρ).bind g
theorem e1_some {g : PyData → Option PyData} {f : Den} {ρ : DEnv} {z : PyData} (h : e1 g f ρ = some z) : ∃ d, f ρ = some d ∧ g d = some z := by
  unfold e1 at h
  cases e : f ρ with
  | none => rw [e] at h; cases h
  | some d => rw [e] at h; exact ⟨d, rfl, h⟩
@[simp] def gNeg : PyData → Option PyData
  | .int i => some (.int (-i))
  | _ => none
theorem pd_neg (ha : PD X a fa) : PD X (.UnaryOp .USub a pos) (e1 gNeg fa) := ⟨_, pe_un un_neg ha.pe, fun H0 C H ρ σ z S h Q q => by
  obtain ⟨d, h1, h2⟩ := e1_some h
  refine ha.ex H0 C H ρ σ d S h1 _ fun C1 H1 v G D => ?_
  cases d with
  | int i =>
    cases h2
    cases D
    exact ⟨i, rfl, q C1 H1 _ G (.int _)⟩
  | _ => cases h2⟩
end

/-! ### comparisons -/
def gLe (f : Int → Int → Bool) (lt : PyData → PyData → Bool) : PyData → PyData → Option PyData := fun d e => match d, e with
  | .int i, .int j => some (.bool (f i j))
  | .tuple xs, .tuple ys => if (PySem.W.alike (.tuple xs) (.tuple ys) && decide ((PyData.tuple xs).depth ≤ 64)) = true then some (.bool (lt (.tuple xs) (.tuple ys))) else none
  | _, _ => none
def rCmpD (K : PySem.W.Frag) (lt : PyData → PyData → Bool) : R2 := fun x y H Q => ∃ d e, Dp K H x d ∧ Dp K H y e ∧ PySem.W.alike d e = true ∧ d ≠ .none ∧ d.depth ≤ 64 ∧ Q (.bl (lt d e)) H
def rLeI (f : Int → Int → Bool) : R2 := rI0 fun i j => .bl (f i j)
theorem op_cmpD {X : Cx} {op : CmpOp} {lt : PyData → PyData → Bool} (hu : X.A.units + 64 < cLine)
    (hl : ∀ {prog : Program} {w : World} {A : Around} {E : Value → Shared → Prop} {s : Shared} {a b : Value} {da db : PyData} {as bs : List Addr} {Q : Value → Shared → Prop}, Reads s.heap a da as → Reads s.heap b db bs → PySem.W.alike da db = true → da ≠ .none →
      A.units + min da.depth db.depth < cLine → Q (.bool (lt da db)) s → wpAny (model prog w) A (compareOp op a b) Q E s) : OpR X (compareOp op) (rCmpD X.K lt) := by
  intro pins s σ H x y v u Q I rx ry h
  obtain ⟨d, e, hd, he, ha, hn, hz, q⟩ := h
  obtain ⟨as, r1⟩ := Dp.reads I d x v hd rx
  obtain ⟨bs, r2⟩ := Dp.reads I e y u he ry
  have hm : min d.depth e.depth ≤ d.depth := Nat.min_le_left _ _
  exact hl r1 r2 ha hn (by omega) ⟨.bl _, H, I, rfl, q⟩
theorem r2_le {K : PySem.W.Frag} {f : Int → Int → Bool} {lt : PyData → PyData → Bool} : R2R K (fun x y H Q => rLeI f x y H Q ∨ rCmpD K lt x y H Q) (gLe f lt) := fun H x y d e z D1 D2 h Q q => by
  unfold gLe at h
  split at h
  · rename_i i j
    cases h
    cases D1
    cases D2
    exact .inl ⟨i, j, rfl, rfl, q _ fun _ => .bl _⟩
  · rename_i xs ys
    split at h
    · rename_i hl
      cases h
      obtain ⟨h1, h2⟩ := Bool.and_eq_true_iff.mp hl
      exact .inr ⟨_, _, D1, D2, h1, fun z => (by cases z), of_decide_eq_true h2, q _ fun _ => .bl _⟩
    · cases h
  · cases h
def gLt := gLe (fun i j => decide (i < j)) PySem.W.dataLt
def gGt := gLe (fun i j => decide (j < i)) fun d e => PySem.W.dataLt e d
def gLE := gLe (fun i j => decide (i ≤ j)) fun d e => !PySem.W.dataLt e d
def gGE := gLe (fun i j => decide (j ≤ i)) fun d e => !PySem.W.dataLt d e
def gEq : PyData → PyData → Option PyData := fun d e => if (SeqAt.shaped d && SeqAt.shaped e) = true then some (.bool (PyData.eqv d e)) else none
def gNe : PyData → PyData → Option PyData := fun d e => if (SeqAt.shaped d && SeqAt.shaped e) = true then some (.bool (!PyData.eqv d e)) else none
theorem r2_eq {K : PySem.W.Frag} : R2R K (rEqD K) gEq := fun H x y d e z D1 D2 h Q q => by
  unfold gEq at h
  split at h
  · rename_i hl
    cases h
    obtain ⟨h1, h2⟩ := Bool.and_eq_true_iff.mp hl
    exact ⟨d, e, D1, D2, h1, h2, q _ fun _ => .bl _⟩
  · cases h
theorem r2_ne {K : PySem.W.Frag} : R2R K (rNeD K) gNe := fun H x y d e z D1 D2 h Q q => by
  unfold gNe at h
  split at h
  · rename_i hl
    cases h
    obtain ⟨h1, h2⟩ := Bool.and_eq_true_iff.mp hl
    exact ⟨d, e, D1, D2, h1, h2, q _ fun _ => .bl _⟩
  · cases h
/-- x in xs, x not in xs: a list or a tuple -/
def rInDT (K : PySem.W.Frag) : R2 := fun x y H Q => ∃ d ds, Dp K H x d ∧ Dp K H y (.tuple ds) ∧ SeqAt.shaped d = true ∧ SeqAt.shaped (.tuple ds) = true ∧ Q (.bl (ds.any fun z => PyData.eqv z d)) H
def rNotInDT (K : PySem.W.Frag) : R2 := fun x y H Q => ∃ d ds, Dp K H x d ∧ Dp K H y (.tuple ds) ∧ SeqAt.shaped d = true ∧ SeqAt.shaped (.tuple ds) = true ∧ Q (.bl (!ds.any fun z => PyData.eqv z d)) H
theorem room_in {A : Around} {d : PyData} {n : Nat} (h : SeqAt.shaped d = true) (hu : A.units + 65 < cLine) : A.units + 1 + min n d.depth < cLine := by
  have h1 := SeqAt.depth_of_shaped h
  have h2 : min n d.depth ≤ d.depth := Nat.min_le_right _ _
  omega
theorem op_inDT {X : Cx} (hu : X.A.units + 65 < cLine) : OpR X (compareOp .In) (rInDT X.K) := by
  intro pins s σ H x y v u Q I rx ry h
  obtain ⟨d, ds, hd, he, sd, se, q⟩ := h
  obtain ⟨as, r1⟩ := Dp.reads I d x v hd rx
  obtain ⟨bs, r2⟩ := Dp.reads I (.tuple ds) y u he ry
  exact SeqAt.in_tuple_reads r2 r1 (SeqAt.canLay_of_shaped se) (SeqAt.canLay_of_shaped sd) (room_in sd hu) ⟨.bl _, H, I, rfl, q⟩
theorem op_notInDT {X : Cx} (hu : X.A.units + 65 < cLine) : OpR X (compareOp .NotIn) (rNotInDT X.K) := by
  intro pins s σ H x y v u Q I rx ry h
  obtain ⟨d, ds, hd, he, sd, se, q⟩ := h
  obtain ⟨as, r1⟩ := Dp.reads I d x v hd rx
  obtain ⟨bs, r2⟩ := Dp.reads I (.tuple ds) y u he ry
  exact SeqAt.notIn_tuple_reads r2 r1 (SeqAt.canLay_of_shaped se) (SeqAt.canLay_of_shaped sd) (room_in sd hu) ⟨.bl _, H, I, rfl, q⟩
def gIn : PyData → PyData → Option PyData := fun d e => match e with
  | .list ds => if (SeqAt.shaped d && SeqAt.shaped (.list ds)) = true then some (.bool (ds.any fun z => PyData.eqv z d)) else none
  | .tuple ds => if (SeqAt.shaped d && SeqAt.shaped (.tuple ds)) = true then some (.bool (ds.any fun z => PyData.eqv z d)) else none
  | _ => none
def gNotIn : PyData → PyData → Option PyData := fun d e => match e with
  | .list ds => if (SeqAt.shaped d && SeqAt.shaped (.list ds)) = true then some (.bool (!ds.any fun z => PyData.eqv z d)) else none
  | .tuple ds => if (SeqAt.shaped d && SeqAt.shaped (.tuple ds)) = true then some (.bool (!ds.any fun z => PyData.eqv z d)) else none
  | _ => none
theorem r2_in {K : PySem.W.Frag} : R2R K (fun x y H Q => rInD K x y H Q ∨ rInDT K x y H Q) gIn := fun H x y d e z D1 D2 h Q q => by
  unfold gIn at h
  split at h
  · split at h
    · rename_i hl
      cases h
      obtain ⟨h1, h2⟩ := Bool.and_eq_true_iff.mp hl
      exact .inl ⟨d, _, D1, D2, h1, h2, q _ fun _ => .bl _⟩
    · cases h
  · split at h
    · rename_i hl
      cases h
      obtain ⟨h1, h2⟩ := Bool.and_eq_true_iff.mp hl
      exact .inr ⟨d, _, D1, D2, h1, h2, q _ fun _ => .bl _⟩
    · cases h
  · cases h
theorem r2_notIn {K : PySem.W.Frag} : R2R K (fun x y H Q => rNotInD K x y H Q ∨ rNotInDT K x y H Q) gNotIn := fun H x y d e z D1 D2 h Q q => by
  unfold gNotIn at h
  split at h
  · split at h
    · rename_i hl
      cases h
      obtain ⟨h1, h2⟩ := Bool.and_eq_true_iff.mp hl
      exact .inl ⟨d, _, D1, D2, h1, h2, q _ fun _ => .bl _⟩
    · cases h
  · split at h
    · rename_i hl
      cases h
      obtain ⟨h1, h2⟩ := Bool.and_eq_true_iff.mp hl
      exact .inr ⟨d, _, D1, D2, h1, h2, q _ fun _ => .bl _⟩
    · cases h
  · cases h
@[simp] def gIsN : PyData → PyData → Option PyData := fun d e => match e with
  | .none => some (.bool (match d with | .none => true | _ => false))
  | _ => none
@[simp] def gNotN : PyData → PyData → Option PyData := fun d e => match e with
  | .none => some (.bool (match d with | .none => false | _ => true))
  | _ => none
theorem r2_isN {K : PySem.W.Frag} : R2R K (fun x y H Q => y = .non ∧ Q (.bl (decide (x = .non))) H) gIsN := fun H x y d e z D1 D2 h Q q => by
  unfold gIsN at h
  split at h
  · cases h
    cases D2
    refine ⟨rfl, q _ fun C => ?_⟩
    cases D1 <;> exact .bl _
  · cases h
theorem r2_notN {K : PySem.W.Frag} : R2R K (fun x y H Q => y = .non ∧ Q (.bl (!decide (x = .non))) H) gNotN := fun H x y d e z D1 D2 h Q q => by
  unfold gNotN at h
  split at h
  · cases h
    cases D2
    refine ⟨rfl, q _ fun C => ?_⟩
    cases D1 <;> exact .bl _
  · cases h
@[simp] theorem gLt_i (i j : Int) : gLt (.int i) (.int j) = some (.bool (decide (i < j))) := rfl
@[simp] theorem gGt_i (i j : Int) : gGt (.int i) (.int j) = some (.bool (decide (j < i))) := rfl
@[simp] theorem gLE_i (i j : Int) : gLE (.int i) (.int j) = some (.bool (decide (i ≤ j))) := rfl
@[simp] theorem gGE_i (i j : Int) : gGE (.int i) (.int j) = some (.bool (decide (j ≤ i))) := rfl
theorem gLt_t {xs ys : List PyData} (h : PySem.W.alike (.tuple xs) (.tuple ys) = true) (hd : (PyData.tuple xs).depth ≤ 64) : gLt (.tuple xs) (.tuple ys) = some (.bool (PySem.W.dataLt (.tuple xs) (.tuple ys))) := by
  show (if (PySem.W.alike (.tuple xs) (.tuple ys) && decide ((PyData.tuple xs).depth ≤ 64)) = true then some (PyData.bool (PySem.W.dataLt (.tuple xs) (.tuple ys))) else none) = _
  rw [h, decide_eq_true hd]
  rfl
/-- a comparison's rule, its reading, its meaning: by the operator -/
structure CmpD (X : Cx) (op : CmpOp) (r : R2) (g : PyData → PyData → Option PyData) : Prop where
  ho : OpR X (compareOp op) r
  hr : R2R X.K r g
section
variable {X : Cx}
theorem cd_lt (hu : X.A.units + 64 < cLine) : CmpD X .Lt (fun x y H Q => rLeI (fun i j => decide (i < j)) x y H Q ∨ rCmpD X.K PySem.W.dataLt x y H Q) gLt := ⟨opr_or op_lt (op_cmpD hu PySem.W.lt_data), r2_le⟩
theorem cd_gt (hu : X.A.units + 64 < cLine) : CmpD X .Gt (fun x y H Q => rLeI (fun i j => decide (j < i)) x y H Q ∨ rCmpD X.K (fun d e => PySem.W.dataLt e d) x y H Q) gGt := ⟨opr_or op_gt (op_cmpD hu PySem.W.gt_data), r2_le⟩
theorem cd_le (hu : X.A.units + 64 < cLine) : CmpD X .LtE (fun x y H Q => rLeI (fun i j => decide (i ≤ j)) x y H Q ∨ rCmpD X.K (fun d e => !PySem.W.dataLt e d) x y H Q) gLE := ⟨opr_or op_le (op_cmpD hu PySem.W.le_data), r2_le⟩
theorem cd_ge (hu : X.A.units + 64 < cLine) : CmpD X .GtE (fun x y H Q => rLeI (fun i j => decide (j ≤ i)) x y H Q ∨ rCmpD X.K (fun d e => !PySem.W.dataLt d e) x y H Q) gGE := ⟨opr_or op_ge (op_cmpD hu PySem.W.ge_data), r2_le⟩
theorem cd_eq (hu : X.A.units + 64 < cLine) : CmpD X .Eq (rEqD X.K) gEq := ⟨op_eqD hu, r2_eq⟩
theorem cd_ne (hu : X.A.units + 64 < cLine) : CmpD X .NotEq (rNeD X.K) gNe := ⟨op_neD hu, r2_ne⟩
theorem cd_in (hu : X.A.units + 65 < cLine) : CmpD X .In (fun x y H Q => rInD X.K x y H Q ∨ rInDT X.K x y H Q) gIn := ⟨opr_or (op_inD hu) (op_inDT hu), r2_in⟩
theorem cd_notIn (hu : X.A.units + 65 < cLine) : CmpD X .NotIn (fun x y H Q => rNotInD X.K x y H Q ∨ rNotInDT X.K x y H Q) gNotIn := ⟨opr_or (op_notInD hu) (op_notInDT hu), r2_notIn⟩
theorem cd_isN : CmpD X .Is (fun x y H Q => y = .non ∧ Q (.bl (decide (x = .non))) H) gIsN := ⟨op_isN, r2_isN⟩
theorem cd_notN : CmpD X .IsNot (fun x y H Q => y = .non ∧ Q (.bl (!decide (x = .non))) H) gNotN := ⟨op_notN, r2_notN⟩
variable {a b c : Expr} {pos : Pos} {ta tb tc : TE} {fa fb fc : Den} {op op' : CmpOp} {r r' : R2} {g g' : PyData → PyData → Option PyData}
/-- as a value, as a test -/
theorem pd_c (h : CmpD X op r g) (ha : PR X a fa) (hb : PR X b fb) (hm : behindInMarks op b = false := by first | rfl | exact nomark _) : PD X (.Compare a [op] [b] pos) (e2 g fa fb) := pd_cmp h.ho h.hr ha hb hm
theorem pt_c (h : CmpD X op r g) (ha : PR X a fa) (hb : PR X b fb) (hm : behindInMarks op b = false := by first | rfl | exact nomark _) : PTd X (.Compare a [op] [b] pos) (tst (e2 g fa fb)) := pt_cmpd h.ho h.hr ha hb hm
/-- a < b < c -/
@[simp] def eCh (g g' : PyData → PyData → Option PyData) (fa fb fc : Den) : Den := fun ρ => match e2 g fa fb ρ with
  | some (.bool true) => e2 g' fb fc ρ
  | some (.bool false) => some (.bool false)
  | _ => none
theorem exd_ch {K : PySem.W.Frag} (h : R2R K r g) (h' : R2R K r' g') (ha : ExR K ta fa) (hb : ExR K tb fb) (hc : ExR K tc fc) : ExD K (tChain r r' ta tb tc) (eCh g g' fa fb fc) := fun H0 C H ρ σ z S e Q q => by
  unfold eCh at e
  split at e
  · rename_i e1
    obtain ⟨d1, d2, h1, h2, h3⟩ := e2_some e1
    obtain ⟨d2', d3, h2', h4, h5⟩ := e2_some e
    rw [h2] at h2'
    cases h2'
    refine ha H0 C H ρ σ d1 S h1 _ fun C1 H1 v1 G1 D1 => ?_
    refine hb H0 C1 H1 ρ σ d2 (S.grow G1) h2 _ fun C2 H2 v2 G2 D2 => ?_
    refine h H2 v1 v2 d1 d2 _ (dp_ex G2.h D1) D2 h3 _ fun v D => ?_
    cases D C2
    refine ⟨true, rfl, ?_⟩
    refine hc H0 C2 H2 ρ σ d3 ((S.grow G1).grow G2) h4 _ fun C3 H3 v3 G3 D3 => ?_
    refine h' H3 v2 v3 d2 d3 z (dp_ex G3.h D2) D3 h5 Q fun v4 D4 => ?_
    exact q C3 H3 v4 ((G1.trans G2).trans G3) (D4 C3)
  · rename_i e1
    cases e
    obtain ⟨d1, d2, h1, h2, h3⟩ := e2_some e1
    refine ha H0 C H ρ σ d1 S h1 _ fun C1 H1 v1 G1 D1 => ?_
    refine hb H0 C1 H1 ρ σ d2 (S.grow G1) h2 _ fun C2 H2 v2 G2 D2 => ?_
    refine h H2 v1 v2 d1 d2 _ (dp_ex G2.h D1) D2 h3 _ fun v D => ?_
    cases D C2
    exact ⟨false, rfl, q C2 H2 _ (G1.trans G2) (.bl false)⟩
  · cases e
theorem pd_ch (h : CmpD X op r g) (h' : CmpD X op' r' g') (ha : PR X a fa) (hb : PR X b fb) (hc : PR X c fc) (hm : lastMarks [op, op'] [b, c] = false := by with_unfolding_all rfl) :
    PD X (.Compare a [op, op'] [b, c] pos) (eCh g g' fa fb fc) := ⟨_, pe_chain h.ho h'.ho ha.pe hb.pe hc.pe hm, exd_ch h.hr h'.hr ha.ex hb.ex hc.ex⟩
theorem pt_ch (h : CmpD X op r g) (h' : CmpD X op' r' g') (ha : PR X a fa) (hb : PR X b fb) (hc : PR X c fc) (hm : lastMarks [op, op'] [b, c] = false := by with_unfolding_all rfl) :
    PTd X (.Compare a [op, op'] [b, c] pos) (tst (eCh g g' fa fb fc)) := ⟨_, pt_chain h.ho h'.ho ha.pe hb.pe hc.pe hm, tsd_test (exd_ch h.hr h'.hr ha.ex hb.ex hc.ex)⟩
end
end DL

set_option Elab.async false
set_option linter.all false
set_option maxRecDepth 100000
set_option maxHeartbeats 4000000
namespace DL
open PySem L2 PySem.Spec PyProof.Rows

/-! ### truth -/
@[simp] def gTru : PyData → Option Bool
  | .none => some false
  | .bool b => some b
  | .int i => some (i != 0)
  | .list xs => some (!xs.isEmpty)
  | .tuple xs => some (!xs.isEmpty)
  | _ => none
@[simp] def tru (f : Den) : DEnv → Option Bool := fun ρ => (f ρ).bind gTru
theorem bind_some' {α β : Type} {f : α → Option β} {o : Option α} {b : β} (h : o.bind f = some b) : ∃ a, o = some a ∧ f a = some b := by
  cases o with
  | none => cases h
  | some a => exact ⟨a, rfl, h⟩
theorem isEmpty_dps {K : PySem.W.Frag} {H : Hp} {vs : List V} {ds : List PyData} (h : DpAll K H vs ds) : (!vs.isEmpty) = !ds.isEmpty := by
  cases h <;> rfl
theorem pt_tru {X : Cx} {a : Expr}  {fa : Den} (ha : PR X a fa) (he : ∀ whole, isTrue a X.env whole = (do let v ← whole; standAt a.pos; holding [v] (truthy v)) := by intro _; rfl) :
    PTd X a (tru fa) := ⟨_, pt_truth ha.pe he, fun H0 C H ρ σ k S e Q q => by
  obtain ⟨d, e1, e2⟩ := bind_some' e
  refine ha.ex H0 C H ρ σ d S e1 _ fun C1 H1 v G D => ⟨k, ?_, q C1 H1 G⟩
  cases d with
  | none => cases e2; cases D; exact rfl
  | bool b => cases e2; cases D; exact rfl
  | int i => cases e2; cases D; exact rfl
  | str x => cases e2
  | dict x => cases e2
  | list xs =>
    cases e2
    cases D with
    | lst s1 a1 => exact .inl ⟨_, s1, (isEmpty_dps a1).symm⟩
  | tuple xs =>
    cases e2
    cases D with
    | tup s1 a1 => exact .inr (.inl ⟨_, s1, (isEmpty_dps a1).symm⟩)⟩

/-! ### subscripts -/
theorem atI_dps {K : PySem.W.Frag} {H : Hp} {vs : List V} {ds : List PyData} (h : DpAll K H vs ds) {i : Int} {d : PyData} (e : atI ds i = some d) : ∃ v, atI vs i = some v ∧ Dp K H v d := by
  unfold atI at e
  obtain ⟨j, h1, h2⟩ := bind_some' e
  obtain ⟨v, h3, h4⟩ := dps_get h h2
  refine ⟨v, ?_, h4⟩
  unfold atI
  rw [dps_len h, h1]
  exact h3
@[simp] def gIx : PyData → PyData → Option PyData := fun d e => match d, e with
  | .list xs, .int i => atI xs i
  | .tuple xs, .int i => atI xs i
  | _, _ => none
theorem r2_ix {K : PySem.W.Frag} : R2D K (fun x y H Q => rIxL K x y H Q ∨ rIxT K x y H Q) gIx := fun C H x y d e z EX D1 D2 h Q q => by
  unfold gIx at h
  split at h
  · cases D2
    cases D1 with
    | lst s1 a1 =>
      obtain ⟨v, h1, h2⟩ := atI_dps a1 h
      exact .inl ⟨_, _, _, v, rfl, rfl, EX.l s1, h1, q C H v (Grow.refl EX) h2⟩
  · cases D2
    cases D1 with
    | tup s1 a1 =>
      obtain ⟨v, h1, h2⟩ := atI_dps a1 h
      exact .inr ⟨_, _, _, v, rfl, rfl, EX.t s1, h1, q C H v (Grow.refl EX) h2⟩
  · cases h
section
variable {X : Cx} {e a b : Expr} {es : List Expr} {pos : Pos} {t ta tb : TE} {f fa fb : Den} {u : TA} {fs : DEnv → Option (List PyData)}
theorem pd_ix (ha : PD X a fa) (hb : PD X b fb) (hs : PlainIx b := by exact fun _ _ => rfl) : PD X (.Subscript a b pos) (e2 gIx fa fb) :=
  ⟨_, pe_ix (ix_list.or ix_tup) ha.pe hb.pe hs, exd_op r2_ix ha.ex hb.ex⟩
/-- an item of a list that a slot owns -/
@[simp] def eIxO (i : Nat) (fb : Den) : Den := fun ρ => match ρ[i]?, fb ρ with
  | some (.own ds), some (.int k) => atI ds k
  | _, _ => none
theorem pd_ixO (i : Nat) {x : Str} {p : Pos} (hb : PD X b fb) (hN : X.N[i]? = some x := by rfl) (hv : Vis X.env.scope x := by first | exact Or.inl rfl | exact Or.inr (Or.inl rfl) | exact Or.inr (Or.inr rfl)) (hd : (x == ("__debug__" : Str)) = false := by decide)
    (hcd : (x == ("__classdict__" : Str)) = false := by decide) (hs : PlainIx b := by exact fun _ _ => rfl) : PD X (.Subscript (.Name x p) b pos) (eIxO i fb) :=
  ⟨_, pe_ix (ix_list.or ix_tup) (pe_var hN hv hd hcd) hb.pe hs, fun H0 C H ρ σ z S h Q q => by
    unfold eIxO at h
    split at h
    · rename_i ds k h1 h2
      obtain ⟨p, vs, e1, e2, e3, e4, e5⟩ := S.own h1
      refine ⟨.ref p, e1, hb.ex H0 C H ρ σ _ S h2 _ fun C1 H1 v1 G D => ?_⟩
      cases D
      obtain ⟨v, a1, a2⟩ := atI_dps e5 h
      exact .inl ⟨p, vs, k, v, rfl, rfl, SqL.of (G.h _ _ e2), a1, q C1 H1 v G (dp_ex G.c a2)⟩
    · cases h⟩

/-! slices -/
def cutD {α : Type} (xs : List α) (lo hi : Option Int) : List α := (xs.drop (HT.sIx xs.length 0 lo)).take (HT.sIx xs.length xs.length hi - HT.sIx xs.length 0 lo)
theorem cut_dps {K : PySem.W.Frag} {H : Hp} {vs : List V} {ds : List PyData} (h : DpAll K H vs ds) (lo hi : Option Int) : DpAll K H (cutV vs lo hi) (cutD ds lo hi) := by
  unfold cutV cutD
  rw [dps_len h]
  exact dps_take _ (dps_drop _ h)
def PoD (K : PySem.W.Frag) (t : TO) (f : DEnv → Option (Option Int)) : Prop := ∀ H0 C H ρ σ o, Slots K H0 C H ρ σ → f ρ = some o → ∀ Q : Option Int → Hp → Prop, (∀ C' H', Grow C H C' H' → Q o H') → t σ H Q
def POd (X : Cx) (e : Option Expr) (f : DEnv → Option (Option Int)) : Prop := ∃ t : TO, PO X e t ∧ PoD X.K t f
noncomputable def POd.rdg {X : Cx} {e : Option Expr} {f : DEnv → Option (Option Int)} (h : POd X e f) : TO := Classical.choose h
theorem POd.po {X : Cx} {e : Option Expr} {f : DEnv → Option (Option Int)} (h : POd X e f) : PO X e h.rdg := (Classical.choose_spec h).1
theorem POd.ex {X : Cx} {e : Option Expr} {f : DEnv → Option (Option Int)} (h : POd X e f) : PoD X.K h.rdg f := (Classical.choose_spec h).2
@[simp] def oN : DEnv → Option (Option Int) := fun _ => some none
@[simp] def oS (f : Den) : DEnv → Option (Option Int) := fun ρ => match f ρ with
  | some (.int i) => some (some i)
  | _ => none
theorem po_nod : POd X none oN := ⟨_, po_none, fun H0 C H ρ σ o S e Q q => by
  cases e
  exact q C H (Grow.refl S.ex)⟩
theorem po_d (h : PD X e f) : POd X (some e) (oS f) := ⟨_, po_some h.pe, fun H0 C H ρ σ o S k Q q => by
  unfold oS at k
  split at k
  · rename_i i hi
    cases k
    refine h.ex H0 C H ρ σ _ S hi _ fun C1 H1 v G D => ?_
    cases D
    exact ⟨i, rfl, q C1 H1 G⟩
  · cases k⟩
@[simp] def eSl (fa : Den) (lo hi : DEnv → Option (Option Int)) : DEnv → Option (List PyData) := fun ρ => match fa ρ, lo ρ, hi ρ with
  | some (.list xs), some l, some h => some (cutD xs l h)
  | _, _, _ => none
variable {lo hi : Option Expr} {tl th : TO} {fl fh : DEnv → Option (Option Int)} {p2 : Pos}
theorem pn_sl (ha : PD X a fa) (hl : POd X lo fl) (hh : POd X hi fh) : PN X (.Subscript a (.Slice lo hi none p2) pos) (eSl fa fl fh) := ⟨_, pe_slice sl_list ha.pe hl.po hh.po, fun H0 C H ρ σ ds S h Q q => by
  unfold eSl at h
  split at h
  · rename_i xs l r h1 h2 h3
    cases h
    refine ha.ex H0 C H ρ σ _ S h1 _ fun C1 H1 v1 G1 D1 => ?_
    refine hl.ex H0 C1 H1 ρ σ l (S.grow G1) h2 _ fun C2 H2 G2 => ?_
    refine hh.ex H0 C2 H2 ρ σ r ((S.grow G1).grow G2) h3 _ fun C3 H3 G3 => ?_
    cases D1 with
    | @lst p0 ws0 _ s1 a1 =>
      have g := (G1.trans G2).trans G3
      refine ⟨_, _, rfl, (G3.s.l (G3.c.l (G2.c.l s1))), fun p hp => ?_⟩
      have n := Grow.newH (o := .lst (cutV ws0 l r)) G3.s hp
      exact q C3 _ p _ (g.trans n) (g.h.back hp) (G3.s.back hp) upd_same (cut_dps (dps_ex G3.c (dps_ex G2.c a1)) l r)
  · cases h⟩
/-- of a tuple, not the whole of it -/
@[simp] def eSlT (fa : Den) (lo hi : DEnv → Option (Option Int)) : Den := fun ρ => match fa ρ, lo ρ, hi ρ with
  | some (.tuple xs), some l, some h => if HT.sIx xs.length 0 l = 0 ∧ HT.sIx xs.length xs.length h = xs.length then none else some (.tuple (cutD xs l h))
  | _, _, _ => none
theorem pd_slT (ha : PD X a fa) (hl : POd X lo fl) (hh : POd X hi fh) : PD X (.Subscript a (.Slice lo hi none p2) pos) (eSlT fa fl fh) := ⟨_, pe_slice sl_tup ha.pe hl.po hh.po, fun H0 C H ρ σ d S h Q q => by
  unfold eSlT at h
  split at h
  · rename_i xs l r h1 h2 h3
    split at h
    · cases h
    · rename_i hw
      cases h
      refine ha.ex H0 C H ρ σ _ S h1 _ fun C1 H1 v1 G1 D1 => ?_
      refine hl.ex H0 C1 H1 ρ σ l (S.grow G1) h2 _ fun C2 H2 G2 => ?_
      refine hh.ex H0 C2 H2 ρ σ r ((S.grow G1).grow G2) h3 _ fun C3 H3 G3 => ?_
      cases D1 with
      | @tup p0 ws0 _ s1 a1 =>
        have g := (G1.trans G2).trans G3
        refine ⟨_, _, rfl, (G3.s.t (G3.c.t (G2.c.t s1))), by rw [dps_len a1]; exact hw, fun p hp => ?_⟩
        have n := Grow.new (o := .tup (cutV ws0 l r)) G3.s hp
        exact q _ _ _ (g.trans n) (.tup (SqT.of upd_same) (dps_ex n.c (cut_dps (dps_ex G3.c (dps_ex G2.c a1)) l r)))
  · cases h⟩
end

/-! ### calls of built-ins -/
def CRr (K : PySem.W.Frag) (r : List V → Hp → VK → Prop) (g : List PyData → Option PyData) : Prop := ∀ H vs ds z, DpAll K H vs ds → g ds = some z → ∀ Q : VK, (∀ v, (∀ C, Dp K C v z) → Q v H) → r vs H Q
def CRd (K : PySem.W.Frag) (r : List V → Hp → VK → Prop) (g : List PyData → Option PyData) : Prop := ∀ C H vs ds z, Ex C H → DpAll K C vs ds → g ds = some z → ∀ Q : VK, (∀ C' H' v, Grow C H C' H' → Dp K C' v z → Q v H') → r vs H Q
def CRn (K : PySem.W.Frag) (r : List V → Hp → VK → Prop) (g : List PyData → Option (List PyData)) : Prop := ∀ C H vs ds zs, Ex C H → DpAll K C vs ds → g ds = some zs → ∀ Q : VK, (∀ p ws, H p = none → DpAll K C ws zs → Q (.ref p) (upd H p (.lst ws))) → r vs H Q
@[simp] def eF {α : Type} (g : List PyData → Option α) (fs : DEnv → Option (List PyData)) : DEnv → Option α := fun ρ => (fs ρ).bind g
section
variable {K : PySem.W.Frag} {r : List V → Hp → VK → Prop} {t : TA} {fs : DEnv → Option (List PyData)}
theorem exd_cr {g : List PyData → Option PyData} (h : CRr K r g) (ha : ArR K t fs) : ExD K (tCB r t) (eF g fs) := fun H0 C H ρ σ z S e Q q => by
  obtain ⟨ds, e1, e2⟩ := bind_some' e
  refine ha H0 C H ρ σ ds S e1 _ fun C1 H1 vs G D => ?_
  exact h H1 vs ds z D e2 Q fun v hv => q C1 H1 v G (hv C1)
theorem exd_cd {g : List PyData → Option PyData} (h : CRd K r g) (ha : ArD K t fs) : ExD K (tCB r t) (eF g fs) := fun H0 C H ρ σ z S e Q q => by
  obtain ⟨ds, e1, e2⟩ := bind_some' e
  refine ha H0 C H ρ σ ds S e1 _ fun C1 H1 vs G D => ?_
  exact h C1 H1 vs ds z G.s D e2 Q fun C2 H2 v G2 D2 => q C2 H2 v (G.trans G2) D2
theorem exn_cn {g : List PyData → Option (List PyData)} (h : CRn K r g) (ha : ArD K t fs) : ExN K (tCB r t) (eF g fs) := fun H0 C H ρ σ zs S e Q q => by
  obtain ⟨ds, e1, e2⟩ := bind_some' e
  refine ha H0 C H ρ σ ds S e1 _ fun C1 H1 vs G D => ?_
  refine h C1 H1 vs ds zs G.s D e2 Q fun p ws hp hd => ?_
  exact q C1 _ p ws (G.trans (Grow.newH G.s hp)) (G.h.back hp) (G.s.back hp) upd_same hd
end
section
variable {X : Cx} {x : Str} {p pos : Pos} {e : Expr} {es : List Expr} {t : TA} {id T : String} {r : List V → Hp → VK → Prop} {fs : DEnv → Option (List PyData)}
theorem pd_cb {g : List PyData → Option PyData} (hc : CallR X (.builtin id) r) (h : CRr X.K r g) (hg : Gl X x) (hm : X.mg x = none) (hv : bootBuiltins x = some (.builtin id)) (ha : PAr X (e :: es) fs) (hn : x ≠ "__name__" := by decide) (hdb : (x == ("__debug__" : Str)) = false := by decide)
    (he : starEach (e :: es) X.env = (false, eval e X.env) :: starEach es X.env := by rfl) (hpl : (backTo pos (starEach es X.env)).any (·.1) = false := by rfl) : PD X (.Call (.Name x p) (e :: es) [] pos) (eF g fs) := ⟨_, pe_callB hc hg hm hv ha.pa hn hdb he hpl, exd_cr h ha.ex⟩
theorem pn_cb {g : List PyData → Option (List PyData)} (hc : CallR X (.builtin id) r) (h : CRn X.K r g) (hg : Gl X x) (hm : X.mg x = none) (hv : bootBuiltins x = some (.builtin id)) (ha : PAd X (e :: es) fs) (hn : x ≠ "__name__" := by decide) (hdb : (x == ("__debug__" : Str)) = false := by decide)
    (he : starEach (e :: es) X.env = (false, eval e X.env) :: starEach es X.env := by rfl) (hpl : (backTo pos (starEach es X.env)).any (·.1) = false := by rfl) : PN X (.Call (.Name x p) (e :: es) [] pos) (eF g fs) := ⟨_, pe_callB hc hg hm hv ha.pa hn hdb he hpl, exn_cn h ha.ex⟩
theorem pd_ct {g : List PyData → Option PyData} (hc : CallR X (.type T) r) (h : CRr X.K r g) (hg : Gl X x) (hm : X.mg x = none) (hv : bootBuiltins x = some (.type T)) (ha : PAr X (e :: es) fs) (hn : x ≠ "__name__" := by decide) (hdb : (x == ("__debug__" : Str)) = false := by decide)
    (he : starEach (e :: es) X.env = (false, eval e X.env) :: starEach es X.env := by rfl) (hpl : (backTo pos (starEach es X.env)).any (·.1) = false := by rfl) : PD X (.Call (.Name x p) (e :: es) [] pos) (eF g fs) := ⟨_, pe_callTy hc hg hm hv ha.pa hn hdb he hpl, exd_cr h ha.ex⟩
theorem pd_ctd {g : List PyData → Option PyData} (hc : CallR X (.type T) r) (h : CRd X.K r g) (hg : Gl X x) (hm : X.mg x = none) (hv : bootBuiltins x = some (.type T)) (ha : PAd X (e :: es) fs) (hn : x ≠ "__name__" := by decide) (hdb : (x == ("__debug__" : Str)) = false := by decide)
    (he : starEach (e :: es) X.env = (false, eval e X.env) :: starEach es X.env := by rfl) (hpl : (backTo pos (starEach es X.env)).any (·.1) = false := by rfl) : PD X (.Call (.Name x p) (e :: es) [] pos) (eF g fs) := ⟨_, pe_callTy hc hg hm hv ha.pa hn hdb he hpl, exd_cd h ha.ex⟩
theorem pn_ct {g : List PyData → Option (List PyData)} (hc : CallR X (.type T) r) (h : CRn X.K r g) (hg : Gl X x) (hm : X.mg x = none) (hv : bootBuiltins x = some (.type T)) (ha : PAd X (e :: es) fs) (hn : x ≠ "__name__" := by decide) (hdb : (x == ("__debug__" : Str)) = false := by decide)
    (he : starEach (e :: es) X.env = (false, eval e X.env) :: starEach es X.env := by rfl) (hpl : (backTo pos (starEach es X.env)).any (·.1) = false := by rfl) : PN X (.Call (.Name x p) (e :: es) [] pos) (eF g fs) := ⟨_, pe_callTy hc hg hm hv ha.pa hn hdb he hpl, exn_cn h ha.ex⟩
end
/-! len, list, tuple, abs, int -/
@[simp] def gLen : List PyData → Option PyData
  | [.list xs] => some (.int xs.length)
  | [.tuple xs] => some (.int xs.length)
  | _ => none
theorem cr_len {K : PySem.W.Frag} : CRr K (fun xs H Q => ∃ p ys, xs = [.ref p] ∧ (SqL K H p ys ∨ SqT K H p ys) ∧ Q (.int ys.length) H) gLen := fun H vs ds z D e Q q => by
  unfold gLen at e
  split at e
  · cases e
    cases D with
    | cons h1 h2 =>
      cases h2
      cases h1 with
      | lst s1 a1 =>
        refine ⟨_, _, rfl, .inl s1, q _ fun C => ?_⟩
        rw [dps_len a1]
        exact .int _
  · cases e
    cases D with
    | cons h1 h2 =>
      cases h2
      cases h1 with
      | tup s1 a1 =>
        refine ⟨_, _, rfl, .inr s1, q _ fun C => ?_⟩
        rw [dps_len a1]
        exact .int _
  · cases e
@[simp] def gList : List PyData → Option (List PyData)
  | [.list xs] => some xs
  | [.tuple xs] => some xs
  | _ => none
theorem cr_list {K : PySem.W.Frag} : CRn K (fun xs H Q => ∃ p ys, xs = [.ref p] ∧ (SqL K H p ys ∨ SqT K H p ys) ∧ ∀ l, H l = none → Q (.ref l) (upd H l (.lst ys))) gList := fun C H vs ds zs EX D e Q q => by
  unfold gList at e
  split at e
  · cases e
    cases D with
    | cons h1 h2 =>
      cases h2
      cases h1 with
      | lst s1 a1 => exact ⟨_, _, rfl, .inl (EX.l s1), fun l hl => q l _ hl a1⟩
  · cases e
    cases D with
    | cons h1 h2 =>
      cases h2
      cases h1 with
      | tup s1 a1 => exact ⟨_, _, rfl, .inr (EX.t s1), fun l hl => q l _ hl a1⟩
  · cases e
@[simp] def gTuple : List PyData → Option PyData
  | [.list xs] => some (.tuple xs)
  | [.tuple xs] => some (.tuple xs)
  | _ => none
theorem cr_tuple {K : PySem.W.Frag} : CRd K (fun xs H Q => ∃ p ys, xs = [.ref p] ∧ ((SqL K H p ys ∧ ∀ l, H l = none → Q (.ref l) (upd H l (.tup ys))) ∨ (SqT K H p ys ∧ Q (.ref p) H))) gTuple := fun C H vs ds z EX D e Q q => by
  unfold gTuple at e
  split at e
  · cases e
    cases D with
    | cons h1 h2 =>
      cases h2
      cases h1 with
      | @lst p0 ws0 _ s1 a1 =>
        refine ⟨_, _, rfl, .inl ⟨EX.l s1, fun l hl => ?_⟩⟩
        have n := Grow.new (o := .tup ws0) EX hl
        exact q _ _ _ n (.tup (SqT.of upd_same) (dps_ex n.c a1))
  · cases e
    cases D with
    | cons h1 h2 =>
      cases h2
      cases h1 with
      | tup s1 a1 => exact ⟨_, _, rfl, .inr ⟨EX.t s1, q C H _ (Grow.refl EX) (.tup s1 a1)⟩⟩
  · cases e
@[simp] def gAbs : List PyData → Option PyData
  | [.int i] => some (.int (if i < 0 then -i else i))
  | _ => none
theorem cr_abs {K : PySem.W.Frag} : CRr K (fun xs H Q => ∃ i, xs = [.int i] ∧ Q (.int (if i < 0 then -i else i)) H) gAbs := fun H vs ds z D e Q q => by
  unfold gAbs at e
  split at e
  · rename_i i
    cases e
    cases D with
    | cons h1 h2 =>
      cases h2
      cases h1
      exact ⟨i, rfl, q _ fun C => .int _⟩
  · cases e
@[simp] def gInt : List PyData → Option PyData
  | [.int i] => some (.int i)
  | [.bool b] => some (.int (if b = true then 1 else 0))
  | _ => none
theorem cr_int {K : PySem.W.Frag} : CRr K (fun xs H Q => (∃ i, xs = [.int i] ∧ Q (.int i) H) ∨ ∃ k, xs = [.bl k] ∧ Q (.int (if k then 1 else 0)) H) gInt := fun H vs ds z D e Q q => by
  unfold gInt at e
  split at e
  · rename_i i
    cases e
    cases D with
    | cons h1 h2 =>
      cases h2
      cases h1
      exact .inl ⟨i, rfl, q _ fun C => .int _⟩
  · rename_i b
    cases e
    cases D with
    | cons h1 h2 =>
      cases h2
      cases h1
      exact .inr ⟨b, rfl, q _ fun C => .int _⟩
  · cases e
/-! sums, the greatest, the least -/
def ints? : List PyData → Option (List Int)
  | [] => some []
  | .int i :: r => (ints? r).map (i :: ·)
  | _ :: _ => none
theorem ints_some : ∀ {ds : List PyData} {ns : List Int}, ints? ds = some ns → ds = ns.map PyData.int
  | [], ns, h => by cases h; rfl
  | .int i :: r, ns, h => by
    obtain ⟨ms, h1, h2⟩ := map_some' h
    subst h2
    rw [ints_some h1]
    rfl
  | .none :: _, _, h => by cases h
  | .bool _ :: _, _, h => by cases h
  | .str _ :: _, _, h => by cases h
  | .list _ :: _, _, h => by cases h
  | .tuple _ :: _, _, h => by cases h
  | .dict _ :: _, _, h => by cases h
theorem ints_of : ∀ ns : List Int, ints? (ns.map PyData.int) = some ns
  | [] => rfl
  | n :: ns => by
    show (ints? (ns.map PyData.int)).map (n :: ·) = some (n :: ns)
    rw [ints_of ns]
    rfl
@[simp] def gSum : List PyData → Option PyData
  | [.list xs] => (ints? xs).map fun ns => .int ns.sum
  | _ => none
theorem cr_sumD {K : PySem.W.Frag} : CRr K (rSum K) gSum := fun H vs ds z D e Q q => by
  unfold gSum at e
  split at e
  · obtain ⟨ns, h1, rfl⟩ := map_some' e
    have h2 := ints_some h1
    subst h2
    cases D with
    | cons h1 h2 =>
      cases h2
      cases h1 with
      | lst s1 a1 =>
        have e1 := dps_of_ints ns a1
        subst e1
        exact ⟨_, ns, rfl, s1, q _ fun C => .int _⟩
  · cases e
def maxI : List Int → Int
  | [] => 0
  | [x] => x
  | x :: r => if x < maxI r then maxI r else x
def minI : List Int → Int
  | [] => 0
  | [x] => x
  | x :: r => if minI r < x then minI r else x
theorem maxI_mem : ∀ {ns : List Int}, ns ≠ [] → maxI ns ∈ ns
  | [], h => absurd rfl h
  | [x], _ => by simp [maxI]
  | x :: y :: r, _ => by
    show (if x < maxI (y :: r) then maxI (y :: r) else x) ∈ x :: y :: r
    have ih := maxI_mem (ns := y :: r) (by simp)
    split
    · exact List.mem_cons_of_mem _ ih
    · exact List.mem_cons_self
theorem maxI_le : ∀ {ns : List Int} {y : Int}, y ∈ ns → y ≤ maxI ns
  | [], _, h => by simp at h
  | [x], y, h => by
    simp at h
    simp [maxI, h]
  | x :: z :: r, y, h => by
    show y ≤ (if x < maxI (z :: r) then maxI (z :: r) else x)
    rcases List.mem_cons.mp h with h | h
    · subst h
      split <;> omega
    · have ih := maxI_le (ns := z :: r) h
      split <;> omega
theorem minI_mem : ∀ {ns : List Int}, ns ≠ [] → minI ns ∈ ns
  | [], h => absurd rfl h
  | [x], _ => by simp [minI]
  | x :: y :: r, _ => by
    show (if minI (y :: r) < x then minI (y :: r) else x) ∈ x :: y :: r
    have ih := minI_mem (ns := y :: r) (by simp)
    split
    · exact List.mem_cons_of_mem _ ih
    · exact List.mem_cons_self
theorem minI_le : ∀ {ns : List Int} {y : Int}, y ∈ ns → minI ns ≤ y
  | [], _, h => by simp at h
  | [x], y, h => by
    simp at h
    simp [minI, h]
  | x :: z :: r, y, h => by
    show (if minI (z :: r) < x then minI (z :: r) else x) ≤ y
    rcases List.mem_cons.mp h with h | h
    · subst h
      split <;> omega
    · have ih := minI_le (ns := z :: r) h
      split <;> omega
@[simp] def gMax : List PyData → Option PyData
  | [.list xs] => match ints? xs with
    | some (n :: ns) => some (.int (maxI (n :: ns)))
    | _ => none
  | _ => none
@[simp] def gMin : List PyData → Option PyData
  | [.list xs] => match ints? xs with
    | some (n :: ns) => some (.int (minI (n :: ns)))
    | _ => none
  | _ => none
theorem cr_maxD {K : PySem.W.Frag} : CRr K (rMax K) gMax := fun H vs ds z D e Q q => by
  unfold gMax at e
  split at e
  · split at e
    · rename_i n ns h1
      cases e
      have h2 := ints_some h1
      subst h2
      cases D with
      | cons h1 h2 =>
        cases h2
        cases h1 with
        | lst s1 a1 =>
          have e1 := dps_of_ints (n :: ns) a1
          subst e1
          refine ⟨_, n :: ns, rfl, s1, Nat.succ_pos _, fun m hm hle => ?_⟩
          have e2 : m = maxI (n :: ns) := Int.le_antisymm (maxI_le hm) (hle _ (maxI_mem (by simp)))
          exact q _ fun C => by rw [e2]; exact .int _
    · cases e
  · cases e
theorem cr_minD {K : PySem.W.Frag} : CRr K (rMin K) gMin := fun H vs ds z D e Q q => by
  unfold gMin at e
  split at e
  · split at e
    · rename_i n ns h1
      cases e
      have h2 := ints_some h1
      subst h2
      cases D with
      | cons h1 h2 =>
        cases h2
        cases h1 with
        | lst s1 a1 =>
          have e1 := dps_of_ints (n :: ns) a1
          subst e1
          refine ⟨_, n :: ns, rfl, s1, Nat.succ_pos _, fun m hm hle => ?_⟩
          have e2 : m = minI (n :: ns) := Int.le_antisymm (hle _ (minI_mem (by simp))) (minI_le hm)
          exact q _ fun C => by rw [e2]; exact .int _
    · cases e
  · cases e
@[simp] def gMax2 : List PyData → Option PyData
  | [.int i, .int j] => some (.int (if j > i then j else i))
  | _ => none
@[simp] def gMin2 : List PyData → Option PyData
  | [.int i, .int j] => some (.int (if j < i then j else i))
  | _ => none
theorem cr_max2 {K : PySem.W.Frag} : CRr K (fun xs H Q => ∃ i j, xs = [.int i, .int j] ∧ Q (.int (if j > i then j else i)) H) gMax2 := fun H vs ds z D e Q q => by
  unfold gMax2 at e
  split at e
  · rename_i i j
    cases e
    cases D with
    | cons h1 h2 =>
      cases h2 with
      | cons h3 h4 =>
        cases h4
        cases h1
        cases h3
        exact ⟨i, j, rfl, q _ fun C => .int _⟩
  · cases e
theorem cr_min2 {K : PySem.W.Frag} : CRr K (fun xs H Q => ∃ i j, xs = [.int i, .int j] ∧ Q (.int (if j < i then j else i)) H) gMin2 := fun H vs ds z D e Q q => by
  unfold gMin2 at e
  split at e
  · rename_i i j
    cases e
    cases D with
    | cons h1 h2 =>
      cases h2 with
      | cons h3 h4 =>
        cases h4
        cases h1
        cases h3
        exact ⟨i, j, rfl, q _ fun C => .int _⟩
  · cases e

/-! ### sorted, whatever the data -/
def sortOk (ds : List PyData) : Bool := (ds.all fun d => ds.all fun e => PySem.W.alike d e) && (ds.all (fun d => match d with | .tuple (_ :: _) => true | _ => false) || ds.all (fun d => match d with | .none => false | .tuple _ => false | _ => true)) && ds.all (fun d => decide (d.depth ≤ 64)) && decide (ds.length ≤ most)
theorem sortOk_parts {ds : List PyData} (h : sortOk ds = true) : PySem.W.AllAlike ds ∧ PySem.W.Sortable ds ∧ (∀ d, d ∈ ds → d.depth ≤ 64) ∧ ds.length ≤ most := by
  unfold sortOk at h
  simp only [Bool.and_eq_true, Bool.or_eq_true, List.all_eq_true, decide_eq_true_eq] at h
  obtain ⟨⟨⟨h1, h2⟩, h3⟩, h4⟩ := h
  refine ⟨fun d hd e he => h1 d hd e he, ?_, h3, h4⟩
  rcases h2 with h2 | h2
  · refine .inl fun d hd => ?_
    have q := h2 d hd
    split at q
    · exact ⟨_, _, rfl⟩
    · cases q
  · refine .inr fun d hd => ?_
    have q := h2 d hd
    split at q
    · cases q
    · cases q
    · rename_i n1 n2
      exact ⟨fun z => n1 z, fun xs z => n2 xs z⟩
/-- what a value of the list stands for, in every heap in which the list does -/
def Stands (K : PySem.W.Frag) (xs : List V) (ds : List PyData) (v : Value) (d : PyData) : Prop := ∃ x, RelV x v ∧ ∀ C, DpAll K C xs ds → Dp K C x d
theorem stands_all {K : PySem.W.Frag} {xs : List V} {ds : List PyData} {H : Hp} {us : List Value} (hd : DpAll K H xs ds) (r : Vals xs us) : PySem.W.EachIs (Stands K xs ds) us ds := by
  have f : ∀ (ys : List V) (es : List PyData) (ws : List Value), DpAll K H ys es → Vals ys ws → (∀ (i : Nat) y e, ys[i]? = some y → es[i]? = some e → ∀ C, DpAll K C xs ds → Dp K C y e) → PySem.W.EachIs (Stands K xs ds) ws es := by
    intro ys
    induction ys with
    | nil =>
      intro es ws h1 h2 _
      cases h1
      cases h2
      exact .nil
    | cons y ys ih =>
      intro es ws h1 h2 h3
      cases h1 with
      | cons a1 a2 =>
        cases h2 with
        | cons b1 b2 => exact .cons ⟨y, b1, h3 0 y _ rfl rfl⟩ (ih _ _ a2 b2 fun i y' e' g1 g2 => h3 (i + 1) y' e' (by simpa using g1) (by simpa using g2))
  refine f xs ds us hd r fun i y e g1 g2 C hC => ?_
  obtain ⟨v, g3, g4⟩ := dps_get hC g2
  rw [g1] at g3
  cases g3
  exact g4
theorem stands_back {K : PySem.W.Frag} {xs : List V} {ds : List PyData} : ∀ {us : List Value} {es : List PyData}, PySem.W.EachIs (Stands K xs ds) us es → ∃ ys, Vals ys us ∧ ∀ C, DpAll K C xs ds → DpAll K C ys es
  | _, _, .nil => ⟨[], .nil, fun _ _ => .nil⟩
  | _, _, .cons ⟨x, h1, h2⟩ t => by
    obtain ⟨ys, g1, g2⟩ := stands_back t
    exact ⟨x :: ys, .cons h1 g1, fun C hC => .cons (h2 C hC) (g2 C hC)⟩
def rSortD (K : PySem.W.Frag) : List V → Hp → VK → Prop := fun vs H Q => ∃ (a : Addr) (xs : List V) (ds : List PyData), vs = [V.ref a] ∧ SqL K H a xs ∧ DpAll K H xs ds ∧ sortOk ds = true ∧
  ∀ ys p, (∀ C, DpAll K C xs ds → DpAll K C ys (ds.mergeSort (PySem.W.dataLe false id))) → H p = none → Q (.ref p) (upd H p (.lst ys))
theorem cr_sortD {X : Cx} (hu : X.A.units + 67 < cLine) : CallR X (.builtin "sorted") (rSortD X.K) := by
  intro pins s σ H vs us Q I r h
  obtain ⟨a, xs, ds, rfl, hs, hd, hk, q⟩ := h
  obtain ⟨its, rv, hl, hz⟩ := I.list hs
  obtain ⟨u, rfl, ru⟩ := vals1 r
  obtain rfl : u = Value.ref a := ru
  obtain ⟨k1, k2, k3, k4⟩ := sortOk_parts hk
  obtain ⟨as, hr⟩ := Dp.readsAll I ds xs its hd rv
  have hid : ds.map id = ds := List.map_id ds
  have er : PySem.W.EachIs (fun v b => ∃ as, Reads s.heap v (id b) as) its ds := PySem.W.readsAll_each id (by rw [hid]; exact hr)
  refine PySem.W.sorted_data (enc := id) (R := Stands X.K xs ds) hl.isList (stands_all hd rv) er (by rw [hid]; exact k1) (by rw [hid]; exact k2) (most_line k4) (fun b hb => by have := k3 b hb; show X.A.units + 2 + b.depth < cLine; omega) fun out hlen ho => ?_
  obtain ⟨ys, v1, v2⟩ := stands_back ho
  obtain ⟨n, hn⟩ := sortedAll_at s.heap its out.toArray
  have hf : H (s.heap.objs.size + 1) = none := I.hok.fresh (Nat.le_succ _)
  refine ⟨.ref (s.heap.objs.size + 1), upd H (s.heap.objs.size + 1) (.lst ys), I.laid (t' := s.toks) (fun b o => sortedAll_old) (Nat.le_succ _) ⟨?_, out, n, v1, hn⟩, rfl, q ys _ v2 hf⟩
  rw [v1.length, hlen]
  exact most_line k4
def gSort : List PyData → Option (List PyData)
  | [.list xs] => if sortOk xs = true then some (xs.mergeSort (PySem.W.dataLe false id)) else none
  | _ => none
theorem cr_sort {K : PySem.W.Frag} : CRn K (rSortD K) gSort := fun C H vs ds zs EX D e Q q => by
  unfold gSort at e
  split at e
  · split at e
    · rename_i hk
      cases e
      cases D with
      | cons h1 h2 =>
        cases h2
        cases h1 with
        | lst s1 a1 => exact ⟨_, _, _, rfl, EX.l s1, dps_ex EX a1, hk, fun ys p hy hp => q p ys hp (hy C a1)⟩
    · cases e
  · cases e

/-! ### isinstance(x, T), T a built-in type -/
@[simp] def tyName : PyData → String
  | .none => "NoneType"
  | .bool _ => "bool"
  | .int _ => "int"
  | .str _ => "str"
  | .list _ => "list"
  | .tuple _ => "tuple"
  | .dict _ => "dict"
theorem tyx_of {K : PySem.W.Frag} {H : Hp} {v : V} {d : PyData} (h : Dp K H v d) : TyX K H v (.type (tyName d)) := by
  cases h with
  | non => exact .base .non
  | bl b => exact .base (.bl b)
  | int i => exact .base (.int i)
  | str x => exact .base (.str x)
  | lst s1 a1 =>
    rcases s1 with (h | ⟨o, h⟩) | ⟨o, its, n, h, hc, _⟩
    · exact .base (.lst h)
    · exact .base (.frz h)
    · exact .kList h hc
  | tup s1 a1 =>
    rcases s1 with (h | ⟨o, h⟩) | ⟨o, its, n, h, hc, _⟩
    · exact .base (.tup h)
    · exact .fTuple h
    · exact .kTuple h hc
def gIsi (T : String) : PyData → Option PyData := fun d => (kitB (tyName d) T).map PyData.bool
section
variable {X : Cx} {e : Expr} {t : TE} {f : Den}
theorem pd_isi {T : String} {y : Str} {x : Str} {p p2 pos : Pos} (ha : PR X e f) (hg : Gl X x) (hm : X.mg x = none) (hv : bootBuiltins x = some (.builtin "isinstance")) (hg2 : Gl X y) (hm2 : X.mg y = none) (hv2 : bootBuiltins y = some (.type T))
    (hn : x ≠ "__name__" := by decide) (hdb : (x == ("__debug__" : Str)) = false := by decide) (hn2 : y ≠ "__name__" := by decide) (hdb2 : (y == ("__debug__" : Str)) = false := by decide)
    (he : starEach (e :: [.Name y p2]) X.env = (false, eval e X.env) :: starEach [.Name y p2] X.env := by rfl) (hpl : (backTo pos (starEach [.Name y p2] X.env)).any (·.1) = false := by rfl)
    (he2 : starEach (.Name y p2 :: []) X.env = (false, eval (.Name y p2) X.env) :: starEach [] X.env := by rfl) :
    PD X (.Call (.Name x p) [e, .Name y p2] [] pos) (e1 (gIsi T) f) :=
  ⟨_, pe_callB call_isi hg hm hv (pa_cons ha.pe (pa_cons (pe_bltn (v := .ty T) hg2 hm2 hv2 rfl hn2 hdb2) pa_nil he2) he) hn hdb he hpl, fun H0 C H ρ σ z S h Q q => by
    obtain ⟨d, h1, h2⟩ := e1_some h
    obtain ⟨b, h3, rfl⟩ := map_some' h2
    refine ha.ex H0 C H ρ σ d S h1 _ fun C1 H1 v G D => ?_
    exact ⟨v, .ty T, .type (tyName d), .type T, b, rfl, .ty T, tyx_of D, kit_ty h3, q C1 H1 _ G (.bl b)⟩⟩
end

/-! ### calls of the program's own defs -/
/-- what a def of data does: F, where it is told -/
def spD (K : PySem.W.Frag) (F : List PyData → Option PyData) : Sp := fun vs H Q _ => ∃ C ds d, Ex C H ∧ DpAll K C vs ds ∧ F ds = some d ∧ ∀ C' H' v, Grow C H C' H' → Dp K C' v d → Q v H'
section
variable {X : Cx} {CX : CXT} {k : Nat} {f : Addr} {fd : FuncData} {ps : List Str} {F : List PyData → Option PyData} {x : Str} {p pos : Pos} {e : Expr} {es : List Expr} {t : TA} {fs : DEnv → Option (List PyData)} {E : XK}
theorem pd_call (G : FnOk X.prog X.w X.K X.mg X.base CX k f fd ps (spD X.K F)) (hr : Room k X.A) (hg : Gl X x) (hm : X.mg x = some (.ref f)) (hk : PySem.W.keepIn X.K (.ref f) = true) (hb : Binds X.K fd ps []) (hx : Passes CX X E)
    (ha : PAd X (e :: es) fs) (hdb : (x == ("__debug__" : Str)) = false := by decide) (he : starEach (e :: es) X.env = (false, eval e X.env) :: starEach es X.env := by rfl) (hpl : (backTo pos (starEach es X.env)).any (·.1) = false := by rfl) :
    PD X (.Call (.Name x p) (e :: es) [] pos) (eF F fs) := ⟨_, pe_call G hr hg hm hk hb .nil hx ha.pa hdb he hpl, fun H0 C H ρ σ z S h Q q => by
  obtain ⟨ds, e1, e2⟩ := bind_some' h
  refine ha.ex H0 C H ρ σ ds S e1 _ fun C1 H1 vs G1 D1 => ?_
  rw [List.append_nil]
  exact ⟨C1, ds, z, G1.s, D1, e2, fun C2 H2 v G2 D2 => q C2 H2 v (G1.trans G2) D2⟩⟩
end
end DL

set_option Elab.async false
set_option linter.all false
set_option maxRecDepth 100000
set_option maxHeartbeats 4000000
namespace DL
open PySem L2 PySem.Spec PyProof.Rows

/-! ### how a statement ends -/
inductive Out where
  | nx (ρ : DEnv)
  | rt (d : PyData)
  | bk (ρ : DEnv)
  | ct (ρ : DEnv)
  | no
structure StepC (H0 C C' : Hp) : Prop where
  c : Ex C C'
  f : ∀ a, C a = none → C' a ≠ none → H0 a = none
theorem StepC.refl {H0 C : Hp} : StepC H0 C C := ⟨Ex.refl _, fun _ h1 h2 => absurd h1 h2⟩
theorem StepC.trans {H0 C C1 C2 : Hp} (a : StepC H0 C C1) (b : StepC H0 C1 C2) : StepC H0 C C2 := ⟨a.c.trans b.c, fun x h1 h2 => by
  by_cases q : C1 x = none
  · exact b.f x q h2
  · exact a.f x h1 q⟩
theorem Grow.step {C H C' H' H0 : Hp} (g : Grow C H C' H') (e : Ex H0 H) : StepC H0 C C' := ⟨g.c, fun a h1 h2 => e.back (g.f a h1 h2)⟩
def OutOk (K : PySem.W.Frag) (H0 C : Hp) (D : Ends) : Out → Prop
  | .nx ρ => ∀ C' H' σ', StepC H0 C C' → Slots K H0 C' H' ρ σ' → D.nx σ' H'
  | .rt d => ∀ C' H' v, StepC H0 C C' → Ex C' H' → Ex H0 H' → Dp K C' v d → D.rt v H'
  | .bk ρ => ∀ C' H' σ', StepC H0 C C' → Slots K H0 C' H' ρ σ' → D.bk σ' H'
  | .ct ρ => ∀ C' H' σ', StepC H0 C C' → Slots K H0 C' H' ρ σ' → D.ct σ' H'
  | .no => False
theorem OutOk.mono {K : PySem.W.Frag} {H0 C C1 : Hp} {D : Ends} : ∀ {o : Out}, OutOk K H0 C D o → StepC H0 C C1 → OutOk K H0 C1 D o
  | .nx _, h, s => fun C' H' σ' t S => h C' H' σ' (s.trans t) S
  | .rt _, h, s => fun C' H' v t e e0 d => h C' H' v (s.trans t) e e0 d
  | .bk _, h, s => fun C' H' σ' t S => h C' H' σ' (s.trans t) S
  | .ct _, h, s => fun C' H' σ' t S => h C' H' σ' (s.trans t) S
  | .no, h, _ => h
abbrev DS := DEnv → Out
def StD (K : PySem.W.Frag) (t : TS) (F : DS) : Prop := ∀ H0 C H ρ σ D, Slots K H0 C H ρ σ → OutOk K H0 C D (F ρ) → t D σ H
def PSd (X : Cx) (st : Stmt) (F : DS) : Prop := ∃ t : TS, PS X st t ∧ StD X.K t F
noncomputable def PSd.rdg {X : Cx} {st : Stmt} {F : DS} (h : PSd X st F) : TS := Classical.choose h
theorem PSd.ps {X : Cx} {st : Stmt} {F : DS} (h : PSd X st F) : PS X st h.rdg := (Classical.choose_spec h).1
theorem PSd.ex {X : Cx} {st : Stmt} {F : DS} (h : PSd X st F) : StD X.K h.rdg F := (Classical.choose_spec h).2
def PSsd (X : Cx) (sts : List Stmt) (F : DS) : Prop := ∃ t : TS, PSs X sts t ∧ StD X.K t F
noncomputable def PSsd.rdg {X : Cx} {sts : List Stmt} {F : DS} (h : PSsd X sts F) : TS := Classical.choose h
theorem PSsd.ps {X : Cx} {sts : List Stmt} {F : DS} (h : PSsd X sts F) : PSs X sts h.rdg := (Classical.choose_spec h).1
theorem PSsd.ex {X : Cx} {sts : List Stmt} {F : DS} (h : PSsd X sts F) : StD X.K h.rdg F := (Classical.choose_spec h).2

/-! ### blocks -/
@[simp] def dNext : DS := fun ρ => .nx ρ
@[simp] def dSeq (F G : DS) : DS := fun ρ => match F ρ with
  | .nx ρ' => G ρ'
  | .rt d => .rt d
  | .bk ρ' => .bk ρ'
  | .ct ρ' => .ct ρ'
  | .no => .no
section
variable {X : Cx} {st : Stmt} {rest : List Stmt} {t u : TS} {F G : DS}
theorem std_next {K : PySem.W.Frag} : StD K tNext dNext := fun H0 C H ρ σ D S h => h C H σ StepC.refl S
theorem std_seq {K : PySem.W.Frag} (h1 : StD K t F) (h2 : StD K u G) : StD K (tSeq t u) (dSeq F G) := fun H0 C H ρ σ D S h => by
  refine h1 H0 C H ρ σ _ S ?_
  unfold dSeq at h
  cases e : F ρ with
  | nx ρ' =>
    rw [e] at h
    exact fun C' H' σ' s S' => h2 H0 C' H' ρ' σ' D S' (OutOk.mono (o := G ρ') h s)
  | rt d => rw [e] at h; exact h
  | bk ρ' => rw [e] at h; exact h
  | ct ρ' => rw [e] at h; exact h
  | no => rw [e] at h; exact h
theorem pss_nild : PSsd X [] dNext := ⟨_, pss_nil, std_next⟩
theorem pss_consd (h1 : PSd X st F) (h2 : PSsd X rest G) : PSsd X (st :: rest) (dSeq F G) := ⟨_, pss_cons h1.ps h2.ps, std_seq h1.ex h2.ex⟩
theorem pss_oned (h1 : PSd X st F) : PSsd X [st] F := ⟨_, pss_one h1.ps, h1.ex⟩
theorem ps_passd {pos : Pos} : PSd X (.Pass pos) dNext := ⟨_, ps_pass, std_next⟩
theorem ps_docd {x : Str} {j : Nat} {pos pos' : Pos} : PSd X (.Expr (.Constant (.str x) j pos) pos') dNext := ⟨_, ps_doc, std_next⟩
@[simp] def dBreak : DS := fun ρ => .bk ρ
@[simp] def dCont : DS := fun ρ => .ct ρ
theorem ps_breakd {pos : Pos} : PSd X (.Break pos) dBreak := ⟨_, ps_break, fun H0 C H ρ σ D S h => h C H σ StepC.refl S⟩
theorem ps_continued {pos : Pos} : PSd X (.Continue pos) dCont := ⟨_, ps_continue, fun H0 C H ρ σ D S h => h C H σ StepC.refl S⟩
/-- what a slot owned changes no more, from here on -/
@[simp] def frz (i : Nat) (ρ : DEnv) : DEnv := match ρ[i]? with
  | some (.own ds) => ρ.set i (.val (.list ds))
  | some (.oll dss) => ρ.set i (.val (.list (dss.map PyData.list)))
  | _ => ρ
@[simp] def dFrz (i : Nat) (F : DS) : DS := fun ρ => F (frz i ρ)
theorem std_frz {K : PySem.W.Frag} (i : Nat) (h1 : StD K t F) : StD K t (dFrz i F) := fun H0 C H ρ σ D S h => by
  unfold dFrz frz at h
  split at h
  · rename_i ds e
    obtain ⟨a, vs, e1, e2, e3, e4, e5⟩ := S.own e
    refine h1 H0 _ H _ σ D (S.freeze e e1 e2 e5) (OutOk.mono h ⟨Ex.new e3, fun b q1 q2 => ?_⟩)
    by_cases q : b = a
    · subst q; exact e4
    · rw [upd_ne q] at q2
      exact absurd q1 q2
  · rename_i dss e
    obtain ⟨C', S', st⟩ := S.freezeL e
    exact h1 H0 C' H _ σ D S' (OutOk.mono h ⟨st.1, st.2⟩)
  · exact h1 H0 C H ρ σ D S h
theorem pss_frz (i : Nat) (h : PSsd X rest F) : PSsd X rest (dFrz i F) := ⟨_, h.ps, std_frz i h.ex⟩
end

/-! ### simple statements -/
section
variable {X : Cx} {e : Expr} {te : TE} {f : Den} {fn : DEnv → Option (List PyData)} {pos pos' : Pos} {i : Nat} {x : Str}
@[simp] def dSet (i : Nat) (f : Den) : DS := fun ρ => match f ρ with
  | some d => .nx (ρ.set i (.val d))
  | none => .no
theorem std_set {K : PySem.W.Frag} (h : ExD K te f) : StD K (tAsg te (gName i)) (dSet i f) := fun H0 C H ρ σ D S k => by
  unfold dSet at k
  cases e : f ρ with
  | none => rw [e] at k; exact k.elim
  | some d =>
    rw [e] at k
    refine h H0 C H ρ σ d S e _ fun C' H' v G hd => ?_
    exact k C' H' _ (G.step S.ex0) ((S.grow G).setVal i hd)
theorem ps_setd (hN : X.N.Nodup) (he : PD X e f) (hi : X.N[i]? = some x := by rfl) (hx : Loc X.env.scope x := by first | exact Or.inl rfl | exact Or.inr rfl) (hs : swapsWith e (some (.Name x pos')) pos.line X.env = pure false := by rfl)
    (hf : X.fn x = true ∨ X.env.scope.names.lookup x = some .local := by first | exact .inl rfl | exact .inr rfl) : PSd X (.Assign [.Name x pos'] e pos) (dSet i f) := ⟨_, ps_set hN hi hx he.pe hs hf, std_set he.ex⟩
/-- a name that comes to own a new list -/
@[simp] def dOwn (i : Nat) (f : DEnv → Option (List PyData)) : DS := fun ρ => match f ρ with
  | some ds => .nx (ρ.set i (.own ds))
  | none => .no
theorem std_own {K : PySem.W.Frag} (h : ExN K te fn) : StD K (tAsg te (gName i)) (dOwn i fn) := fun H0 C H ρ σ D S k => by
  unfold dOwn at k
  cases e : fn ρ with
  | none => rw [e] at k; exact k.elim
  | some ds =>
    rw [e] at k
    refine h H0 C H ρ σ ds S e _ fun C' H' a vs G h0 hc hh hd => ?_
    exact k C' H' _ (G.step S.ex0) (S.setOwn G i h0 hc hh hd)
theorem ps_ownd (hN : X.N.Nodup) (he : PN X e fn) (hi : X.N[i]? = some x := by rfl) (hx : Loc X.env.scope x := by first | exact Or.inl rfl | exact Or.inr rfl) (hs : swapsWith e (some (.Name x pos')) pos.line X.env = pure false := by rfl)
    (hf : X.fn x = true ∨ X.env.scope.names.lookup x = some .local := by first | exact .inl rfl | exact .inr rfl) : PSd X (.Assign [.Name x pos'] e pos) (dOwn i fn) := ⟨_, ps_set hN hi hx he.pe hs hf, std_own he.ex⟩
@[simp] def dRet (f : Den) : DS := fun ρ => match f ρ with
  | some d => .rt d
  | none => .no
theorem ps_retd (he : PD X e f) : PSd X (.Return (some e) pos) (dRet f) := ⟨_, ps_ret he.pe, fun H0 C H ρ σ D S k => by
  unfold dRet at k
  cases q : f ρ with
  | none => rw [q] at k; exact k.elim
  | some d =>
    rw [q] at k
    refine he.ex H0 C H ρ σ d S q _ fun C' H' v G hd => ?_
    exact k C' H' v (G.step S.ex0) G.s (S.ex0.trans G.h) hd⟩
@[simp] def dRetN : DS := fun _ => .rt .none
theorem ps_retNd : PSd X (.Return none pos) dRetN := ⟨_, ps_retN, fun H0 C H ρ σ D S k => k C H _ StepC.refl S.ex S.ex0 .non⟩
@[simp] def dIf (p : DEnv → Option Bool) (F G : DS) : DS := fun ρ => match p ρ with
  | some true => F ρ
  | some false => G ρ
  | none => .no
theorem ps_ifd {c : Expr} {a b : List Stmt}   {p : DEnv → Option Bool} {F G : DS} (hc : PTd X c p) (ha : PSsd X a F) (hb : PSsd X b G) : PSd X (.If c a b pos) (dIf p F G) := ⟨_, ps_if hc.pt ha.ps hb.ps, fun H0 C H ρ σ D S k => by
  unfold dIf at k
  cases q : p ρ with
  | none => rw [q] at k; exact k.elim
  | some c =>
    rw [q] at k
    refine hc.ex H0 C H ρ σ c S q _ fun C' H' G' => ?_
    cases c with
    | true => exact ha.ex H0 C' H' ρ σ D (S.grow G') (OutOk.mono k (G'.step S.ex0))
    | false => exact hb.ex H0 C' H' ρ σ D (S.grow G') (OutOk.mono k (G'.step S.ex0))⟩
/-- xs.append(e), xs owned -/
@[simp] def dApp (i : Nat) (f : Den) : DS := fun ρ => match ρ[i]?, f ρ with
  | some (.own ds), some d => if ds.length ≤ most then .nx (ρ.set i (.own (ds ++ [d]))) else .no
  | _, _ => .no
theorem std_app {K : PySem.W.Frag} (h : ExD K te f) : StD K (tDrop (tBM K "list" rAppend (tVar i) (tCons te tNil))) (dApp i f) := fun H0 C H ρ σ D S k => by
  unfold dApp at k
  split at k
  · rename_i ds d e1 e2
    split at k
    · rename_i hl
      obtain ⟨a, vs, a1, a2, a3, a4, a5⟩ := S.own e1
      refine ⟨.ref a, a1, .inl ⟨rfl, vs, SqL.of a2⟩, h H0 C H ρ σ d S e2 _ fun C' H' v G hd => ?_⟩
      refine ⟨a, vs, v, rfl, rfl, G.h _ _ a2, most_lt (by rw [dps_len a5]; exact hl), ?_⟩
      exact k C' _ σ (G.step S.ex0) ((S.grow G).change e1 a1 (dps_app (dps_ex G.c a5) (.cons hd .nil)))
    · exact k.elim
  · exact k.elim
theorem ps_appd {p apos cpos : Pos} (he : PD X e f) (hN : X.N[i]? = some x := by rfl) (hv : Vis X.env.scope x := by first | exact Or.inl rfl | exact Or.inr (Or.inl rfl) | exact Or.inr (Or.inr rfl)) (hd : (x == ("__debug__" : Str)) = false := by decide)
    (hcd : (x == ("__classdict__" : Str)) = false := by decide) (hst1 : starEach (e :: []) X.env = (false, eval e X.env) :: starEach [] X.env := by rfl)
    (hbase : attributeBase (.Name x p) "append" X.env (eval (.Name x p) X.env) = eval (.Name x p) X.env := by rfl)
    (hfew : ((backTo cpos (starEach (e :: []) X.env)).all (fun x => !x.1) && (backToKw cpos (keywordEach [] X.env)).all (fun x => x.1.isSome)
      && decide ((e :: ([] : List Expr)).length + ([] : List Keyword).length + (if ([] : List Keyword).isEmpty then 0 else 1) < 30)) = true := by rfl)
    (hline : (apos.endLine == cpos.line) = true := by rfl) (hplain : (backTo cpos (starEach ([] : List Expr) X.env)).any (·.1) = false := by rfl)
    (hs : swapsWith (.Call (.Attribute (.Name x p) "append" apos) [e] [] cpos) none pos.line X.env = pure false := by rfl) : PSd X (.Expr (.Call (.Attribute (.Name x p) "append" apos) [e] [] cpos) pos) (dApp i f) :=
  ⟨_, ps_expr (pe_bm PySem.F.plainAttrs_list PySem.F.slot_list_append PySem.F.type_list_append mt_append (pe_var hN hv hd hcd) (pa_cons he.pe pa_nil hst1) hbase hfew hline hst1 hplain) hs, std_app he.ex⟩
end

/-! ### targets -/
def TgD (K : PySem.W.Frag) (g : TG) (G : PyData → DEnv → Option DEnv) (is : List Nat) : Prop := ∀ H0 C H ρ σ x d ρ', Slots K H0 C H ρ σ → Dp K C x d → G d ρ = some ρ' → ∀ Q : L2.St → Hp → Prop,
  (∀ σ', Slots K H0 C H ρ' σ' → (∀ vs : List Nat, (∀ i, i ∈ is → i ∈ vs) → L2.wipe σ' vs = L2.wipe σ vs) → Q σ' H) → g x σ H Q
def TgsD (K : PySem.W.Frag) (g : TGs) (G : List PyData → DEnv → Option DEnv) (is : List Nat) : Prop := ∀ H0 C H ρ σ xs ds ρ', Slots K H0 C H ρ σ → DpAll K C xs ds → G ds ρ = some ρ' → ∀ Q : L2.St → Hp → Prop,
  (∀ σ', Slots K H0 C H ρ' σ' → (∀ vs : List Nat, (∀ i, i ∈ is → i ∈ vs) → L2.wipe σ' vs = L2.wipe σ vs) → Q σ' H) → g xs σ H Q
def PGd (X : Cx) (tg : Expr) (G : PyData → DEnv → Option DEnv) (is : List Nat) : Prop := ∃ g : TG, PG X tg g ∧ TgD X.K g G is
noncomputable def PGd.rdg {X : Cx} {tg : Expr} {G : PyData → DEnv → Option DEnv} {is : List Nat} (h : PGd X tg G is) : TG := Classical.choose h
theorem PGd.pg {X : Cx} {tg : Expr} {G : PyData → DEnv → Option DEnv} {is : List Nat} (h : PGd X tg G is) : PG X tg h.rdg := (Classical.choose_spec h).1
theorem PGd.ex {X : Cx} {tg : Expr} {G : PyData → DEnv → Option DEnv} {is : List Nat} (h : PGd X tg G is) : TgD X.K h.rdg G is := (Classical.choose_spec h).2
def PGsd (X : Cx) (ts : List Expr) (G : List PyData → DEnv → Option DEnv) (is : List Nat) : Prop := ∃ g : TGs, PGs X ts g ∧ TgsD X.K g G is
noncomputable def PGsd.rdg {X : Cx} {ts : List Expr} {G : List PyData → DEnv → Option DEnv} {is : List Nat} (h : PGsd X ts G is) : TGs := Classical.choose h
theorem PGsd.pg {X : Cx} {ts : List Expr} {G : List PyData → DEnv → Option DEnv} {is : List Nat} (h : PGsd X ts G is) : PGs X ts h.rdg := (Classical.choose_spec h).1
theorem PGsd.ex {X : Cx} {ts : List Expr} {G : List PyData → DEnv → Option DEnv} {is : List Nat} (h : PGsd X ts G is) : TgsD X.K h.rdg G is := (Classical.choose_spec h).2
@[simp] def nName (i : Nat) : PyData → DEnv → Option DEnv := fun d ρ => some (ρ.set i (.val d))
@[simp] def nNil : List PyData → DEnv → Option DEnv := fun ds ρ => match ds with
  | [] => some ρ
  | _ :: _ => none
@[simp] def nCons (G : PyData → DEnv → Option DEnv) (Gs : List PyData → DEnv → Option DEnv) : List PyData → DEnv → Option DEnv := fun ds ρ => match ds with
  | [] => none
  | d :: r => match G d ρ with
    | some ρ' => Gs r ρ'
    | none => none
@[simp] def nTup (n : Nat) (Gs : List PyData → DEnv → Option DEnv) : PyData → DEnv → Option DEnv := fun d ρ => match d with
  | .tuple ds => if ds.length = n then Gs ds ρ else none
  | _ => none
section
variable {X : Cx} {pos : Pos} {i : Nat} {x : Str}
theorem pg_named (hN : X.N.Nodup) (hi : X.N[i]? = some x := by rfl) (hx : Loc X.env.scope x := by first | exact Or.inl rfl | exact Or.inr rfl) (hf : X.fn x = true ∨ X.env.scope.names.lookup x = some .local := by first | exact .inl rfl | exact .inr rfl) : PGd X (.Name x pos) (nName i) [i] :=
  ⟨_, pg_name hN hi hx hf, fun H0 C H ρ σ v d ρ' S hd e Q q => by
    cases e
    exact q _ (S.setVal i hd) fun vs hv => wipe_set σ i _ vs (hv i (by simp))⟩
theorem pgs_nild : PGsd X [] nNil [] := ⟨_, pgs_nil, fun H0 C H ρ σ xs ds ρ' S hd e Q q => by
  unfold nNil at e
  split at e
  · cases e
    cases hd
    exact ⟨rfl, q σ S fun _ _ => rfl⟩
  · cases e⟩
theorem pgs_consd {e : Expr} {es : List Expr}   {G : PyData → DEnv → Option DEnv} {Gs : List PyData → DEnv → Option DEnv} {is js : List Nat} (h1 : PGd X e G is) (h2 : PGsd X es Gs js)
    (hs : (assignEach (e :: es) X.env).map (·.2) = assign e X.env :: (assignEach es X.env).map (·.2) := by rfl) : PGsd X (e :: es) (nCons G Gs) (is ++ js) := ⟨_, pgs_cons h1.pg h2.pg hs, fun H0 C H ρ σ xs ds ρ' S hd q Q k => by
  unfold nCons at q
  split at q
  · cases q
  · rename_i d r
    cases hd with
    | cons a1 a2 =>
      refine ⟨_, _, rfl, ?_⟩
      cases e1 : G d ρ with
      | none => rw [e1] at q; cases q
      | some ρ1 =>
        rw [e1] at q
        refine h1.ex H0 C H ρ σ _ d ρ1 S a1 e1 _ fun σ1 S1 w1 => ?_
        refine h2.ex H0 C H ρ1 σ1 _ r ρ' S1 a2 q Q fun σ2 S2 w2 => ?_
        exact k σ2 S2 fun vs hv => (w2 vs fun j hj => hv j (List.mem_append_right _ hj)).trans (w1 vs fun j hj => hv j (List.mem_append_left _ hj))⟩
theorem pg_tupd {es : List Expr} {k : Nat}  {n : Nat} {Gs : List PyData → DEnv → Option DEnv} {is : List Nat} (h : PGsd X es Gs is) (hc : X.calm = true := by rfl) (hn : (assignEach es X.env).length = n := by rfl) (hst : (assignEach es X.env).findIdx? (·.1) = none := by rfl) : PGd X (.Tuple es k pos) (nTup n Gs) is := ⟨_, pg_tup hc h.pg hn hst, fun H0 C H ρ σ v d ρ' S hd e Q q => by
  unfold nTup at e
  split at e
  · split at e
    · rename_i hl
      cases hd with
      | tup s1 a1 => exact ⟨_, _, rfl, S.ex.t s1, (dps_len a1).trans hl, h.ex H0 C H ρ σ _ _ ρ' S a1 e Q q⟩
    · cases e
  · cases e⟩
@[simp] def dTgt (f : Den) (G : PyData → DEnv → Option DEnv) : DS := fun ρ => match f ρ with
  | some d => match G d ρ with
    | some ρ' => .nx ρ'
    | none => .no
  | none => .no
theorem ps_asgd {tg e : Expr}   {f : Den} {G : PyData → DEnv → Option DEnv} {is : List Nat} (he : PD X e f) (hg : PGd X tg G is) (hs : swapsWithSole [tg] e pos.line X.env = pure false := by rfl) (hw : swappedStores [tg] e X.env = pure none := by rfl)
    (h1 : (assignEach [tg] X.env).map (·.2) = [assign tg X.env] := by rfl) : PSd X (.Assign [tg] e pos) (dTgt f G) := ⟨_, ps_asg he.pe hg.pg hs hw h1, fun H0 C H ρ σ D S k => by
  unfold dTgt at k
  cases e1 : f ρ with
  | none => rw [e1] at k; exact k.elim
  | some d =>
    rw [e1] at k
    cases e2 : G d ρ with
    | none => simp only [e2] at k; exact k.elim
    | some ρ' =>
      simp only [e2] at k
      refine he.ex H0 C H ρ σ d S e1 _ fun C' H' v G' hd => ?_
      refine hg.ex H0 C' H' ρ σ v d ρ' (S.grow G') hd e2 _ fun σ' S' _ => ?_
      exact k C' H' σ' (G'.step S.ex0) S'⟩
end

/-! ### what is walked -/
/-- the iterator J yields the data ds, one by one, whatever comes to the heap meanwhile -/
structure Wk (K : PySem.W.Frag) (J : It) (C : Hp) (ds : List PyData) : Prop where
  go : ∀ C1 H1 i, Ex C C1 → Ex C1 H1 → i < ds.length → J.go i H1
  yld : ∀ C1 H1 i x H2, Ex C C1 → Ex C1 H1 → i < ds.length → J.yld i H1 x H2 → ∃ C2 d, ds[i]? = some d ∧ Grow C1 H1 C2 H2 ∧ Dp K C2 x d
  stop : ∀ C1 H1 i, Ex C C1 → Ex C1 H1 → ds.length ≤ i → J.stop i H1
def ItD (K : PySem.W.Frag) (wi : TI) (f : DEnv → Option (List PyData)) : Prop := ∀ H0 C H ρ σ ds, Slots K H0 C H ρ σ → f ρ = some ds → ∀ R : It → Hp → Prop, (∀ C' H' J, Grow C H C' H' → Wk K J C' ds → R J H') → wi σ H R
def PId (X : Cx) (tg iter : Expr) (f : DEnv → Option (List PyData)) : Prop := ∃ wi : TI, PI X tg iter wi ∧ ItD X.K wi f
noncomputable def PId.rdg {X : Cx} {tg iter : Expr} {f : DEnv → Option (List PyData)} (h : PId X tg iter f) : TI := Classical.choose h
theorem PId.pi {X : Cx} {tg iter : Expr} {f : DEnv → Option (List PyData)} (h : PId X tg iter f) : PI X tg iter h.rdg := (Classical.choose_spec h).1
theorem PId.ex {X : Cx} {tg iter : Expr} {f : DEnv → Option (List PyData)} (h : PId X tg iter f) : ItD X.K h.rdg f := (Classical.choose_spec h).2
theorem wk_list {K : PySem.W.Frag} {C : Hp} {a : Addr} {vs : List V} {ds : List PyData} (hs : SqL K C a vs) (hd : DpAll K C vs ds) (hi : ∀ C1 H1 xs, Ex C C1 → Ex C1 H1 → SqL K H1 a xs → xs = vs) : Wk K (Itl K a) C ds where
  go := fun C1 H1 i e1 e2 h => ⟨vs, vs[i]'(by rw [dps_len hd]; exact h), (e2.l (e1.l hs)), List.getElem?_eq_getElem _⟩
  yld := fun C1 H1 i x H2 e1 e2 h y => by
    obtain ⟨rfl, y⟩ := y
    have hx := y vs (e2.l (e1.l hs))
    obtain ⟨d, h1, h2⟩ := dps_getV hd hx
    exact ⟨C1, d, h1, Grow.refl e2, dp_ex e1 h2⟩
  stop := fun C1 H1 i e1 e2 h => ⟨vs, e2.l (e1.l hs), by rw [dps_len hd]; exact h⟩
@[simp] def asL (f : Den) : DEnv → Option (List PyData) := fun ρ => match f ρ with
  | some (.list ds) => some ds
  | _ => none
@[simp] def asT (f : Den) : DEnv → Option (List PyData) := fun ρ => match f ρ with
  | some (.tuple ds) => some ds
  | _ => none
theorem asL_some {f : Den} {ρ : DEnv} {ds : List PyData} (h : asL f ρ = some ds) : f ρ = some (.list ds) := by
  unfold asL at h
  split at h
  · cases h; assumption
  · cases h
theorem asT_some {f : Den} {ρ : DEnv} {ds : List PyData} (h : asT f ρ = some ds) : f ρ = some (.tuple ds) := by
  unfold asT at h
  split at h
  · cases h; assumption
  · cases h
section
variable {X : Cx} {tg l : Expr} {tl : TE} {f : Den}
theorem wkL {K : PySem.W.Frag} {C : Hp} {a : Addr} {vs : List V} {ds : List PyData} (hs : SqL K C a vs) (hd : DpAll K C vs ds) : Wk K (Itl K a) C ds where
  go := fun C1 H1 i e1 e2 h => ⟨vs, vs[i]'(by rw [dps_len hd]; exact h), (e2.l (e1.l hs)), List.getElem?_eq_getElem _⟩
  yld := fun C1 H1 i x H2 e1 e2 h y => by
    obtain ⟨rfl, y⟩ := y
    have hx := y vs (e2.l (e1.l hs))
    obtain ⟨d, h1, h2⟩ := dps_getV hd hx
    exact ⟨C1, d, h1, Grow.refl e2, dp_ex e1 h2⟩
  stop := fun C1 H1 i e1 e2 h => ⟨vs, e2.l (e1.l hs), by rw [dps_len hd]; exact h⟩
theorem wkT {K : PySem.W.Frag} {C : Hp} {a : Addr} {vs : List V} {ds : List PyData} (hs : SqT K C a vs) (hd : DpAll K C vs ds) : Wk K (Itt K a) C ds where
  go := fun C1 H1 i e1 e2 h => ⟨vs, vs[i]'(by rw [dps_len hd]; exact h), (e2.t (e1.t hs)), List.getElem?_eq_getElem _⟩
  yld := fun C1 H1 i x H2 e1 e2 h y => by
    obtain ⟨rfl, y⟩ := y
    have hx := y vs (e2.t (e1.t hs))
    obtain ⟨d, h1, h2⟩ := dps_getV hd hx
    exact ⟨C1, d, h1, Grow.refl e2, dp_ex e1 h2⟩
  stop := fun C1 H1 i e1 e2 h => ⟨vs, e2.t (e1.t hs), by rw [dps_len hd]; exact h⟩
theorem pi_listd (h : PD X l f) : PId X tg l (asL f) := ⟨_, pi_list h.pe, fun H0 C H ρ σ ds S e R q => by
  refine h.ex H0 C H ρ σ _ S (asL_some e) _ fun C' H' v G D => ?_
  cases D with
  | lst s1 a1 => exact ⟨_, rfl, ⟨_, G.s.l s1⟩, q C' H' _ G (wkL s1 a1)⟩⟩
theorem pi_tupd (h : PD X l f) : PId X tg l (asT f) := ⟨_, pi_tup h.pe, fun H0 C H ρ σ ds S e R q => by
  refine h.ex H0 C H ρ σ _ S (asT_some e) _ fun C' H' v G D => ?_
  cases D with
  | tup s1 a1 => exact ⟨_, rfl, ⟨_, G.s.t s1⟩, q C' H' _ G (wkT s1 a1)⟩⟩
def upto (lo : Int) (n : Nat) : List PyData := (List.range n).map fun (i : Nat) => .int (lo + i)
theorem upto_len (lo : Int) (n : Nat) : (upto lo n).length = n := by simp [upto]
theorem upto_get {lo : Int} {n i : Nat} (h : i < n) : (upto lo n)[i]? = some (.int (lo + i)) := by
  unfold upto
  rw [List.getElem?_map, List.getElem?_range h]
  rfl
theorem wkR {K : PySem.W.Frag} {C : Hp} (lo : Int) (n : Nat) : Wk K (Itr lo n) C (upto lo n) where
  go := fun C1 H1 i e1 e2 h => by rw [upto_len] at h; exact h
  yld := fun C1 H1 i x H2 e1 e2 h y => by
    rw [upto_len] at h
    obtain ⟨rfl, rfl⟩ := y
    exact ⟨C1, _, upto_get h, Grow.refl e2, .int _⟩
  stop := fun C1 H1 i e1 e2 h => by rw [upto_len] at h; exact h
@[simp] def rng1 (fs : DEnv → Option (List PyData)) : DEnv → Option (List PyData) := fun ρ => match fs ρ with
  | some [.int j] => if -1000000 ≤ j ∧ j ≤ 1000000 then some (upto 0 j.toNat) else none
  | _ => none
@[simp] def rng2 (fs : DEnv → Option (List PyData)) : DEnv → Option (List PyData) := fun ρ => match fs ρ with
  | some [.int i, .int j] => if -1000000 ≤ i ∧ i ≤ 1000000 ∧ -1000000 ≤ j ∧ j ≤ 1000000 then some (upto i (j - i).toNat) else none
  | _ => none
variable {a b : Expr} {ta : TA} {fs : DEnv → Option (List PyData)} {p pos : Pos}
theorem pi_range1d (hm : X.mg "range" = none) (ha : PAd X [a] fs) (hg : Gl X "range" := by rfl) (hs : starEach [a] X.env = [(false, eval a X.env)] := by rfl) : PId X tg (.Call (.Name "range" p) [a] [] pos) (rng1 fs) := ⟨_, pi_range1 hg hm ha.pa hs, fun H0 C H ρ σ ds S e R q => by
  unfold rng1 at e
  split at e
  · rename_i j hj
    split at e
    · rename_i hb
      cases e
      refine ha.ex H0 C H ρ σ _ S hj _ fun C' H' vs G D => ?_
      cases D with
      | cons d1 d2 =>
        cases d2
        cases d1
        exact ⟨j, rfl, by omega, by omega, q C' H' _ G (wkR 0 j.toNat)⟩
    · cases e
  · cases e⟩
theorem pi_range2d (hm : X.mg "range" = none) (ha : PAd X [a, b] fs) (hg : Gl X "range" := by rfl) (hs : starEach [a, b] X.env = [(false, eval a X.env), (false, eval b X.env)] := by rfl) (hs2 : starEach [b] X.env = [(false, eval b X.env)] := by rfl) :
    PId X tg (.Call (.Name "range" p) [a, b] [] pos) (rng2 fs) := ⟨_, pi_range2 hg hm ha.pa hs hs2, fun H0 C H ρ σ ds S e R q => by
  unfold rng2 at e
  split at e
  · rename_i i j hj
    split at e
    · rename_i hb
      cases e
      refine ha.ex H0 C H ρ σ _ S hj _ fun C' H' vs G D => ?_
      cases D with
      | cons d1 d2 =>
        cases d2 with
        | cons d2 d3 =>
          cases d3
          cases d1
          cases d2
          exact ⟨i, j, rfl, ⟨by omega, by omega, by omega, by omega⟩, q C' H' _ G (wkR i (j - i).toNat)⟩
    · cases e
  · cases e⟩
/-- enumerate(xs) -/
def enumFrom : Nat → List PyData → List PyData
  | _, [] => []
  | n, d :: r => .tuple [.int n, d] :: enumFrom (n + 1) r
theorem enumFrom_len : ∀ (n : Nat) (ds : List PyData), (enumFrom n ds).length = ds.length
  | _, [] => rfl
  | n, d :: r => congrArg (· + 1) (enumFrom_len (n + 1) r)
theorem enumFrom_get : ∀ (n : Nat) (ds : List PyData) (i : Nat) (d : PyData), ds[i]? = some d → (enumFrom n ds)[i]? = some (.tuple [.int (n + i : Nat), d])
  | _, [], _, _, h => by simp at h
  | n, d :: r, 0, e, h => by
    simp at h
    subst h
    rfl
  | n, d :: r, i + 1, e, h => by
    have ih := enumFrom_get (n + 1) r i e (by simpa using h)
    show (enumFrom (n + 1) r)[i]? = _
    rw [ih]
    have z : n + 1 + i = n + (i + 1) := by omega
    rw [z]
theorem wkE {K : PySem.W.Frag} {C : Hp} {a : Addr} {vs : List V} {ds : List PyData} (hs : SqL K C a vs) (hd : DpAll K C vs ds) : Wk K (Ite K a) C (enumFrom 0 ds) where
  go := fun C1 H1 i e1 e2 h => by
    rw [enumFrom_len] at h
    exact ⟨vs, vs[i]'(by rw [dps_len hd]; exact h), (e2.l (e1.l hs)), List.getElem?_eq_getElem _⟩
  yld := fun C1 H1 i x H2 e1 e2 h y => by
    obtain ⟨T, x', rfl, hT, rfl, y⟩ := y
    have hx := y vs (e2.l (e1.l hs))
    obtain ⟨d, h1, h2⟩ := dps_getV hd hx
    have n := Grow.new (o := .tup [.int (i : Nat), x']) e2 hT
    refine ⟨_, _, enumFrom_get 0 ds i d h1, n, .tup (SqT.of upd_same) (.cons ?_ (.cons (dp_ex n.c (dp_ex e1 h2)) .nil))⟩
    rw [Nat.zero_add]
    exact .int _
  stop := fun C1 H1 i e1 e2 h => ⟨vs, e2.l (e1.l hs), by rw [dps_len hd]; rw [enumFrom_len] at h; exact h⟩
@[simp] def enumL (fs : DEnv → Option (List PyData)) : DEnv → Option (List PyData) := fun ρ => match fs ρ with
  | some [.list ds] => some (enumFrom 0 ds)
  | _ => none
theorem pi_enumd {tpos : Pos} {elts : List Expr} {kk : Nat} (hm : X.mg "enumerate" = none) (ha : PAd X [a] fs) (hg : Gl X "enumerate" := by rfl) (hs : starEach [a] X.env = [(false, eval a X.env)] := by rfl) :
    PId X (.Tuple elts kk tpos) (.Call (.Name "enumerate" p) [a] [] pos) (enumL fs) := ⟨_, pi_enum hg hm ha.pa hs, fun H0 C H ρ σ ds S e R q => by
  unfold enumL at e
  split at e
  · rename_i es hj
    cases e
    refine ha.ex H0 C H ρ σ _ S hj _ fun C' H' vs G D => ?_
    cases D with
    | cons d1 d2 =>
      cases d2
      cases d1 with
      | lst s1 a1 => exact ⟨_, _, rfl, G.s.l s1, q C' H' _ G (wkE s1 a1)⟩
  · cases e⟩
end

/-! ### for -/
def forGo (G : PyData → DEnv → Option DEnv) (B : DS) : List PyData → DS
  | [], ρ => .nx ρ
  | d :: ds, ρ => match G d ρ with
    | none => .no
    | some ρ1 => match B ρ1 with
      | .nx ρ2 => forGo G B ds ρ2
      | .ct ρ2 => forGo G B ds ρ2
      | .bk ρ2 => .nx ρ2
      | .rt d => .rt d
      | .no => .no
@[simp] def dFor (src : DEnv → Option (List PyData)) (G : PyData → DEnv → Option DEnv) (B : DS) : DS := fun ρ => match src ρ with
  | some ds => forGo G B ds ρ
  | none => .no
theorem std_for {K : PySem.W.Frag} {wi : TI} {g : TG} {tb : TS} {src : DEnv → Option (List PyData)} {G : PyData → DEnv → Option DEnv} {B : DS} {is : List Nat} (hi : ItD K wi src) (hg : TgD K g G is) (hb : StD K tb B) : StD K (tFor wi g tb) (dFor src G B) := fun H0 C H ρ σ D S k => by
  unfold dFor at k
  cases e : src ρ with
  | none => rw [e] at k; exact k.elim
  | some ds =>
    rw [e] at k
    refine hi H0 C H ρ σ ds S e _ fun C1 H1 J G1 W => ?_
    refine ⟨fun i m σ' H' => m = ds.length - i ∧ i ≤ ds.length ∧ ∃ C' ρ', Slots K H0 C' H' ρ' σ' ∧ StepC H0 C1 C' ∧ OutOk K H0 C' D (forGo G B (ds.drop i) ρ'),
      ⟨ds.length, by omega, Nat.zero_le _, C1, ρ, S.grow G1, StepC.refl, OutOk.mono k (G1.step S.ex0)⟩, ?_⟩
    rintro i m σ' H' ⟨rfl, hle, C', ρ', S', st, k'⟩
    by_cases hlt : i < ds.length
    · have edr : ds.drop i = ds[i] :: ds.drop (i + 1) := List.drop_eq_getElem_cons hlt
      rw [edr] at k'
      refine .inr ⟨W.go C' H' i st.c S'.ex hlt, fun σ2 H2 => ds.length - (i + 1) = ds.length - (i + 1) ∧ i + 1 ≤ ds.length ∧ ∃ C' ρ', Slots K H0 C' H2 ρ' σ2 ∧ StepC H0 C1 C' ∧ OutOk K H0 C' D (forGo G B (ds.drop (i + 1)) ρ'),
        fun σ2 H2 hN => ⟨ds.length - (i + 1), by omega, hN⟩, fun x H2 hy => ?_⟩
      obtain ⟨C2, d, hd, G2, D2⟩ := W.yld C' H' i x H2 st.c S'.ex hlt hy
      have ed : ds[i] = d := by
        rw [List.getElem?_eq_getElem hlt] at hd
        exact Option.some.inj hd
      rw [ed] at k'
      have s2 : StepC H0 C' C2 := G2.step S'.ex0
      unfold forGo at k'
      cases eg : G d ρ' with
      | none => rw [eg] at k'; exact k'.elim
      | some ρ1 =>
        rw [eg] at k'
        refine hg H0 C2 H2 ρ' σ' x d ρ1 (S'.grow G2) D2 eg _ fun σ3 S3 _ => ?_
        refine hb H0 C2 H2 ρ1 σ3 _ S3 ?_
        cases eb : B ρ1 with
        | nx ρ2 =>
          simp only [eb] at k'
          exact fun C4 H4 σ4 s4 S4 => ⟨rfl, hlt, C4, ρ2, S4, (st.trans s2).trans s4, OutOk.mono (OutOk.mono k' s2) s4⟩
        | ct ρ2 =>
          simp only [eb] at k'
          exact fun C4 H4 σ4 s4 S4 => ⟨rfl, hlt, C4, ρ2, S4, (st.trans s2).trans s4, OutOk.mono (OutOk.mono k' s2) s4⟩
        | bk ρ2 =>
          simp only [eb] at k'
          exact fun C4 H4 σ4 s4 S4 => k' C4 H4 σ4 (s2.trans s4) S4
        | rt v =>
          simp only [eb] at k'
          exact fun C4 H4 v s4 e1 e2 d => k' C4 H4 v (s2.trans s4) e1 e2 d
        | no =>
          simp only [eb] at k'
          exact k'.elim
    · have ei : ds.drop i = [] := List.drop_eq_nil_of_le (by omega)
      rw [ei] at k'
      exact .inl ⟨W.stop C' H' i st.c S'.ex (by omega), k' C' H' σ' StepC.refl S'⟩
theorem ps_ford {X : Cx} {tg iter : Expr} {body : List Stmt}    {src : DEnv → Option (List PyData)} {G : PyData → DEnv → Option DEnv} {B : DS} {is : List Nat} {pos : Pos} (hp : PassesOwn (model X.prog X.w) X.A X.env X.xe) (hi : PId X tg iter src) (hg : PGd X tg G is)
    (hb : PSsd X body B) (hc : X.calm = true := by rfl) (hs : ∀ x, foldedSetIterable iter X.env x = pure x := by intro _; rfl) : PSd X (.For tg iter body [] pos) (dFor src G B) := ⟨_, ps_for hp hc hi.pi hg.pg hb.ps hs, std_for hi.ex hg.ex hb.ex⟩

/-! ### while -/
def whileGo (p : DEnv → Option Bool) (B : DS) : Nat → DS
  | 0, _ => .no
  | n + 1, ρ => match p ρ with
    | none => .no
    | some false => .nx ρ
    | some true => match B ρ with
      | .nx ρ2 => whileGo p B n ρ2
      | .ct ρ2 => whileGo p B n ρ2
      | .bk ρ2 => .nx ρ2
      | .rt d => .rt d
      | .no => .no
theorem std_while {K : PySem.W.Frag} {tc : TT} {tb : TS} {p : DEnv → Option Bool} {B : DS} (n : Nat) (hc : TsD K tc p) (hb : StD K tb B) : StD K (tWhile tc tb) (whileGo p B n) := fun H0 C H ρ σ D S k => by
  refine ⟨fun m σ' H' => ∃ C' ρ', Slots K H0 C' H' ρ' σ' ∧ OutOk K H0 C' D (whileGo p B m ρ'), ⟨n, C, ρ, S, k⟩, ?_⟩
  rintro m σ' H' ⟨C', ρ', S', k'⟩
  cases m with
  | zero => exact k'.elim
  | succ m =>
    unfold whileGo at k'
    cases e : p ρ' with
    | none => rw [e] at k'; exact k'.elim
    | some c =>
      rw [e] at k'
      refine hc H0 C' H' ρ' σ' c S' e _ fun C1 H1 G1 => ?_
      have s1 : StepC H0 C' C1 := G1.step S'.ex0
      cases c with
      | false => exact k' C1 H1 σ' s1 (S'.grow G1)
      | true =>
        refine ⟨fun σ2 H2 => ∃ C' ρ', Slots K H0 C' H2 ρ' σ2 ∧ OutOk K H0 C' D (whileGo p B m ρ'), fun σ2 H2 hN => ⟨m, Nat.lt_succ_self _, hN⟩, ?_⟩
        refine hb H0 C1 H1 ρ' σ' _ (S'.grow G1) ?_
        cases eb : B ρ' with
        | nx ρ2 =>
          simp only [eb] at k'
          exact fun C4 H4 σ4 s4 S4 => ⟨C4, ρ2, S4, OutOk.mono (OutOk.mono k' s1) s4⟩
        | ct ρ2 =>
          simp only [eb] at k'
          exact fun C4 H4 σ4 s4 S4 => ⟨C4, ρ2, S4, OutOk.mono (OutOk.mono k' s1) s4⟩
        | bk ρ2 =>
          simp only [eb] at k'
          exact fun C4 H4 σ4 s4 S4 => k' C4 H4 σ4 (s1.trans s4) S4
        | rt v =>
          simp only [eb] at k'
          exact fun C4 H4 v s4 e1 e2 d => k' C4 H4 v (s1.trans s4) e1 e2 d
        | no =>
          simp only [eb] at k'
          exact k'.elim
theorem ps_whiled {X : Cx} {c : Expr} {body : List Stmt}   {p : DEnv → Option Bool} {B : DS} {pos : Pos} (n : Nat) (hp : PassesOwn (model X.prog X.w) X.A X.env X.xe) (hc : PTd X c p) (hb : PSsd X body B) : PSd X (.While c body [] pos) (whileGo p B n) :=
  ⟨_, ps_while hp hc.pt hb.ps, std_while n hc.ex hb.ex⟩

/-! ### comprehensions -/
def lcGo (G : PyData → DEnv → Option DEnv) (p : DEnv → Option Bool) (f : Den) : List PyData → DEnv → Option (List PyData)
  | [], _ => some []
  | d :: ds, ρ => match G d ρ with
    | none => none
    | some ρ1 => match p ρ1 with
      | none => none
      | some true => match f ρ1, lcGo G p f ds ρ with
        | some v, some r => some (v :: r)
        | _, _ => none
      | some false => lcGo G p f ds ρ
@[simp] def dLc (src : DEnv → Option (List PyData)) (G : PyData → DEnv → Option DEnv) (p : DEnv → Option Bool) (f : Den) (vs : List Nat) : DEnv → Option (List PyData) := fun ρ => match src ρ with
  | some ds => if ds.length ≤ most then lcGo G p f ds (wipeE ρ vs) else none
  | none => none
def PTsd (X : Cx) (ifs : List Expr) (p : DEnv → Option Bool) : Prop := ∃ t : TT, PTs X ifs t ∧ TsD X.K t p
noncomputable def PTsd.rdg {X : Cx} {ifs : List Expr} {p : DEnv → Option Bool} (h : PTsd X ifs p) : TT := Classical.choose h
theorem PTsd.pt {X : Cx} {ifs : List Expr} {p : DEnv → Option Bool} (h : PTsd X ifs p) : PTs X ifs h.rdg := (Classical.choose_spec h).1
theorem PTsd.ex {X : Cx} {ifs : List Expr} {p : DEnv → Option Bool} (h : PTsd X ifs p) : TsD X.K h.rdg p := (Classical.choose_spec h).2
@[simp] def yes : DEnv → Option Bool := fun _ => some true
theorem pts_nild {X : Cx} : PTsd X [] yes := ⟨_, pts_nil, fun H0 C H ρ σ b S e Q q => by
  cases e
  exact q C H (Grow.refl S.ex)⟩
theorem pts_oned {X : Cx} {c : Expr}  {p : DEnv → Option Bool} (h : PTd X c p) : PTsd X [c] p := ⟨_, pts_one h.pt, h.ex⟩
theorem exn_lc {K : PySem.W.Frag} {wi : TI} {g : TG} {tt : TT} {te : TE} {src : DEnv → Option (List PyData)} {G : PyData → DEnv → Option DEnv} {p : DEnv → Option Bool} {f : Den} {is vs : List Nat} (hi : ItD K wi src) (hg : TgD K g G is) (ht : TsD K tt p) (he : ExD K te f) (hv : ∀ i, i ∈ is → i ∈ vs) :
    ExN K (tLc wi g tt te vs) (dLc src G p f vs) := fun H0 C H ρ σ out S k Q q => by
  unfold dLc at k
  cases e : src ρ with
  | none => rw [e] at k; cases k
  | some ds =>
    simp only [e] at k
    split at k
    · rename_i hmost
      refine hi H0 C H ρ σ ds S e _ fun C1 H1 J G1 W => ?_
      intro D hD
      have S1 := (S.grow G1).wipe vs
      refine ⟨fun i m H' => m = ds.length - i ∧ i ≤ ds.length ∧ ∃ C' acc done rest, Grow C1 H1 C' H' ∧ C' D = none ∧ H' D = some (.lst acc) ∧ DpAll K C' acc done ∧ done.length ≤ i ∧ lcGo G p f (ds.drop i) (wipeE ρ vs) = some rest ∧ done ++ rest = out,
        ⟨ds.length, by omega, Nat.zero_le _, C1, [], [], out, Grow.newH G1.s hD, G1.s.back hD, upd_same, .nil, Nat.le_refl _, k, rfl⟩, ?_⟩
      rintro i m H' ⟨rfl, hle, C', acc, done, rest, G', hc, hd, ha, hn, hl, ho⟩
      by_cases hlt : i < ds.length
      · have edr : ds.drop i = ds[i] :: ds.drop (i + 1) := List.drop_eq_getElem_cons hlt
        rw [edr] at hl
        refine .inr ⟨W.go C' H' i G'.c G'.s hlt, fun H2 => ds.length - (i + 1) = ds.length - (i + 1) ∧ i + 1 ≤ ds.length ∧ ∃ C' acc done rest, Grow C1 H1 C' H2 ∧ C' D = none ∧ H2 D = some (.lst acc) ∧ DpAll K C' acc done ∧ done.length ≤ i + 1 ∧ lcGo G p f (ds.drop (i + 1)) (wipeE ρ vs) = some rest ∧ done ++ rest = out,
          fun H2 hN => ⟨ds.length - (i + 1), by omega, hN⟩, fun x H2 hy => ?_⟩
        obtain ⟨C2, d, hd2, G2, D2⟩ := W.yld C' H' i x H2 G'.c G'.s hlt hy
        have ed : ds[i] = d := by
          rw [List.getElem?_eq_getElem hlt] at hd2
          exact Option.some.inj hd2
        rw [ed] at hl
        unfold lcGo at hl
        cases eg : G d (wipeE ρ vs) with
        | none => rw [eg] at hl; cases hl
        | some ρ1 =>
          simp only [eg] at hl
          have S2 := (S1.grow G').grow G2
          refine hg H0 C2 H2 (wipeE ρ vs) (L2.wipe σ vs) x d ρ1 S2 D2 eg _ fun σ3 S3 w3 => ?_
          refine ⟨(w3 vs hv).trans (wipe_idem σ vs) |>.trans rfl, ?_⟩
          have hd2' : H2 D = some (.lst acc) := G2.h _ _ hd
          have hc2 : C2 D = none := G2.same hd hc
          cases ep : p ρ1 with
          | none => simp only [ep] at hl; cases hl
          | some b =>
            simp only [ep] at hl
            refine ht H0 C2 H2 ρ1 σ3 b S3 ep _ fun C3 H3 G3 => ?_
            have hd3 : H3 D = some (.lst acc) := G3.h _ _ hd2'
            have hc3 : C3 D = none := G3.same hd2' hc2
            have g3 : Grow C1 H1 C3 H3 := (G'.trans G2).trans G3
            cases b with
            | false =>
              simp only [Bool.false_eq_true, if_false]
              exact ⟨by trivial, hlt, C3, acc, done, rest, g3, hc3, hd3, dps_ex G3.c (dps_ex G2.c ha), by omega, hl, ho⟩
            | true =>
              simp only [if_true]
              cases ef : f ρ1 with
              | none => simp only [ef] at hl; cases hl
              | some v =>
                cases er : lcGo G p f (ds.drop (i + 1)) (wipeE ρ vs) with
                | none => simp only [ef, er] at hl; cases hl
                | some r =>
                  simp only [ef, er] at hl
                  have hr : v :: r = rest := Option.some.inj hl
                  refine he H0 C3 H3 ρ1 σ3 v (S3.grow G3) ef _ fun C4 H4 y G4 D4 => ?_
                  have hd4 : H4 D = some (.lst acc) := G4.h _ _ hd3
                  have hc4 : C4 D = none := G4.same hd3 hc3
                  have g4 : Grow C1 H1 C4 H4 := g3.trans G4
                  have ha4 : DpAll K C4 acc done := dps_ex G4.c (dps_ex G3.c (dps_ex G2.c ha))
                  refine ⟨acc, hd4, most_lt (by rw [dps_len ha]; omega), by trivial, hlt, C4, acc ++ [y], done ++ [v], r, ⟨g4.c, g4.h.mut hD, g4.s.mut hc4, g4.f⟩, hc4, upd_same, dps_app ha4 (.cons D4 .nil), ?_, by first | exact er | rfl, ?_⟩
                  · rw [List.length_append]
                    show done.length + 1 ≤ i + 1
                    omega
                  · rw [List.append_assoc]
                    show done ++ (v :: r) = out
                    rw [hr]
                    exact ho
      · have ei : ds.drop i = [] := List.drop_eq_nil_of_le (by omega)
        rw [ei] at hl
        have hr : [] = rest := Option.some.inj hl
        rw [← hr, List.append_nil] at ho
        rw [ho] at ha
        exact .inl ⟨W.stop C' H' i G'.c G'.s (by omega), q C' H' D acc (G1.trans G') (G1.h.back hD) hc hd ha⟩
    · cases k
section
variable {X : Cx} {elt tg iter : Expr} {ifs : List Expr} {scope : Scope} {own : List (Str × Nat)} {pos : Pos} {wi : TI} {g : TG} {tt : TT} {te : TE} {src : DEnv → Option (List PyData)} {G : PyData → DEnv → Option DEnv} {p : DEnv → Option Bool} {f : Den} {is : List Nat}
theorem uni_PD (h : ∀ (s : Shared) (H : Hp) (C : Addr) (cl : List (Str × Addr)) (fp : List Addr), PD (X.blk s H scope (compEnvC scope cl C X.env) fp) elt f) :
    ∃ te, (∀ (s : Shared) (H : Hp) (C : Addr) (cl : List (Str × Addr)) (fp : List Addr), PE (X.blk s H scope (compEnvC scope cl C X.env) fp) elt te) ∧ ExD X.K te f :=
  ⟨fun σ H Q => ∀ (s : Shared) (H' : Hp) (C : Addr) (cl : List (Str × Addr)) (fp : List Addr), (h s H' C cl fp).rdg σ H Q, fun s H C cl fp => ⟨fun pins s1 σ H1 Q I hw => (h s H C cl fp).pe.run pins s1 σ H1 Q I (hw s H C cl fp)⟩,
    fun H0 C H ρ σ d S e Q q s H' C' cl fp => (h s H' C' cl fp).ex H0 C H ρ σ d S e Q q⟩
theorem uni_PTs (h : ∀ (s : Shared) (H : Hp) (C : Addr) (cl : List (Str × Addr)) (fp : List Addr), PTsd (X.blk s H scope (compEnvC scope cl C X.env) fp) ifs p) :
    ∃ te, (∀ (s : Shared) (H : Hp) (C : Addr) (cl : List (Str × Addr)) (fp : List Addr), PTs (X.blk s H scope (compEnvC scope cl C X.env) fp) ifs te) ∧ TsD X.K te p :=
  ⟨fun σ H Q => ∀ (s : Shared) (H' : Hp) (C : Addr) (cl : List (Str × Addr)) (fp : List Addr), (h s H' C cl fp).rdg σ H Q, fun s H C cl fp => ⟨fun pins s1 σ H1 Q I hw => (h s H C cl fp).pt.run pins s1 σ H1 Q I (hw s H C cl fp)⟩,
    fun H0 C H ρ σ d S e Q q s H' C' cl fp => (h s H' C' cl fp).ex H0 C H ρ σ d S e Q q⟩
theorem uni_PG (h : ∀ (s : Shared) (H : Hp) (C : Addr) (cl : List (Str × Addr)) (fp : List Addr), PGd (X.blk s H scope (compEnvC scope cl C X.env) fp) tg G is) :
    ∃ g, (∀ (s : Shared) (H : Hp) (C : Addr) (cl : List (Str × Addr)) (fp : List Addr), PG (X.blk s H scope (compEnvC scope cl C X.env) fp) tg g) ∧ TgD X.K g G is :=
  ⟨fun v σ H Q => ∀ (s : Shared) (H' : Hp) (C : Addr) (cl : List (Str × Addr)) (fp : List Addr), (h s H' C cl fp).rdg v σ H Q, fun s H C cl fp => ⟨fun pins s1 σ H1 v u Q I r hw => (h s H C cl fp).pg.run pins s1 σ H1 v u Q I r (hw s H C cl fp)⟩,
    fun H0 C H ρ σ x d ρ' S hd e Q q s H' C' cl fp => (h s H' C' cl fp).ex H0 C H ρ σ x d ρ' S hd e Q q⟩
theorem pn_lc {vs : List Nat} (own : List (Str × Nat)) (hN : X.N.Nodup) (hi : PId X tg iter src)
    (hg : ∀ (s : Shared) (H : Hp) (C : Addr) (cl : List (Str × Addr)) (fp : List Addr), PGd (X.blk s H scope (compEnvC scope cl C X.env) fp) tg G is) (ht : ∀ (s : Shared) (H : Hp) (C : Addr) (cl : List (Str × Addr)) (fp : List Addr), PTsd (X.blk s H scope (compEnvC scope cl C X.env) fp) ifs p)
    (he : ∀ (s : Shared) (H : Hp) (C : Addr) (cl : List (Str × Addr)) (fp : List Addr), PD (X.blk s H scope (compEnvC scope cl C X.env) fp) elt f) (hok : blkC X.N X.env.scope scope own = true := by kernel_rfl) (hvs : own.map (·.2) = vs := by rfl) (hv : ∀ i, i ∈ is → i ∈ vs := by decide) (hc : X.calm = true := by rfl) (hs : ∀ x, foldedSetIterable iter X.env x = pure x := by intro _; rfl) :
    PN X (.ListComp elt [⟨tg, iter, ifs, 0⟩] scope pos) (dLc src G p f vs) := by
  subst hvs
  have ok := blkOk_by hok
  obtain ⟨g, hg1, hg2⟩ := uni_PG hg
  obtain ⟨tt, ht1, ht2⟩ := uni_PTs ht
  obtain ⟨te, he1, he2⟩ := uni_PD he
  exact ⟨_, pe_lc hc hN hi.pi ok hg1 ht1 he1 hs, exn_lc hi.ex hg2 ht2 he2 hv⟩
/-- y = [..] -/
theorem ps_setLcd {i : Nat} {y : Str} {py spos : Pos} {vs : List Nat} (own : List (Str × Nat)) (hN : X.N.Nodup) (hi : PId X tg iter src)
    (hg : ∀ (s : Shared) (H : Hp) (C : Addr) (cl : List (Str × Addr)) (fp : List Addr), PGd (X.blk s H scope (compEnvC scope cl C X.env) fp) tg G is) (ht : ∀ (s : Shared) (H : Hp) (C : Addr) (cl : List (Str × Addr)) (fp : List Addr), PTsd (X.blk s H scope (compEnvC scope cl C X.env) fp) ifs p)
    (he : ∀ (s : Shared) (H : Hp) (C : Addr) (cl : List (Str × Addr)) (fp : List Addr), PD (X.blk s H scope (compEnvC scope cl C X.env) fp) elt f)
    (hsw : swapsWith (.ListComp elt [⟨tg, iter, ifs, 0⟩] scope pos) (some (.Name y py)) spos.line X.env = pure true) (hok : blkC X.N X.env.scope scope own = true := by kernel_rfl) (hvs : own.map (·.2) = vs := by rfl) (hv : ∀ i, i ∈ is → i ∈ vs := by decide) (hy : X.N[i]? = some y := by rfl) (hyl : X.env.scope.names.lookup y = some .local := by rfl) (hc : X.calm = true := by rfl) (hs : ∀ x, foldedSetIterable iter X.env x = pure x := by intro _; rfl) :
    PSd X (.Assign [.Name y py] (.ListComp elt [⟨tg, iter, ifs, 0⟩] scope pos) spos) (dSet i (lstD (dLc src G p f vs))) := by
  subst hvs
  have ok := blkOk_by hok
  obtain ⟨g, hg1, hg2⟩ := uni_PG hg
  obtain ⟨tt, ht1, ht2⟩ := uni_PTs ht
  obtain ⟨te, he1, he2⟩ := uni_PD he
  exact ⟨_, ps_setLc hc hN hy hyl hsw hi.pi ok hg1 ht1 he1 hs, std_set (exn_d (exn_lc hi.ex hg2 ht2 he2 hv))⟩
end

/-! ### a def -/
@[simp] def defD (np n : Nat) (B : DS) : List PyData → Option PyData := fun ds => if ds.length = np then (match B (ds.map SV.val ++ List.replicate (n - np) SV.un) with
  | .rt d => some d
  | .nx _ => some .none
  | _ => none) else none
theorem start_slots {K : PySem.W.Frag} {C H : Hp} {N : List Str} {vs : List V} {ds : List PyData} (e : Ex C H) (hd : DpAll K C vs ds) (hl : vs.length ≤ N.length) : Slots K H C H (ds.map SV.val ++ List.replicate (N.length - ds.length) SV.un) (L2.start N vs) := by
  have el := dps_len hd
  refine ⟨e, Ex.refl _, ?_, fun _ => [], fun i s h => ?_, fun _ b hb => by simp at hb, fun _ _ b hb => by simp at hb⟩
  · unfold L2.start
    simp [el]
  · by_cases q : i < ds.length
    · rw [List.getElem?_append_left (by simpa using q), List.getElem?_map] at h
      cases e1 : ds[i]? with
      | none => rw [e1] at h; cases h
      | some d =>
        rw [e1] at h
        cases h
        obtain ⟨v, h1, h2⟩ := dps_get hd e1
        refine ⟨rfl, v, ?_, h2⟩
        unfold L2.start
        rw [List.getElem?_append_left (by simp [el]; exact q), List.getElem?_map, h1]
        rfl
    · rw [List.getElem?_append_right (by simpa using Nat.le_of_not_lt q)] at h
      have := List.getElem?_replicate (a := SV.un) (n := N.length - ds.length) (i := i - (ds.map SV.val).length)
      rw [this] at h
      split at h
      · cases h
        exact rfl
      · cases h
theorem def_ok {P : Program} {w : World} {K : PySem.W.Frag} {mg : Str → Option Value} {base : Heap} {x qual : Str} {st : Stmt} {f : Addr} {fd : FuncData} {N ps : List Str} {k : Nat} (F : Fun K x qual st f fd) (S : FnScope N ps (defScope st)) {B : DS} (hn : ps.length ≤ N.length)
    (hb : ∀ (cdv : Value) (A : Around) (outer : List Env) (s : Shared) (H : Hp) (E : XK), Room k (A.deeper (envOfC qual (defScope st) s.heap.objs.size f cdv)) →
      PSsd (cxOf CX0 P w K mg base N qual (defScope st) f cdv A outer s H E).nox (defBody st) B) : FnOk P w K mg base CX0 (k + 1) f fd ps (spD K (defD ps.length N.length B)) := by
  have len : ∀ vs H Q E, spD K (defD ps.length N.length B) vs H Q E → vs.length = ps.length := fun vs H Q E h => by
    obtain ⟨C, ds, d, e, hd, hF, _⟩ := h
    unfold defD at hF
    split at hF
    · rename_i hl
      rw [dps_len hd, hl]
    · cases hF
  refine F.ok S len (fun cdv A outer s H vs Q E hr h => ?_)
  have ht := hb cdv A outer s H E hr
  refine ⟨_, ht.ps, ?_⟩
  have hvl := len vs H Q E h
  obtain ⟨C, ds, d, e, hd, hF, q⟩ := h
  have hl : ds.length = ps.length := by rw [← dps_len hd]; exact hvl
  have S0 := start_slots (N := N) e hd (by rw [hvl]; exact hn)
  rw [hl] at S0
  refine ht.ex H C H _ _ _ S0 ?_
  unfold defD at hF
  rw [if_pos hl] at hF
  cases eo : B (ds.map SV.val ++ List.replicate (N.length - ps.length) SV.un) with
  | nx ρ =>
    rw [eo] at hF
    cases hF
    exact fun C' H' σ' s S' => q C' H' .non ⟨s.c, S'.ex0, S'.ex, s.f⟩ .non
  | rt v =>
    rw [eo] at hF
    cases hF
    exact fun C' H' v s e1 e2 d => q C' H' v ⟨s.c, e2, e1, s.f⟩ d
  | bk ρ => rw [eo] at hF; cases hF
  | ct ρ => rw [eo] at hF; cases hF
  | no => rw [eo] at hF; cases hF
end DL

set_option Elab.async false
set_option linter.all false
set_option maxRecDepth 100000
set_option maxHeartbeats 4000000
namespace DL
open PySem L2 PySem.Spec PyProof.Rows

theorem room_u {k : Nat} {A : Around} (r : Room k A) : A.units + 67 < cLine := by have := r.un; omega
theorem room_4 {k : Nat} {A : Around} (r : Room k A) : A.units + 64 < cLine := by have := r.un; omega
theorem room_5 {k : Nat} {A : Around} (r : Room k A) : A.units + 65 < cLine := by have := r.un; omega

/-! ### a list or a tuple walked -/
def iSeq (K : PySem.W.Frag) (tl : TE) : TI := fun σ H R => tl σ H fun x H1 => ∃ a, x = .ref a ∧ ((∃ xs, SqL K H1 a xs ∧ R (Itl K a) H1) ∨ ∃ xs, SqT K H1 a xs ∧ R (Itt K a) H1)
theorem pi_seq {X : Cx} {tg l : Expr} {tl : TE} (hl : PE X l tl) : PI X tg l (iSeq X.K tl) := by
  refine ⟨fun pins s σ H R I h => ?_⟩
  refine thn (hl.run pins s σ H _ I h) fun v s1 ⟨x, H1, I1, r1, q1⟩ => ?_
  obtain ⟨a, e, q⟩ := q1
  subst e
  cases r1
  rcases q with ⟨xs, hq, q⟩ | ⟨xs, hq, q⟩
  · obtain ⟨its, rv, p, hz⟩ := I1.list hq
    refine wpAny_pyIter_list p.isList ?_
    refine ⟨s1.heap.objs.size, [s1.heap.objs.size], _, _, H1, rfl, I1.kept (t' := s1.toks) fun b o e => Heap.get?_push_of_some _ e, turn_list a _, ⟨_, Heap.get?_push_size _ rfl, rfl, rfl⟩, fun b hb => ?_, q⟩
    have e : b = s1.heap.objs.size := by simpa using hb
    subst e
    exact I1.fpOk (Nat.le_refl _) (I1.hok.fresh (Nat.le_refl _))
  · obtain ⟨its, rv, p, hz⟩ := I1.tuple hq
    refine wpAny_pyIter_tuple (show s1.heap.IsTuple a its.toArray from p) ?_
    refine ⟨s1.heap.objs.size, [s1.heap.objs.size], _, _, H1, rfl, I1.kept (t' := s1.toks) fun b o e => Heap.get?_push_of_some _ e, turn_tuple a _, ⟨_, Heap.get?_push_size _ rfl, rfl, rfl⟩, fun b hb => ?_, q⟩
    have e : b = s1.heap.objs.size := by simpa using hb
    subst e
    exact I1.fpOk (Nat.le_refl _) (I1.hok.fresh (Nat.le_refl _))
@[simp] def asS (f : Den) : DEnv → Option (List PyData) := fun ρ => match f ρ with
  | some (.list ds) => some ds
  | some (.tuple ds) => some ds
  | _ => none
theorem pi_seqd {X : Cx} {tg l : Expr}  {f : Den} (h : PD X l f) : PId X tg l (asS f) := ⟨_, pi_seq h.pe, fun H0 C H ρ σ ds S e R q => by
  unfold asS at e
  split at e
  · rename_i es h1
    cases e
    refine h.ex H0 C H ρ σ _ S h1 _ fun C' H' v G D => ?_
    cases D with
    | lst s1 a1 => exact ⟨_, rfl, .inl ⟨_, G.s.l s1, q C' H' _ G (wkL s1 a1)⟩⟩
  · rename_i es h1
    cases e
    refine h.ex H0 C H ρ σ _ S h1 _ fun C' H' v G D => ?_
    cases D with
    | tup s1 a1 => exact ⟨_, rfl, .inr ⟨_, G.s.t s1, q C' H' _ G (wkT s1 a1)⟩⟩
  · cases e⟩

/-! ### a def by its name -/
structure DefOk (P : Program) (w : World) (K : PySem.W.Frag) (mg : Str → Option Value) (base : Heap) (k : Nat) (x : Str) (ps : List Str) (F : List PyData → Option PyData) : Prop where
  ex : ∃ f fd, FnOk P w K mg base CX0 k f fd ps (spD K F) ∧ mg x = some (.ref f) ∧ PySem.W.keepIn K (.ref f) = true ∧ Binds K fd ps []
section
variable {X : Cx} {k j : Nat} {ps : List Str} {F : List PyData → Option PyData} {x : Str} {p pos : Pos} {e : Expr} {es : List Expr} {t : TA} {fs : DEnv → Option (List PyData)}
theorem pd_fn (h : DefOk X.prog X.w X.K X.mg X.base k x ps F) (hr : Room j X.A) (hkj : k ≤ j) (ha : PAd X (e :: es) fs) (hg : Gl X x := by rfl)
    (hdb : (x == ("__debug__" : Str)) = false := by decide) (he : starEach (e :: es) X.env = (false, eval e X.env) :: starEach es X.env := by rfl) (hpl : (backTo pos (starEach es X.env)).any (·.1) = false := by rfl) :
    PD X (.Call (.Name x p) (e :: es) [] pos) (eF F fs) := by
  obtain ⟨f, fd, G, hm, hk, hb⟩ := h.ex
  exact pd_call G (hr.mono hkj) hg hm hk hb pass0 ha hdb he hpl
end
theorem def_named {P : Program} {w : World} {K : PySem.W.Frag} {mg : Str → Option Value} {base : Heap} {x qual : Str} {st : Stmt} {f : Addr} {fd : FuncData} {N ps : List Str} {k : Nat} (F : Fun K x qual st f fd) (hm : mg x = some (.ref f)) (hbd : Binds K fd ps []) (S : FnScope N ps (defScope st)) {B : DS} (hn : ps.length ≤ N.length)
    (hb : ∀ (cdv : Value) (A : Around) (outer : List Env) (s : Shared) (H : Hp) (E : XK), Room k (A.deeper (envOfC qual (defScope st) s.heap.objs.size f cdv)) →
      PSsd (cxOf CX0 P w K mg base N qual (defScope st) f cdv A outer s H E).nox (defBody st) B) : DefOk P w K mg base (k + 1) x ps (defD ps.length N.length B) :=
  ⟨f, fd, def_ok F S hn hb, hm, F.kp, hbd⟩
/-- a def of the top: what k_is finds of it -/
structure TopFn (K : PySem.W.Frag) (x : Str) (st : Stmt) (f : Addr) : Prop where
  at_ : PySem.W.nsIn K mainGlobals x = some (some (.ref f))
  fn : ∃ (oc : Value) (od : Option Addr) (kV doc pm : Value) (an : Option Addr) (cdv ct : Value) (osl : Array (Option Value)),
    K.lookup f = some ⟨oc, od, .func (PySem.W.fnOf x x (defArgs st) (defBody st) (defScope st) .none kV doc pm an cdv ct), osl⟩ ∧ PySem.W.codeIn K cdv x = true
  kp : PySem.W.keepIn K (.ref f) = true
theorem top_fn {K : PySem.W.Frag} {x : Str} {st : Stmt} {f : Addr} {oc : Value} {od : Option Addr} {kV doc pm : Value} {an : Option Addr} {cdv ct : Value} {osl : Array (Option Value)} (a : PySem.W.nsIn K mainGlobals x = some (some (.ref f)))
    (l : K.lookup f = some ⟨oc, od, .func (PySem.W.fnOf x x (defArgs st) (defBody st) (defScope st) .none kV doc pm an cdv ct), osl⟩) (c : PySem.W.codeIn K cdv x = true) (k : PySem.W.keepIn K (.ref f) = true) : TopFn K x st f := ⟨a, ⟨_, _, _, _, _, _, _, _, _, l, c⟩, k⟩
theorem TopFn.def_ {K : PySem.W.Frag} {h : Heap} {mg : Str → Option Value} {x : Str} {st : Stmt} {f : Addr} {ps : List Str} (T : TopFn K x st f) (X : K.In h) (G : h.Ns mainGlobals mg)
    (hb : ∀ (kV doc pm : Value) (an : Option Addr) (cdv ct : Value) (us : List Value), us.length = ps.length → bindArgs (PySem.W.fnOf x x (defArgs st) (defBody st) (defScope st) .none kV doc pm an cdv ct) ⟨us, []⟩ = pure (ps.zip us)) :
    mg x = some (.ref f) ∧ ∃ fd, Fun K x x st f fd ∧ Binds K fd ps [] := by
  obtain ⟨oc, od, kV, doc, pm, an, cdv, ct, osl, l, c⟩ := T.fn
  have F := fun_mk (st := st) l c T.kp
  exact ⟨PySem.W.mg_of X G T.at_, _, F, F.binds hb⟩
end DL

set_option Elab.async false
set_option linter.all false
set_option maxRecDepth 100000
set_option maxHeartbeats 4000000
namespace DL
open PySem L2 PySem.Spec PyProof.Rows
/-! ### a list of lists of one's own: [], append of a new list, + [[]], append to the last one -/
section
variable {K : PySem.W.Frag} {H0 C H : Hp} {ρ : DEnv} {σ : L2.St}
theorem ne_some {H : Hp} {a b : Addr} {o : HO} (h : H a = some o) (hn : H b = none) : a ≠ b := fun e => by
  rw [e, hn] at h
  cases h
/-- the list of slot i comes to hold one more list, at p, new -/
theorem Slots.ollMore (S : Slots K H0 C H ρ σ) {C' H' : Hp} (G : Grow C H C' H') {i : Nat} {dss : List (List PyData)} {a p : Addr} {as : List Addr} {vs : List V} {ds : List PyData} (nd : (a :: as).Nodup) (ea : σ[i]? = some (some (.ref a))) (h1 : H a = some (.lst (as.map V.ref))) (hI : Inner K C H as dss)
    (hn : ∀ b, b ∈ a :: as → C b = none ∧ H0 b = none) (hu : ∀ fp : Nat → List Addr, (∀ (i : Nat) s, ρ[i]? = some s → SlotOk K C H s σ[i]? (fp i)) → fp i = a :: as)
    (hp : H p = none) (hpc : C' p = none) (hph : H' p = some (.lst vs)) (hd : DpAll K C' vs ds) :
    Slots K H0 C' (upd H' a (.lst (as.map V.ref ++ [.ref p]))) (ρ.set i (.oll (dss ++ [ds]))) σ := by
  have hap : a ≠ p := ne_some h1 hp
  have hasp : ∀ b, b ∈ as → b ≠ p := fun b hb => by
    obtain ⟨o, ho⟩ := hI.there b hb
    exact ne_some ho hp
  have haas : ∀ b, b ∈ as → b ≠ a := fun b hb e => by
    rw [e] at hb
    exact (List.nodup_cons.mp nd).1 hb
  have hac : C' a = none := G.same h1 (hn a List.mem_cons_self).1
  have z := S.put (C' := C') (H' := upd H' a (.lst (as.map V.ref ++ [.ref p]))) i (.oll (dss ++ [ds])) (some (.ref a)) (a :: (as ++ [p])) G.c (G.s.mut hac) ((S.ex0.trans G.h).mut (hn a List.mem_cons_self).2)
    ⟨a, as ++ [p], rfl, ?_, rfl, by rw [upd_same, List.map_append]; rfl, ?_⟩ (fun b hb => ?_) fun fp q1 q2 q3 j b hj hb => ?_
  · rw [set_back ea] at z
    exact z
  · refine List.nodup_cons.mpr ⟨fun hm => ?_, ?_⟩
    · rcases List.mem_append.mp hm with hm | hm
      · exact haas a hm rfl
      · exact hap (by simpa using hm)
    · rw [List.nodup_append]
      refine ⟨(List.nodup_cons.mp nd).2, by simp, fun x hx y hy e => ?_⟩
      have : y = p := by simpa using hy
      exact hasp x hx (by rw [e, this])
  · refine (hI.frame G.c fun b hb => ?_).app (.cons (by rw [upd_ne (fun e => hap e.symm)]; exact hph) hd .nil)
    obtain ⟨o, ho⟩ := hI.there b hb
    rw [upd_ne (haas b hb), ho, G.h b o ho]
  · have e3 : b = a ∨ b ∈ as ∨ b = p := by simpa using hb
    rcases e3 with e | e | e
    · subst e
      exact ⟨hac, (hn b List.mem_cons_self).2⟩
    · obtain ⟨o, ho⟩ := hI.there b e
      exact ⟨G.same ho (hn b (List.mem_cons_of_mem _ e)).1, (hn b (List.mem_cons_of_mem _ e)).2⟩
    · rw [e]
      exact ⟨hpc, S.ex0.back hp⟩
  · obtain ⟨z1, z2, z3⟩ := q2 j b hb
    obtain ⟨o, ho⟩ := (q1 j _ (List.getElem?_eq_getElem z1)).there b hb
    have hne : b ∉ a :: as := fun hm => hj (q3 j i b hb (by rw [hu fp q1]; exact hm))
    have hba : b ≠ a := fun e => hne (by rw [e]; exact List.mem_cons_self)
    refine ⟨by rw [upd_ne hba, ho, G.h b o ho], G.same ho z2, fun hm => ?_⟩
    have e3 : b = a ∨ b ∈ as ∨ b = p := by simpa using hm
    rcases e3 with e | e | e
    · exact hba e
    · exact hne (List.mem_cons_of_mem _ e)
    · exact ne_some ho hp e
end
section
variable {X : Cx} {e : Expr} {te : TE} {f : Den} {fn : DEnv → Option (List PyData)} {pos pos' : Pos} {i : Nat} {x : Str}
/-- x = [] -/
@[simp] def dOll (i : Nat) : DS := fun ρ => .nx (ρ.set i (.oll []))
theorem std_oll {K : PySem.W.Frag} (h : ExN K te (fun _ => some [])) : StD K (tAsg te (gName i)) (dOll i) := fun H0 C H ρ σ D S k => by
  refine h H0 C H ρ σ [] S rfl _ fun C' H' a vs G h0 hc hh hd => ?_
  refine k C' H' _ (G.step S.ex0) ?_
  cases hd
  refine S.put i _ _ [a] G.c G.s (S.ex0.trans G.h) ⟨a, [], rfl, by simp, rfl, hh, .nil⟩ (fun b hb => ?_) fun fp q1 q2 q3 j b _ hb => ?_
  · have e : b = a := by simpa using hb
    subst e
    exact ⟨hc, S.ex0.back h0⟩
  · obtain ⟨z1, z2, z3⟩ := q2 j b hb
    obtain ⟨u, hu⟩ := (q1 j _ (List.getElem?_eq_getElem z1)).there b hb
    refine ⟨by rw [hu, G.h b u hu], G.same hu z2, fun hm => ?_⟩
    have e : b = a := by simpa using hm
    exact ne_some hu h0 e
theorem exn_nil {K : PySem.W.Frag} : ExN K (tLst tNil) (fun _ => some []) := fun H0 C H ρ σ ds S e Q q => by
  cases e
  refine ⟨Nat.zero_le _, fun p hp => ?_⟩
  exact q C _ p [] (Grow.newH S.ex hp) hp (S.ex.back hp) upd_same .nil
theorem ps_olld {p2 : Pos} (hN : X.N.Nodup) (hi : X.N[i]? = some x := by rfl) (hx : Loc X.env.scope x := by first | exact Or.inl rfl | exact Or.inr rfl) (hs : swapsWith (.List [] p2) (some (.Name x pos')) pos.line X.env = pure false := by rfl)
    (hf : X.fn x = true ∨ X.env.scope.names.lookup x = some .local := by first | exact .inl rfl | exact .inr rfl) : PSd X (.Assign [.Name x pos'] (.List [] p2) pos) (dOll i) := ⟨_, ps_set hN hi hx (pe_lst pa_nil) hs hf, std_oll exn_nil⟩
/-- x.append(e), e a new list -/
@[simp] def dOllApp (i : Nat) (f : DEnv → Option (List PyData)) : DS := fun ρ => match ρ[i]?, f ρ with
  | some (.oll dss), some ds => if dss.length ≤ most then .nx (ρ.set i (.oll (dss ++ [ds]))) else .no
  | _, _ => .no
theorem std_ollApp {K : PySem.W.Frag} (h : ExN K te fn) : StD K (tDrop (tBM K "list" rAppend (tVar i) (tCons te tNil))) (dOllApp i fn) := fun H0 C H ρ σ D S k => by
  unfold dOllApp at k
  split at k
  · rename_i dss ds e1 e2
    split at k
    · rename_i hl
      obtain ⟨a, as, nd, ea, h1, hI, hn, hu⟩ := S.oll e1
      refine ⟨.ref a, ea, .inl ⟨rfl, _, SqL.of h1⟩, h H0 C H ρ σ ds S e2 _ fun C' H' p vs G h0 hc hh hd => ?_⟩
      refine ⟨a, as.map V.ref, .ref p, rfl, rfl, G.h _ _ h1, most_lt (by rw [List.length_map, hI.len]; exact hl), ?_⟩
      exact k C' _ σ (G.step S.ex0) (S.ollMore G nd ea h1 hI hn hu h0 hc hh hd)
    · exact k.elim
  · exact k.elim
theorem ps_ollAppd {p apos cpos : Pos} (he : PN X e fn) (hN : X.N[i]? = some x := by rfl) (hv : Vis X.env.scope x := by first | exact Or.inl rfl | exact Or.inr (Or.inl rfl) | exact Or.inr (Or.inr rfl)) (hd : (x == ("__debug__" : Str)) = false := by decide)
    (hcd : (x == ("__classdict__" : Str)) = false := by decide) (hst1 : starEach (e :: []) X.env = (false, eval e X.env) :: starEach [] X.env := by rfl)
    (hbase : attributeBase (.Name x p) "append" X.env (eval (.Name x p) X.env) = eval (.Name x p) X.env := by rfl)
    (hfew : ((backTo cpos (starEach (e :: []) X.env)).all (fun x => !x.1) && (backToKw cpos (keywordEach [] X.env)).all (fun x => x.1.isSome)
      && decide ((e :: ([] : List Expr)).length + ([] : List Keyword).length + (if ([] : List Keyword).isEmpty then 0 else 1) < 30)) = true := by rfl)
    (hline : (apos.endLine == cpos.line) = true := by rfl) (hplain : (backTo cpos (starEach ([] : List Expr) X.env)).any (·.1) = false := by rfl)
    (hs : swapsWith (.Call (.Attribute (.Name x p) "append" apos) [e] [] cpos) none pos.line X.env = pure false := by rfl) : PSd X (.Expr (.Call (.Attribute (.Name x p) "append" apos) [e] [] cpos) pos) (dOllApp i fn) :=
  ⟨_, ps_expr (pe_bm PySem.F.plainAttrs_list PySem.F.slot_list_append PySem.F.type_list_append mt_append (pe_var hN hv hd hcd) (pa_cons he.pe pa_nil hst1) hbase hfew hline hst1 hplain) hs, std_ollApp he.ex⟩
/-- x = x + [[]] -/
@[simp] def dOllCat (i : Nat) : DS := fun ρ => match ρ[i]? with
  | some (.oll dss) => if dss.length < most then .nx (ρ.set i (.oll (dss ++ [[]]))) else .no
  | _ => .no
theorem std_ollCat {K : PySem.W.Frag} : StD K (tAsg (tOp (rAddD K) (tVar i) (tLst (tCons (tLst tNil) tNil))) (gName i)) (dOllCat i) := fun H0 C H ρ σ D S k => by
  unfold dOllCat at k
  split at k
  · rename_i dss e1
    split at k
    · rename_i hl
      obtain ⟨a, as, nd, ea, h1, hI, hn, hu⟩ := S.oll e1
      refine ⟨.ref a, ea, Nat.zero_le _, fun p hp => ⟨by show 1 ≤ sizeLine; decide, fun q hq => ?_⟩⟩
      have hpq : p ≠ q := ne_some (upd_same : upd H p (.lst []) p = _) hq
      have h1' : upd (upd H p (.lst [])) q (.lst [.ref p]) a = some (.lst (as.map V.ref)) := by
        rw [upd_ne (ne_some (show upd H p (.lst []) a = some (.lst (as.map V.ref)) by rw [upd_ne (ne_some h1 hp)]; exact h1) hq), upd_ne (ne_some h1 hp)]
        exact h1
      refine .inr ⟨a, q, _, _, rfl, rfl, SqL.of h1', SqL.of upd_same, ?_, fun r hr => ?_⟩
      · rw [List.length_map, hI.len]
        exact most_line (show dss.length + 1 ≤ most from hl)
      · have nq : q ≠ r := ne_some (upd_same : upd (upd H p (.lst [])) q (.lst [.ref p]) q = _) hr
        have np : p ≠ r := ne_some (show upd (upd H p (.lst [])) q (.lst [.ref p]) p = some (.lst []) by rw [upd_ne hpq]; exact upd_same) hr
        have nr : H r = none := by
          rw [upd_ne (fun z => nq z.symm), upd_ne (fun z => np z.symm)] at hr
          exact hr
        have nq0 : H q = none := by
          rw [upd_ne (fun z => hpq z.symm)] at hq
          exact hq
        have keep : ∀ b o, H b = some o → upd (upd (upd H p (.lst [])) q (.lst [.ref p])) r (.lst (as.map V.ref ++ [.ref p])) b = some o := fun b o hb => by
          rw [upd_ne (ne_some hb nr), upd_ne (ne_some hb nq0), upd_ne (ne_some hb hp)]
          exact hb
        have hasp : ∀ b, b ∈ as → b ≠ p ∧ b ≠ r := fun b hb => by
          obtain ⟨o, ho⟩ := hI.there b hb
          exact ⟨ne_some ho hp, ne_some ho nr⟩
        refine k C _ _ StepC.refl ?_
        refine S.put i (.oll (dss ++ [[]])) (some (.ref r)) (r :: (as ++ [p])) (Ex.refl _) (fun b o hb => keep b o (S.ex b o hb)) (fun b o hb => keep b o (S.ex0 b o hb)) ⟨r, as ++ [p], rfl, ?_, rfl, by rw [upd_same, List.map_append]; rfl, ?_⟩ (fun b hb => ?_) fun fp q1 q2 q3 j b hj hb => ?_
        · refine List.nodup_cons.mpr ⟨fun hm => ?_, ?_⟩
          · rcases List.mem_append.mp hm with hm | hm
            · exact (hasp r hm).2 rfl
            · exact np (show r = p by simpa using hm).symm
          · rw [List.nodup_append]
            refine ⟨(List.nodup_cons.mp nd).2, by simp, fun x hx y hy e => ?_⟩
            have : y = p := by simpa using hy
            exact (hasp x hx).1 (by rw [e, this])
        · refine (hI.frame (Ex.refl _) fun b hb => ?_).app (.cons (by rw [upd_ne np, upd_ne hpq]; exact upd_same) .nil .nil)
          obtain ⟨o, ho⟩ := hI.there b hb
          rw [ho]
          exact keep b o ho
        · have e3 : b = r ∨ b ∈ as ∨ b = p := by simpa using hb
          rcases e3 with e | e | e
          · rw [e]; exact ⟨S.ex.back nr, S.ex0.back nr⟩
          · exact hn b (List.mem_cons_of_mem _ e)
          · rw [e]; exact ⟨S.ex.back hp, S.ex0.back hp⟩
        · obtain ⟨z1, z2, z3⟩ := q2 j b hb
          obtain ⟨o, ho⟩ := (q1 j _ (List.getElem?_eq_getElem z1)).there b hb
          have hne : b ∉ a :: as := fun hm => hj (q3 j i b hb (by rw [hu fp q1]; exact hm))
          refine ⟨by rw [ho]; exact keep b o ho, z2, fun hm => ?_⟩
          have e3 : b = r ∨ b ∈ as ∨ b = p := by simpa using hm
          rcases e3 with e | e | e
          · exact ne_some ho nr e
          · exact hne (List.mem_cons_of_mem _ e)
          · exact ne_some ho hp e
    · exact k.elim
  · exact k.elim
theorem ps_ollCatd {p p1 p2 p3 : Pos} (hN : X.N.Nodup) (hi : X.N[i]? = some x := by rfl) (hx : Loc X.env.scope x := by first | exact Or.inl rfl | exact Or.inr rfl) (hv : Vis X.env.scope x := by first | exact Or.inl rfl | exact Or.inr (Or.inl rfl) | exact Or.inr (Or.inr rfl)) (hd : (x == ("__debug__" : Str)) = false := by decide)
    (hcd : (x == ("__classdict__" : Str)) = false := by decide) (hs : swapsWith (.BinOp (.Name x p) .Add (.List [.List [] p1] p2) p3) (some (.Name x pos')) pos.line X.env = pure false := by rfl) (hst : starEach (Expr.List [] p1 :: []) X.env = (false, eval (.List [] p1) X.env) :: starEach [] X.env := by rfl)
    (hf : X.fn x = true ∨ X.env.scope.names.lookup x = some .local := by first | exact .inl rfl | exact .inr rfl) : PSd X (.Assign [.Name x pos'] (.BinOp (.Name x p) .Add (.List [.List [] p1] p2) p3) pos) (dOllCat i) :=
  ⟨_, ps_set hN hi hx (pe_op op_addD (pe_var hi hv hd hcd) (pe_lst (pa_cons (pe_lst pa_nil) pa_nil hst))) hs hf, std_ollCat⟩
/-- x[-1].append(e) -/
@[simp] def dOllLast (i : Nat) (f : Den) : DS := fun ρ => match ρ[i]?, f ρ with
  | some (.oll dss), some d => match dss.getLast? with
    | some ds => if ds.length ≤ most then .nx (ρ.set i (.oll (dss.dropLast ++ [ds ++ [d]]))) else .no
    | none => .no
  | _, _ => .no
theorem std_ollLast {K : PySem.W.Frag} (h : ExD K te f) : StD K (tDrop (tBM K "list" rAppend (tOp (fun x y H Q => rIxL K x y H Q ∨ rIxT K x y H Q) (tVar i) (tUn (rU fun i => .int (-i)) (tC (.int 1)))) (tCons te tNil))) (dOllLast i f) := fun H0 C H ρ σ D S k => by
  unfold dOllLast at k
  split at k
  · rename_i dss d e1 e2
    split at k
    · rename_i ds el
      split at k
      · rename_i hl
        obtain ⟨a, as, nd, ea, h1, hI, hn, hu⟩ := S.oll e1
        have edss : dss = dss.dropLast ++ [ds] := by
          rw [List.getLast?_eq_some_iff] at el
          obtain ⟨ys, rfl⟩ := el
          rw [List.dropLast_concat]
        generalize dss.dropLast = dl at edss k
        subst edss
        obtain ⟨as', b, vs, rfl, i1, i2, i3⟩ := hI.last
        have hat : atI ((as' ++ [b]).map V.ref) (-1) = some (.ref b) := by
          rw [List.map_append]
          exact atI_last _ _
        refine ⟨.ref a, ea, 1, rfl, .inl ⟨a, _, -1, .ref b, rfl, rfl, SqL.of h1, hat, .inl ⟨rfl, vs, SqL.of i2⟩, ?_⟩⟩
        refine h H0 C H ρ σ d S e2 _ fun C' H' v G hd => ?_
        refine ⟨b, vs, v, rfl, rfl, G.h _ _ i2, most_lt (by rw [dps_len i3]; exact hl), ?_⟩
        have hbc : C' b = none := G.same i2 (hn b (by simp)).1
        have hnd : b ≠ a ∧ b ∉ as' := by
          have n1 := List.nodup_cons.mp nd
          refine ⟨fun z => n1.1 (by rw [← z]; simp), fun z => ?_⟩
          have n2 := List.nodup_append.mp n1.2
          exact n2.2.2 b z b (by simp) rfl
        refine k C' _ σ (G.step S.ex0) ?_
        have z := S.put (C' := C') (H' := upd H' b (.lst (vs ++ [v]))) i (.oll (dl ++ [ds ++ [d]])) (some (.ref a)) (a :: (as' ++ [b])) G.c (G.s.mut hbc) ((S.ex0.trans G.h).mut (hn b (by simp)).2)
          ⟨a, as' ++ [b], rfl, nd, rfl, by rw [upd_ne (fun z => hnd.1 z.symm)]; exact G.h _ _ h1, ?_⟩ (fun c hc => ?_) fun fp q1 q2 q3 j c hj hc => ?_
        · rw [set_back ea] at z
          exact z
        · refine (i1.frame G.c fun c hc => ?_).app (.cons upd_same (dps_app (dps_ex G.c i3) (.cons hd .nil)) .nil)
          obtain ⟨o, ho⟩ := i1.there c hc
          rw [upd_ne (fun z => hnd.2 (by rw [← z]; exact hc)), ho, G.h c o ho]
        · have hc' : ∃ o, H c = some o := by
            rcases List.mem_cons.mp hc with e | hm
            · rw [e]; exact ⟨_, h1⟩
            · exact hI.there c hm
          obtain ⟨o, ho⟩ := hc'
          exact ⟨G.same ho (hn c hc).1, (hn c hc).2⟩
        · obtain ⟨z1, z2, z3⟩ := q2 j c hc
          obtain ⟨o, ho⟩ := (q1 j _ (List.getElem?_eq_getElem z1)).there c hc
          have hne : c ∉ a :: (as' ++ [b]) := fun hm => hj (q3 j i c hc (by rw [hu fp q1]; exact hm))
          have hcb : c ≠ b := fun e => hne (by rw [e]; simp)
          exact ⟨by rw [upd_ne hcb, ho, G.h c o ho], G.same ho z2, hne⟩
      · exact k.elim
    · exact k.elim
  · exact k.elim
theorem ps_ollLastd {p p1 p2 p3 apos cpos : Pos} {jj : Nat} (he : PD X e f) (hN : X.N[i]? = some x := by rfl) (hv : Vis X.env.scope x := by first | exact Or.inl rfl | exact Or.inr (Or.inl rfl) | exact Or.inr (Or.inr rfl)) (hd : (x == ("__debug__" : Str)) = false := by decide)
    (hcd : (x == ("__classdict__" : Str)) = false := by decide) (hst1 : starEach (e :: []) X.env = (false, eval e X.env) :: starEach [] X.env := by rfl)
    (hbase : attributeBase (.Subscript (.Name x p) (.UnaryOp .USub (.Constant (.int 1) jj p1) p2) p3) "append" X.env (eval (.Subscript (.Name x p) (.UnaryOp .USub (.Constant (.int 1) jj p1) p2) p3) X.env) = eval (.Subscript (.Name x p) (.UnaryOp .USub (.Constant (.int 1) jj p1) p2) p3) X.env := by rfl)
    (hfew : ((backTo cpos (starEach (e :: []) X.env)).all (fun x => !x.1) && (backToKw cpos (keywordEach [] X.env)).all (fun x => x.1.isSome)
      && decide ((e :: ([] : List Expr)).length + ([] : List Keyword).length + (if ([] : List Keyword).isEmpty then 0 else 1) < 30)) = true := by rfl)
    (hline : (apos.endLine == cpos.line) = true := by rfl) (hplain : (backTo cpos (starEach ([] : List Expr) X.env)).any (·.1) = false := by rfl)
    (hs : swapsWith (.Call (.Attribute (.Subscript (.Name x p) (.UnaryOp .USub (.Constant (.int 1) jj p1) p2) p3) "append" apos) [e] [] cpos) none pos.line X.env = pure false := by rfl) :
    PSd X (.Expr (.Call (.Attribute (.Subscript (.Name x p) (.UnaryOp .USub (.Constant (.int 1) jj p1) p2) p3) "append" apos) [e] [] cpos) pos) (dOllLast i f) :=
  ⟨_, ps_expr (pe_bm PySem.F.plainAttrs_list PySem.F.slot_list_append PySem.F.type_list_append mt_append (pe_ix (ix_list.or ix_tup) (pe_var hN hv hd hcd) (pe_un un_neg pe_int) (fun _ _ => rfl)) (pa_cons he.pe pa_nil hst1) hbase hfew hline hst1 hplain) hs, std_ollLast he.ex⟩
end
end DL

set_option Elab.async false
set_option linter.all false
set_option maxRecDepth 100000
set_option maxHeartbeats 4000000
/-! data as plain Lean values -/
namespace DL
open PySem L2 PySem.Spec PyProof.Rows

/-- a kind of plain values as data -/
class Enc (α : Type) [DecidableEq α] where
  enc : α → PyData
  lay : ∀ a, (enc a).canLay0 = true
  dep : Nat
  dle : ∀ a, (enc a).depth ≤ dep
  eqv : ∀ a b, PyData.eqv (enc a) (enc b) = decide (a = b)
open Enc
theorem eqv_int (a b : Int) : PyData.eqv (.int a) (.int b) = decide (a = b) := by
  simp only [PyData.eqv]
  by_cases h : a = b
  · subst h; simp
  · rw [decide_eq_false h]
    exact beq_eq_false_iff_ne.mpr h
theorem eqv_str (a b : Str) : PyData.eqv (.str a) (.str b) = decide (a = b) := by
  simp only [PyData.eqv]
  by_cases h : a = b
  · subst h; simp
  · rw [decide_eq_false h]
    exact beq_eq_false_iff_ne.mpr h
theorem eqv_bool (a b : Bool) : PyData.eqv (.bool a) (.bool b) = decide (a = b) := by
  simp only [PyData.eqv]
  cases a <;> cases b <;> rfl
theorem eqvAll_nil : PyData.eqvAll [] [] = true := by simp [PyData.eqvAll]
theorem eqvAll_cons (x y : PyData) (xs ys : List PyData) : PyData.eqvAll (x :: xs) (y :: ys) = (PyData.eqv x y && PyData.eqvAll xs ys) := by simp [PyData.eqvAll]
theorem eqv_tuple (xs ys : List PyData) : PyData.eqv (.tuple xs) (.tuple ys) = PyData.eqvAll xs ys := by simp [PyData.eqv]
theorem eqv_list (xs ys : List PyData) : PyData.eqv (.list xs) (.list ys) = PyData.eqvAll xs ys := by simp [PyData.eqv]
instance : Enc Int where
  enc := .int
  lay := fun _ => rfl
  dep := 0
  dle := fun a => by simp [PyData.depth]
  eqv := eqv_int
instance : Enc Nat where
  enc := fun n => .int n
  lay := fun _ => rfl
  dep := 0
  dle := fun a => by simp [PyData.depth]
  eqv := fun a b => by
    rw [eqv_int, Bool.eq_iff_iff]
    simp only [decide_eq_true_eq]
    omega
instance : Enc Bool where
  enc := .bool
  lay := fun _ => rfl
  dep := 0
  dle := fun a => by simp [PyData.depth]
  eqv := eqv_bool
/-- a side: false the bank's, true the book's -/
def sideS (b : Bool) : Str := if b = true then "book" else "bank"
theorem sideS_lay (b : Bool) : (PyData.str (sideS b)).canLay0 = true := by cases b <;> decide +kernel
theorem side_ne : ¬ (("bank" : Str) = "book") := by decide +kernel
theorem sideS_inj (a b : Bool) : decide (sideS a = sideS b) = decide (a = b) := by
  cases a <;> cases b <;> simp [sideS, side_ne, fun h => side_ne (Eq.symm h)]
  exact fun h => side_ne h.symm
/-- a mark -/
abbrev Mark := Bool × Nat
def encMark (m : Mark) : PyData := .tuple [.str (sideS m.1), .int m.2]
theorem depth_t2 (x y : PyData) : (PyData.tuple [x, y]).depth = 1 + max x.depth y.depth := by
  simp only [PyData.depth, PyData.depthAll]
  omega
theorem lay_t2 {x y : PyData} (h1 : x.canLay0 = true) (h2 : y.canLay0 = true) : (PyData.tuple [x, y]).canLay0 = true := by simp [PyData.canLay0, PyData.canLayAll0, h1, h2]
theorem lay_t3 {x y z : PyData} (h1 : x.canLay0 = true) (h2 : y.canLay0 = true) (h3 : z.canLay0 = true) : (PyData.tuple [x, y, z]).canLay0 = true := by simp [PyData.canLay0, PyData.canLayAll0, h1, h2, h3]
instance encMarkI : Enc Mark where
  enc := encMark
  lay := fun m => lay_t2 (sideS_lay _) rfl
  dep := 1
  dle := fun m => by simp [encMark, PyData.depth, PyData.depthAll]
  eqv := fun a b => by
    unfold encMark
    rw [eqv_tuple, eqvAll_cons, eqvAll_cons, eqvAll_nil, eqv_str, eqv_int, sideS_inj, Bool.and_true]
    obtain ⟨a1, a2⟩ := a
    obtain ⟨b1, b2⟩ := b
    rw [Bool.eq_iff_iff]
    simp
    intro _
    omega
/-- an entry: a pair of ints -/
structure Ent where
  day : Int
  cents : Int
  deriving DecidableEq
def encEnt (e : Ent) : PyData := .tuple [.int e.day, .int e.cents]
instance : Enc Ent where
  enc := encEnt
  lay := fun m => lay_t2 rfl rfl
  dep := 1
  dle := fun m => by simp [encEnt, PyData.depth, PyData.depthAll]
  eqv := fun a b => by
    unfold encEnt
    rw [eqv_tuple, eqvAll_cons, eqvAll_cons, eqvAll_nil, eqv_int, eqv_int, Bool.and_true]
    obtain ⟨a1, a2⟩ := a
    obtain ⟨b1, b2⟩ := b
    rw [Bool.eq_iff_iff]
    simp
/-- a row: a day and a mark -/
structure DRow where
  day : Int
  side : Bool
  place : Nat
  deriving DecidableEq
def DRow.mark (r : DRow) : Mark := (r.side, r.place)
def encRow (r : DRow) : PyData := .tuple [.int r.day, .str (sideS r.side), .int r.place]
instance encRowI : Enc DRow where
  enc := encRow
  lay := fun m => lay_t3 rfl (sideS_lay _) rfl
  dep := 1
  dle := fun m => by simp [encRow, PyData.depth, PyData.depthAll]
  eqv := fun a b => by
    unfold encRow
    rw [eqv_tuple, eqvAll_cons, eqvAll_cons, eqvAll_cons, eqvAll_nil, eqv_int, eqv_int, eqv_str, sideS_inj, Bool.and_true]
    obtain ⟨a1, a2, a3⟩ := a
    obtain ⟨b1, b2, b3⟩ := b
    rw [Bool.eq_iff_iff]
    simp
    intro _ _
    omega
/-! lists and tuples of such -/
section
variable {α : Type} [DecidableEq α] [Enc α]
theorem layAll : ∀ (xs : List α), PyData.canLayAll0 (xs.map enc) = true
  | [] => by simp [PyData.canLayAll0]
  | x :: xs => by
    show PyData.canLayAll0 (enc x :: xs.map enc) = true
    rw [PyData.canLayAll0, lay x, layAll xs]
    rfl
theorem depthAll_le : ∀ (xs : List α), PyData.depthAll (xs.map enc) ≤ dep α
  | [] => by simp [PyData.depthAll]
  | x :: xs => by
    show PyData.depthAll (enc x :: xs.map enc) ≤ dep α
    have h1 := depthAll_le xs
    have h2 := dle x
    rw [PyData.depthAll]
    omega
theorem eqvAll_map : ∀ (xs ys : List α), PyData.eqvAll (xs.map enc) (ys.map enc) = decide (xs = ys)
  | [], [] => by simp [PyData.eqvAll]
  | [], y :: ys => by simp [PyData.eqvAll]
  | x :: xs, [] => by simp [PyData.eqvAll]
  | x :: xs, y :: ys => by
    show PyData.eqvAll (enc x :: xs.map enc) (enc y :: ys.map enc) = _
    rw [eqvAll_cons, eqv, eqvAll_map xs ys, Bool.eq_iff_iff]
    simp
/-- a list whose text is a tuple -/
structure Tup (α : Type) where
  l : List α
  deriving DecidableEq
instance encList : Enc (List α) where
  enc := fun xs => .list (xs.map enc)
  lay := fun xs => by
    rw [PyData.canLay0]
    exact layAll xs
  dep := 1 + dep α
  dle := fun xs => by
    have h := depthAll_le xs
    simp only [PyData.depth]
    omega
  eqv := fun xs ys => by rw [eqv_list]; exact eqvAll_map xs ys
instance encTup : Enc (Tup α) where
  enc := fun xs => .tuple (xs.l.map enc)
  lay := fun xs => by
    rw [PyData.canLay0]
    exact layAll xs.l
  dep := 1 + dep α
  dle := fun xs => by
    have h := depthAll_le xs.l
    simp only [PyData.depth]
    omega
  eqv := fun xs ys => by
    rw [eqv_tuple, eqvAll_map, Bool.eq_iff_iff]
    obtain ⟨x⟩ := xs
    obtain ⟨y⟩ := ys
    simp
theorem shaped_enc (a : α) (h : dep α ≤ 64) : SeqAt.shaped (enc a) = true := by
  unfold SeqAt.shaped
  rw [lay a, Bool.true_and]
  have := dle a
  exact decide_eq_true (by omega)
theorem gEq_enc (a b : α) (h : dep α ≤ 64) : gEq (enc a) (enc b) = some (.bool (decide (a = b))) := by
  unfold gEq
  rw [shaped_enc a h, shaped_enc b h, eqv]
  rfl
theorem gNe_enc (a b : α) (h : dep α ≤ 64) : gNe (enc a) (enc b) = some (.bool (!decide (a = b))) := by
  unfold gNe
  rw [shaped_enc a h, shaped_enc b h, eqv]
  rfl
theorem any_enc (a : α) : ∀ xs : List α, ((xs.map enc).any fun z => PyData.eqv z (enc a)) = decide (a ∈ xs)
  | [] => by simp
  | x :: xs => by
    rw [List.map_cons, List.any_cons, any_enc a xs, eqv, Bool.eq_iff_iff]
    simp only [Bool.or_eq_true, decide_eq_true_eq, List.mem_cons]
    exact ⟨fun h => h.elim (fun e => .inl e.symm) .inr, fun h => h.elim (fun e => .inl e.symm) .inr⟩
theorem gIn_enc (a : α) (xs : List α) (h : 1 + dep α ≤ 64) : gIn (enc a) (.list (xs.map enc)) = some (.bool (decide (a ∈ xs))) := by
  have h1 : SeqAt.shaped (.list (xs.map enc)) = true := shaped_enc (α := List α) xs h
  show (if (SeqAt.shaped (enc a) && SeqAt.shaped (.list (xs.map enc))) = true then some (PyData.bool ((xs.map enc).any fun z => PyData.eqv z (enc a))) else none) = _
  rw [shaped_enc a (by omega), h1, any_enc]
  rfl
theorem gIn_encT (a : α) (xs : List α) (h : 1 + dep α ≤ 64) : gIn (enc a) (.tuple (xs.map enc)) = some (.bool (decide (a ∈ xs))) := by
  have h1 : SeqAt.shaped (.tuple (xs.map enc)) = true := shaped_enc (α := Tup α) ⟨xs⟩ h
  show (if (SeqAt.shaped (enc a) && SeqAt.shaped (.tuple (xs.map enc))) = true then some (PyData.bool ((xs.map enc).any fun z => PyData.eqv z (enc a))) else none) = _
  rw [shaped_enc a (by omega), h1, any_enc]
  rfl
theorem gNotIn_enc (a : α) (xs : List α) (h : 1 + dep α ≤ 64) : gNotIn (enc a) (.list (xs.map enc)) = some (.bool (!decide (a ∈ xs))) := by
  have h1 : SeqAt.shaped (.list (xs.map enc)) = true := shaped_enc (α := List α) xs h
  show (if (SeqAt.shaped (enc a) && SeqAt.shaped (.list (xs.map enc))) = true then some (PyData.bool (!(xs.map enc).any fun z => PyData.eqv z (enc a))) else none) = _
  rw [shaped_enc a (by omega), h1, any_enc]
  rfl
theorem gNotIn_encT (a : α) (xs : List α) (h : 1 + dep α ≤ 64) : gNotIn (enc a) (.tuple (xs.map enc)) = some (.bool (!decide (a ∈ xs))) := by
  have h1 : SeqAt.shaped (.tuple (xs.map enc)) = true := shaped_enc (α := Tup α) ⟨xs⟩ h
  show (if (SeqAt.shaped (enc a) && SeqAt.shaped (.tuple (xs.map enc))) = true then some (PyData.bool (!(xs.map enc).any fun z => PyData.eqv z (enc a))) else none) = _
  rw [shaped_enc a (by omega), h1, any_enc]
  rfl
end
@[simp] theorem gEq_int (a b : Int) : gEq (.int a) (.int b) = some (.bool (decide (a = b))) := gEq_enc (α := Int) a b (by decide)
@[simp] theorem gNe_int (a b : Int) : gNe (.int a) (.int b) = some (.bool (!decide (a = b))) := gNe_enc (α := Int) a b (by decide)
@[simp] theorem gEq_bool (a b : Bool) : gEq (.bool a) (.bool b) = some (.bool (decide (a = b))) := gEq_enc (α := Bool) a b (by decide)
@[simp] theorem gNe_bool (a b : Bool) : gNe (.bool a) (.bool b) = some (.bool (!decide (a = b))) := gNe_enc (α := Bool) a b (by decide)
theorem shaped_sideS (b : Bool) : SeqAt.shaped (.str (sideS b)) = true := by
  unfold SeqAt.shaped
  rw [sideS_lay]
  simp [PyData.depth]
theorem gEq_side (a b : Bool) : gEq (.str (sideS a)) (.str (sideS b)) = some (.bool (decide (a = b))) := by
  unfold gEq
  rw [shaped_sideS, shaped_sideS, eqv_str, sideS_inj]
  rfl
@[simp] theorem gEq_bank (a : Bool) : gEq (.str (sideS a)) (.str "bank") = some (.bool (!a)) := by
  have h := gEq_side a false
  cases a <;> exact h
@[simp] theorem gEq_book (a : Bool) : gEq (.str (sideS a)) (.str "book") = some (.bool a) := by
  have h := gEq_side a true
  cases a <;> exact h

/-! ### indices -/
theorem atI_map {α β : Type} (f : α → β) (xs : List α) (i : Int) : atI (xs.map f) i = (atI xs i).map f := by
  unfold atI
  rw [List.length_map]
  cases ixN xs.length i with
  | none => rfl
  | some j => simp
theorem atI_at {α : Type} (xs : List α) (k : Nat) : atI xs (k : Int) = xs[k]? := by
  unfold atI ixN
  by_cases h : k < xs.length
  · rw [if_pos (by omega), if_pos (by omega)]
    simp
  · rw [if_pos (by omega), if_neg (by omega)]
    simp at h
    simp [h]
@[simp] theorem atI_0 {α : Type} (x : α) (xs : List α) : atI (x :: xs) 0 = some x := atI_at (x :: xs) 0
@[simp] theorem atI_1 {α : Type} (x y : α) (xs : List α) : atI (x :: y :: xs) 1 = some y := atI_at (x :: y :: xs) 1
@[simp] theorem atI_2 {α : Type} (x y z : α) (xs : List α) : atI (x :: y :: z :: xs) 2 = some z := atI_at (x :: y :: z :: xs) 2

/-! ### comprehensions -/
theorem lcGo_map {α : Type} {G : PyData → DEnv → Option DEnv} {p : DEnv → Option Bool} {f : Den} {ρ : DEnv} (e : α → PyData) (h : α → PyData) : ∀ (xs : List α), (∀ x, x ∈ xs → ∃ ρ1, G (e x) ρ = some ρ1 ∧ p ρ1 = some true ∧ f ρ1 = some (h x)) → lcGo G p f (xs.map e) ρ = some (xs.map h)
  | [], _ => rfl
  | x :: xs, H => by
    obtain ⟨ρ1, h1, h2, h3⟩ := H x List.mem_cons_self
    have ih := lcGo_map e h xs fun y hy => H y (List.mem_cons_of_mem _ hy)
    simp [lcGo, h1, h2, h3, ih]
theorem lcGo_filter {α : Type} {G : PyData → DEnv → Option DEnv} {p : DEnv → Option Bool} {f : Den} {ρ : DEnv} (e : α → PyData) (q : α → Bool) (h : α → PyData) : ∀ (xs : List α), (∀ x, x ∈ xs → ∃ ρ1, G (e x) ρ = some ρ1 ∧ p ρ1 = some (q x) ∧ (q x = true → f ρ1 = some (h x))) → lcGo G p f (xs.map e) ρ = some ((xs.filter q).map h)
  | [], _ => rfl
  | x :: xs, H => by
    obtain ⟨ρ1, h1, h2, h3⟩ := H x List.mem_cons_self
    have ih := lcGo_filter e q h xs fun y hy => H y (List.mem_cons_of_mem _ hy)
    cases hq : q x with
    | true => simp [lcGo, h1, h2, h3 hq, ih, hq]
    | false => simp [lcGo, h1, h2, ih, hq]
/-! ### loops -/
theorem forGo_inv {α : Type} {G : PyData → DEnv → Option DEnv} {B : DS} (e : α → PyData) (I : List α → DEnv → Prop) (xs : List α) (hs : ∀ pre x post ρ, xs = pre ++ x :: post → I pre ρ → ∃ ρ1 ρ2, G (e x) ρ = some ρ1 ∧ B ρ1 = .nx ρ2 ∧ I (pre ++ [x]) ρ2) :
    ∀ (post pre : List α) (ρ : DEnv), xs = pre ++ post → I pre ρ → ∃ ρ', forGo G B (post.map e) ρ = .nx ρ' ∧ I xs ρ'
  | [], pre, ρ, h, hi => ⟨ρ, rfl, by rw [h, List.append_nil]; exact hi⟩
  | x :: post, pre, ρ, h, hi => by
    obtain ⟨ρ1, ρ2, h1, h2, h3⟩ := hs pre x post ρ h hi
    obtain ⟨ρ', h4, h5⟩ := forGo_inv e I xs hs post (pre ++ [x]) ρ2 (by rw [h, List.append_assoc]; rfl) h3
    exact ⟨ρ', by simp [forGo, h1, h2, h4], h5⟩

/-! ### sorted -/
theorem sort_enc {α : Type} [DecidableEq α] [Enc α] (le : α → α → Bool) (xs : List α) (hle : ∀ a b : α, PySem.W.dataLe false id (enc a) (enc b) = le a b) (hok : sortOk (xs.map enc) = true) : gSort [.list (xs.map enc)] = some ((xs.mergeSort le).map enc) := by
  show (if sortOk (xs.map enc) = true then some ((xs.map enc).mergeSort (PySem.W.dataLe false id)) else none) = _
  rw [if_pos hok]
  congr 1
  exact (List.map_mergeSort fun a _ b _ => (hle a b).symm).symm
theorem dataLe_tr {x y z : PyData} : PySem.W.dataLe false id x y = true → PySem.W.dataLe false id y z = true → PySem.W.dataLe false id x z = true := (PySem.W.sortLe_total _ _ _).trans x y z
theorem dataLe_tot (x y : PyData) : (PySem.W.dataLe false id x y || PySem.W.dataLe false id y x) = true := Bool.or_eq_true_iff.mpr ((PySem.W.sortLe_total _ _ _).total x y)
theorem dataLt2 {x y x' y' : PyData} (h : PySem.W.alike x x' = true) (h' : PySem.W.alike y y' = true) : PySem.W.dataLt (.tuple [x, y]) (.tuple [x', y']) = if PyData.eqv x x' = true then (if PyData.eqv y y' = true then false else PySem.W.dataLt y y') else PySem.W.dataLt x x' := PySem.W.dataLt_pair h h'
theorem dataLt3 {x y z x' y' z' : PyData} (h : PySem.W.alike x x' = true) (h' : PySem.W.alike y y' = true) (h'' : PySem.W.alike z z' = true) : PySem.W.dataLt (.tuple [x, y, z]) (.tuple [x', y', z']) =
    if PyData.eqv x x' = true then (if PyData.eqv y y' = true then (if PyData.eqv z z' = true then false else PySem.W.dataLt z z') else PySem.W.dataLt y y') else PySem.W.dataLt x x' := by
  rw [PySem.W.dataLt_tuple, PySem.W.dataLt_cons h, PySem.W.dataLt_cons h', PySem.W.dataLt_cons h'']
  rfl
/-- rows, in order -/
def rowLt (a b : DRow) : Bool := decide (a.day < b.day) || (decide (a.day = b.day) && ((!a.side && b.side) || (decide (a.side = b.side) && decide (a.place < b.place))))
theorem side_lt (a b : Bool) : PySem.W.dataLt (.str (sideS a)) (.str (sideS b)) = (!a && b) := by
  rw [PySem.W.dataLt_str]
  cases a <;> cases b <;> decide +kernel
theorem row_lt (a b : DRow) : PySem.W.dataLt (encRow a) (encRow b) = rowLt a b := by
  unfold encRow
  rw [dataLt3 (by simp [PySem.W.alike]) (by simp [PySem.W.alike]) (by simp [PySem.W.alike]), eqv_int, eqv_str, eqv_int, sideS_inj, side_lt, PySem.W.dataLt_int, PySem.W.dataLt_int]
  unfold rowLt
  by_cases h1 : a.day = b.day
  · have n1 : ¬ a.day < b.day := by omega
    by_cases h2 : a.side = b.side
    · by_cases h3 : a.place = b.place
      · simp [h1, h2, h3]
      · simp [h1, h2, h3]
        omega
    · have : a.side = false ∧ b.side = true ∨ a.side = true ∧ b.side = false := by
        cases ha : a.side <;> cases hb : b.side <;> simp_all
      rcases this with ⟨e1, e2⟩ | ⟨e1, e2⟩ <;> simp [h1, e1, e2]
  · simp [h1]
def rowLe (a b : DRow) : Bool := !rowLt b a
theorem row_le (a b : DRow) : PySem.W.dataLe false id (encRow a) (encRow b) = rowLe a b := by
  show (!PySem.W.dataLt (encRow b) (encRow a)) = _
  rw [row_lt]
  rfl
theorem rowLt_of {a b : DRow} (h : rowLe a b = true) (hne : a ≠ b) : rowLt a b = true := by
  unfold rowLe rowLt at h
  unfold rowLt
  obtain ⟨d, s, p⟩ := a
  obtain ⟨d', s', p'⟩ := b
  simp only [ne_eq, DRow.mk.injEq, not_and] at hne
  simp only [Bool.not_eq_true', Bool.or_eq_false_iff, Bool.and_eq_false_iff, decide_eq_false_iff_not, Bool.not_eq_false'] at h
  simp only [Bool.or_eq_true, Bool.and_eq_true, decide_eq_true_eq, Bool.not_eq_true']
  cases s <;> cases s' <;> simp_all <;> omega
theorem alike_row (a b : DRow) : PySem.W.alike (encRow a) (encRow b) = true := by simp [encRow, PySem.W.alike, PySem.W.alikeAll]
theorem sortOk_of {α : Type} [DecidableEq α] [Enc α] (xs : List α) (h1 : ∀ a b : α, PySem.W.alike (enc a) (enc b) = true) (h2 : (∀ a : α, ∃ x r, enc a = .tuple (x :: r)) ∨ ∀ a : α, (∃ i, enc a = .int i)) (h3 : dep α ≤ 64) (h4 : xs.length ≤ most) : sortOk (xs.map enc) = true := by
  unfold sortOk
  simp only [Bool.and_eq_true, Bool.or_eq_true, List.all_eq_true, decide_eq_true_eq, List.length_map]
  refine ⟨⟨⟨fun d hd e he => ?_, ?_⟩, fun d hd => ?_⟩, h4⟩
  · obtain ⟨a, _, rfl⟩ := List.mem_map.mp hd
    obtain ⟨b, _, rfl⟩ := List.mem_map.mp he
    exact h1 a b
  · rcases h2 with h2 | h2
    · refine .inl fun d hd => ?_
      obtain ⟨a, _, rfl⟩ := List.mem_map.mp hd
      obtain ⟨x, r, e⟩ := h2 a
      rw [e]
    · refine .inr fun d hd => ?_
      obtain ⟨a, _, rfl⟩ := List.mem_map.mp hd
      obtain ⟨i, e⟩ := h2 a
      rw [e]
  · obtain ⟨a, _, rfl⟩ := List.mem_map.mp hd
    have := dle a
    omega
theorem sort_rows (rs : List DRow) (h : rs.length ≤ most) : gSort [.list (rs.map encRow)] = some ((rs.mergeSort rowLe).map encRow) :=
  sort_enc (α := DRow) rowLe rs row_le (sortOk_of rs alike_row (.inl fun a => ⟨_, _, rfl⟩) (by decide) h)
theorem rowLe_tr (a b c : DRow) (h1 : rowLe a b = true) (h2 : rowLe b c = true) : rowLe a c = true := by
  rw [← row_le] at h1 h2 ⊢
  exact dataLe_tr h1 h2
theorem rowLe_tot (a b : DRow) : (rowLe a b || rowLe b a) = true := by
  rw [← row_le, ← row_le]
  exact dataLe_tot _ _
end DL

set_option Elab.async false
set_option linter.all false
set_option maxRecDepth 100000
set_option maxHeartbeats 4000000
namespace DL
open PySem L2
/-! ### a body, statement by statement -/
section
variable {F G A B : DS} {ρ ρ' : DEnv} {o : Out} {f : Den} {fn : DEnv → Option (List PyData)} {p : DEnv → Option Bool} {d : PyData} {ds : List PyData} {i : Nat}
theorem defD_rt {np n : Nat} {args : List PyData} (hl : args.length = np) (h : B (args.map SV.val ++ List.replicate (n - np) SV.un) = .rt d) : defD np n B args = some d := by
  unfold defD
  rw [if_pos hl, h]
theorem defD_nx {np n : Nat} {args : List PyData} (hl : args.length = np) (h : B (args.map SV.val ++ List.replicate (n - np) SV.un) = .nx ρ) : defD np n B args = some .none := by
  unfold defD
  rw [if_pos hl, h]
theorem seq_nx (h : F ρ = .nx ρ') (k : G ρ' = o) : dSeq F G ρ = o := by
  unfold dSeq
  rw [h]
  exact k
theorem seq_rt (h : F ρ = .rt d) (k : .rt d = o) : dSeq F G ρ = o := by
  unfold dSeq
  rw [h]
  exact k
theorem seq_set (d : PyData) (h : f ρ = some d) (k : G (ρ.set i (.val d)) = o) : dSeq (dSet i f) G ρ = o := seq_nx (by unfold dSet; rw [h]) k
theorem seq_own (ds : List PyData) (h : fn ρ = some ds) (k : G (ρ.set i (.own ds)) = o) : dSeq (dOwn i fn) G ρ = o := seq_nx (by unfold dOwn; rw [h]) k
theorem set_nx (h : f ρ = some d) : dSet i f ρ = .nx (ρ.set i (.val d)) := by unfold dSet; rw [h]
theorem own_nx (h : fn ρ = some ds) : dOwn i fn ρ = .nx (ρ.set i (.own ds)) := by unfold dOwn; rw [h]
theorem ret_rt (h : f ρ = some d) : dRet f ρ = .rt d := by unfold dRet; rw [h]
theorem if_t (h : p ρ = some true) (k : A ρ = o) : dIf p A B ρ = o := by
  unfold dIf
  rw [h]
  exact k
theorem if_f (h : p ρ = some false) (k : B ρ = o) : dIf p A B ρ = o := by
  unfold dIf
  rw [h]
  exact k
theorem if_b {b : Bool} (h : p ρ = some b) (kt : b = true → A ρ = o) (kf : b = false → B ρ = o) : dIf p A B ρ = o := by
  cases b with
  | true => exact if_t h (kt rfl)
  | false => exact if_f h (kf rfl)
theorem for_go {G : PyData → DEnv → Option DEnv} {src : DEnv → Option (List PyData)} (h : src ρ = some ds) (k : forGo G B ds ρ = o) : dFor src G B ρ = o := by
  unfold dFor
  rw [h]
  exact k
theorem lc_go {G : PyData → DEnv → Option DEnv} {src : DEnv → Option (List PyData)} {vs : List Nat} {out : List PyData} (h : src ρ = some ds) (hl : ds.length ≤ most) (k : lcGo G p f ds (wipeE ρ vs) = some out) : dLc src G p f vs ρ = some out := by
  unfold dLc
  rw [h]
  simp only []
  rw [if_pos hl]
  exact k
theorem e2_go {g : PyData → PyData → Option PyData} {fa fb : Den} {a b z : PyData} (h1 : fa ρ = some a) (h2 : fb ρ = some b) (h3 : g a b = some z) : e2 g fa fb ρ = some z := by
  unfold e2
  rw [h1, h2]
  exact h3
theorem lst_go (h : fn ρ = some ds) : lstD fn ρ = some (.list ds) := by
  unfold lstD
  rw [h]
  rfl
end
end DL

set_option Elab.async false
set_option linter.all false
set_option maxRecDepth 100000
set_option maxHeartbeats 4000000
namespace DL
open PySem L2 PySem.Spec PyProof.Rows
def cellAt (ns : List Int) (k : Nat) : Int := ns.getD k 0
theorem enum_map {α : Type} (e : α → PyData) : ∀ (xs : List α) (n : Nat), enumFrom n (xs.map e) = (xs.zipIdx n).map fun p => .tuple [.int (p.2 : Nat), e p.1]
  | [], _ => rfl
  | x :: xs, n => by
    show PyData.tuple [.int (n : Nat), e x] :: enumFrom (n + 1) (xs.map e) = _
    rw [enum_map e xs (n + 1)]
    rfl
def rowsOf (b : Bool) (es : List Ent) : List DRow := es.zipIdx.map fun p => ⟨p.1.day, b, p.2⟩
def rowsIn (banks books : List Ent) : List DRow := (rowsOf false banks ++ rowsOf true books).mergeSort rowLe
theorem rowsOf_len (b : Bool) (es : List Ent) : (rowsOf b es).length = es.length := by simp [rowsOf]
def okMark (banks books : List Ent) (m : Mark) : Prop := if m.1 = true then m.2 < books.length else m.2 < banks.length
theorem kb1 : kitB "tuple" "tuple" = some true := by decide +kernel
theorem kb2 : kitB "str" "str" = some true := by decide +kernel
theorem kb3 : kitB "int" "int" = some true := by decide +kernel
theorem kb4 : kitB "int" "bool" = some false := by decide +kernel
theorem kb5 : kitB "list" "list" = some true := by decide +kernel
def dayOf (banks books : List Ent) (m : Mark) : Int := ((if m.1 = true then books else banks)[m.2]?.map (·.day)).getD 0
theorem rowsOf_place (b : Bool) (es : List Ent) : (rowsOf b es).map (·.place) = List.range es.length := by
  unfold rowsOf
  rw [List.map_map]
  have e : (fun (r : DRow) => r.place) ∘ (fun (p : Ent × Nat) => (⟨p.1.day, b, p.2⟩ : DRow)) = Prod.snd := rfl
  rw [e, List.zipIdx_map_snd, List.range_eq_range']
theorem rowsOf_nd (b : Bool) (es : List Ent) : (rowsOf b es).Nodup := by
  have h : ((rowsOf b es).map (·.place)).Nodup := by rw [rowsOf_place]; exact List.nodup_range
  exact (List.pairwise_map.mp h).imp fun hne e => hne (by rw [e])
theorem rowsOf_mem {b : Bool} {es : List Ent} {r : DRow} (h : r ∈ rowsOf b es) : r.side = b ∧ ∃ e, es[r.place]? = some e ∧ e.day = r.day := by
  unfold rowsOf at h
  obtain ⟨p, hp, rfl⟩ := List.mem_map.mp h
  refine ⟨rfl, p.1, ?_, rfl⟩
  obtain ⟨h1, h2⟩ := List.mem_zipIdx' (x := p.1) (i := p.2) (xs := es) hp
  show es[p.2]? = some p.1
  rw [List.getElem?_eq_getElem h1, h2]
theorem rowsIn_perm (banks books : List Ent) : (rowsIn banks books).Perm (rowsOf false banks ++ rowsOf true books) := List.mergeSort_perm _ _
theorem rowsIn_nd (banks books : List Ent) : (rowsIn banks books).Nodup := by
  rw [(rowsIn_perm banks books).nodup_iff, List.nodup_append]
  refine ⟨rowsOf_nd _ _, rowsOf_nd _ _, fun a ha b hb e => ?_⟩
  have h1 := (rowsOf_mem ha).1
  have h2 := (rowsOf_mem hb).1
  rw [e, h2] at h1
  cases h1
theorem rowsIn_sorted (banks books : List Ent) : (rowsIn banks books).Pairwise fun a b => rowLt a b = true := by
  have h1 : (rowsIn banks books).Pairwise fun a b => rowLe a b = true := List.pairwise_mergeSort rowLe_tr rowLe_tot _
  have h2 := rowsIn_nd banks books
  exact (h1.and h2).imp fun ⟨a, b⟩ => rowLt_of a b
theorem rowsIn_mem {banks books : List Ent} {r : DRow} (h : r ∈ rowsIn banks books) : ∃ e, (if r.side = true then books else banks)[r.place]? = some e ∧ e.day = r.day := by
  rw [(rowsIn_perm banks books).mem_iff, List.mem_append] at h
  rcases h with h | h
  · obtain ⟨h1, h2⟩ := rowsOf_mem h
    rw [h1]
    exact h2
  · obtain ⟨h1, h2⟩ := rowsOf_mem h
    rw [h1]
    exact h2
theorem rowsIn_ok {banks books : List Ent} {r : DRow} (h : r ∈ rowsIn banks books) : okMark banks books r.mark ∧ dayOf banks books r.mark = r.day := by
  obtain ⟨e, h1, h2⟩ := rowsIn_mem h
  unfold okMark dayOf DRow.mark
  cases hs : r.side <;> rw [hs] at h1 <;> simp only [if_true, if_false, Bool.false_eq_true] at h1 ⊢
  · exact ⟨(List.getElem?_eq_some_iff.mp h1).1, by rw [h1]; exact h2⟩
  · exact ⟨(List.getElem?_eq_some_iff.mp h1).1, by rw [h1]; exact h2⟩
theorem lt_rows (a b : DRow) (h : rowLt a b = true) : gLt (encRow a) (encRow b) = some (.bool true) := by
  have h1 := row_lt a b
  rw [h] at h1
  have h3 := gLt_t (xs := [.int a.day, .str (sideS a.side), .int a.place]) (ys := [.int b.day, .str (sideS b.side), .int b.place]) (alike_row a b) (by simp [PyData.depth, PyData.depthAll])
  unfold encRow at h1 ⊢
  rw [h3, h1]
theorem F_cell_of {F : List PyData → Option PyData} (hF : ∀ (xs : List PyData) (k : Nat), F [.list xs, .int k] = if k < xs.length then xs[k]? else some (.int 0)) (ns : List Int) (k : Nat) : F [.list (ns.map .int), .int k] = some (.int (cellAt ns k)) := by
  rw [hF, List.length_map]
  unfold cellAt
  by_cases h : k < ns.length <;> simp [h]
theorem gEq_mark (a b : Mark) : gEq (encMark a) (encMark b) = some (.bool (decide (a = b))) := gEq_enc a b (by decide)
theorem gNe_self {α : Type} [DecidableEq α] [Enc α] (a : α) (h : Enc.dep α ≤ 64) : gNe (Enc.enc a) (Enc.enc a) = some (.bool false) := by
  rw [gNe_enc a a h, decide_eq_true rfl]
  rfl
theorem gEq_self {α : Type} [DecidableEq α] [Enc α] (a : α) (h : Enc.dep α ≤ 64) : gEq (Enc.enc a) (Enc.enc a) = some (.bool true) := by
  rw [gEq_enc a a h, decide_eq_true rfl]
end DL

set_option Elab.async false
set_option linter.all false
set_option maxRecDepth 100000
set_option maxHeartbeats 4000000
namespace My
open PySem L2 PySem.Spec PyProof.Rows DL
/-! ### the text -/
def topS (i : Nat) : Stmt := PySem.Challenge.pw_tickoff_k01_in_order.main.body.getD i (.Pass ⟨0, 0, 0, 0⟩)
abbrev st_rows_of : Stmt := topS 1
abbrev N_rows_of : List Str := ["side", "entries", "place", "entry"]
theorem sc_rows_of : FnScope N_rows_of ["side", "entries"] (defScope st_rows_of) := ⟨rfl, rfl, rfl, by decide +kernel, rfl, by decide +kernel, by decide +kernel⟩
abbrev st_rows_in_order : Stmt := topS 2
abbrev N_rows_in_order : List Str := ["banks", "books"]
theorem sc_rows_in_order : FnScope N_rows_in_order ["banks", "books"] (defScope st_rows_in_order) := ⟨rfl, rfl, rfl, by decide +kernel, rfl, by decide +kernel, by decide +kernel⟩
abbrev st_in_order : Stmt := topS 3
abbrev N_in_order : List Str := ["banks", "books", "day", "side", "place"]
theorem sc_in_order : FnScope N_in_order ["banks", "books"] (defScope st_in_order) := ⟨rfl, rfl, rfl, by decide +kernel, rfl, by decide +kernel, by decide +kernel⟩
abbrev st_law_cell_at : Stmt := topS 5
abbrev N_law_cell_at : List Str := ["_law_script", "_law_k"]
theorem sc_law_cell_at : FnScope N_law_cell_at ["_law_script", "_law_k"] (defScope st_law_cell_at) := ⟨rfl, rfl, rfl, by decide +kernel, rfl, by decide +kernel, by decide +kernel⟩
abbrev st_law_entry : Stmt := topS 6
abbrev N_law_entry : List Str := ["_law_cell", "_law_far", "_law_day_here", "_law_cents"]
theorem sc_law_entry : FnScope N_law_entry ["_law_cell", "_law_far"] (defScope st_law_entry) := ⟨rfl, rfl, rfl, by decide +kernel, rfl, by decide +kernel, by decide +kernel⟩
abbrev st_law_is_mark : Stmt := topS 7
abbrev N_law_is_mark : List Str := ["_law_mark", "_law_banks", "_law_books"]
theorem sc_law_is_mark : FnScope N_law_is_mark ["_law_mark", "_law_banks", "_law_books"] (defScope st_law_is_mark) := ⟨rfl, rfl, rfl, by decide +kernel, rfl, by decide +kernel, by decide +kernel⟩
abbrev st_law_day : Stmt := topS 8
abbrev N_law_day : List Str := ["_law_mark", "_law_banks", "_law_books"]
theorem sc_law_day : FnScope N_law_day ["_law_mark", "_law_banks", "_law_books"] (defScope st_law_day) := ⟨rfl, rfl, rfl, by decide +kernel, rfl, by decide +kernel, by decide +kernel⟩
abbrev st_law_sizes : Stmt := topS 9
abbrev N_law_sizes : List Str := ["_law_script", "_law_sizes_here"]
theorem sc_law_sizes : FnScope N_law_sizes ["_law_script"] (defScope st_law_sizes) := ⟨rfl, rfl, rfl, by decide +kernel, rfl, by decide +kernel, by decide +kernel⟩
abbrev st_law : Stmt := topS 10
abbrev N_law : List Str := ["_law_script", "_law_sizes_here", "_law_far", "_law_banks", "_law_books", "_law_one", "_law_other", "_law_found", "_law_ahead", "_law_mark", "_law_now", "_law_k"]
theorem sc_law : FnScope N_law ["_law_script"] (defScope st_law) := ⟨rfl, rfl, rfl, by decide +kernel, rfl, by decide +kernel, by decide +kernel⟩
structure Blt (mg : Str → Option Value) : Prop where
  bool : mg "bool" = none
  enumerate : mg "enumerate" = none
  int : mg "int" = none
  isinstance : mg "isinstance" = none
  len : mg "len" = none
  list : mg "list" = none
  range : mg "range" = none
  sorted : mg "sorted" = none
  str : mg "str" = none
  tuple : mg "tuple" = none
/-! ### what the defs do -/
def B_rows_of : DS :=
  (dRet (lstD (dLc (enumL (aCons (eV 1) aNil)) (nTup 2 (nCons (nName 2) (nCons (nName 3) nNil))) yes (tupD (aCons (e2 gIx (eV 3) (eC (.int 0))) (aCons (eV 0) (aCons (eV 2) aNil)))) [2, 3])))
def F_rows_of : List PyData → Option PyData := defD 2 4 B_rows_of
def B_rows_in_order : DS :=
  (dRet (lstD (eF gSort (aCons (e2 gAdd (eF F_rows_of (aCons (eC (.str "bank")) (aCons (eV 0) aNil))) (eF F_rows_of (aCons (eC (.str "book")) (aCons (eV 1) aNil)))) aNil))))
def F_rows_in_order : List PyData → Option PyData := defD 2 2 B_rows_in_order
def B_in_order : DS :=
  (dRet (lstD (dLc (asS (eF F_rows_in_order (aCons (eV 0) (aCons (eV 1) aNil)))) (nTup 3 (nCons (nName 2) (nCons (nName 3) (nCons (nName 4) nNil)))) yes (tupD (aCons (eV 3) (aCons (eV 4) aNil))) [2, 3, 4])))
def F_in_order : List PyData → Option PyData := defD 2 5 B_in_order
def B_law_cell_at : DS :=
  (dSeq (dIf (tst (e2 gLt (eR 1) (eF gLen (aCons (eR 0) aNil)))) (dRet (e2 gIx (eV 0) (eV 1)))
  dNext)
  (dRet (eC (.int 0))))
def F_law_cell_at : List PyData → Option PyData := defD 2 2 B_law_cell_at
def B_law_entry : DS :=
  (dSeq (dSet 2 (e2 (gIc cMod fun i j => i % j) (eV 0) (eC (.int 8))))
  (dSeq (dIf (tru (eR 1)) (dSet 2 (e2 (gIc cMod fun i j => i % j) (eV 0) (eC (.int 10000))))
  dNext)
  (dSeq (dSet 3 (e2 gAdd (eC (.int 1)) (e2 (gIc cMod fun i j => i % j) (e2 (gIc cDiv fun i j => i / j) (eV 0) (eC (.int 7))) (e2 (gIc cPow fun i j => i ^ j.toNat) (eC (.int 10)) (eC (.int 9))))))
  (dSeq (dIf (tst (e2 gEq (e2 (gIc cMod fun i j => i % j) (e2 (gIc cDiv fun i j => i / j) (eV 0) (eC (.int 3))) (eC (.int 2))) (eC (.int 1)))) (dSet 3 (e1 gNeg (eV 3)))
  dNext)
  (dRet (tupD (aCons (eV 2) (aCons (eV 3) aNil))))))))
def F_law_entry : List PyData → Option PyData := defD 2 4 B_law_entry
def B_law_is_mark : DS :=
  (dSeq (dIf (bOr (bNot (tst (e1 (gIsi "tuple") (eR 0)))) (bOr (tst (e2 gNe (eF gLen (aCons (eR 0) aNil)) (eC (.int 2)))) (bNot (tst (e1 (gIsi "str") (e2 gIx (eV 0) (eC (.int 0)))))))) (dRet (eC (.bool false)))
  dNext)
  (dSeq (dIf (bOr (bNot (tst (e1 (gIsi "int") (e2 gIx (eV 0) (eC (.int 1)))))) (tst (e1 (gIsi "bool") (e2 gIx (eV 0) (eC (.int 1)))))) (dRet (eC (.bool false)))
  dNext)
  (dSeq (dIf (tst (e2 gEq (e2 gIx (eV 0) (eC (.int 0))) (eC (.str "bank")))) (dRet (eCh gLE gLt (eC (.int 0)) (e2 gIx (eV 0) (eC (.int 1))) (eF gLen (aCons (eR 1) aNil))))
  dNext)
  (dRet (vAnd (e2 gEq (e2 gIx (eV 0) (eC (.int 0))) (eC (.str "book"))) (eCh gLE gLt (eC (.int 0)) (e2 gIx (eV 0) (eC (.int 1))) (eF gLen (aCons (eR 2) aNil))))))))
def F_law_is_mark : List PyData → Option PyData := defD 3 3 B_law_is_mark
def B_law_day : DS :=
  (dSeq (dIf (tst (e2 gEq (e2 gIx (eV 0) (eC (.int 0))) (eC (.str "bank")))) (dRet (e2 gIx (e2 gIx (eV 1) (e2 gIx (eV 0) (eC (.int 1)))) (eC (.int 0))))
  dNext)
  (dRet (e2 gIx (e2 gIx (eV 2) (e2 gIx (eV 0) (eC (.int 1)))) (eC (.int 0)))))
def F_law_day : List PyData → Option PyData := defD 3 3 B_law_day
def B_law_sizes : DS :=
  (dSeq (dSet 1 (tupD (aCons (e2 (gIc cMod fun i j => i % j) (eF F_law_cell_at (aCons (eV 0) (aCons (eC (.int 0)) aNil))) (eC (.int 9))) (aCons (e2 (gIc cMod fun i j => i % j) (e2 (gIc cDiv fun i j => i / j) (eF F_law_cell_at (aCons (eV 0) (aCons (eC (.int 0)) aNil))) (eC (.int 9))) (eC (.int 9))) aNil))))
  (dSeq (dIf (tst (e2 gEq (e2 (gIc cMod fun i j => i % j) (eF F_law_cell_at (aCons (eV 0) (aCons (eC (.int 1)) aNil))) (eC (.int 8))) (eC (.int 1)))) (dSet 1 (tupD (aCons (e2 (gIc cMod fun i j => i % j) (eF F_law_cell_at (aCons (eV 0) (aCons (eC (.int 0)) aNil))) (eC (.int 61))) (aCons (e2 (gIc cMod fun i j => i % j) (e2 (gIc cDiv fun i j => i / j) (eF F_law_cell_at (aCons (eV 0) (aCons (eC (.int 0)) aNil))) (eC (.int 61))) (eC (.int 61))) aNil))))
  dNext)
  (dRet (eV 1))))
def F_law_sizes : List PyData → Option PyData := defD 1 2 B_law_sizes
def L_law_1 : DS :=
  (dSeq (dIf (bNot (tst (eF F_law_is_mark (aCons (eV 9) (aCons (eV 3) (aCons (eV 4) aNil)))))) (dRet (eC (.bool false)))
  dNext)
  (dSeq (dSet 10 (tupD (aCons (eF F_law_day (aCons (eV 9) (aCons (eV 3) (aCons (eV 4) aNil)))) (aCons (e2 gIx (eV 9) (eC (.int 0))) (aCons (e2 gIx (eV 9) (eC (.int 1))) aNil)))))
  (dSeq (dIf (bNot (tst (e2 gLt (eR 8) (eR 10)))) (dRet (eC (.bool false)))
  dNext)
  (dSet 8 (eV 10)))))
def B_law : DS :=
  (dSeq (dSet 1 (eF F_law_sizes (aCons (eV 0) aNil)))
  (dSeq (dSet 2 (e2 gEq (e2 (gIc cMod fun i j => i % j) (e2 (gIc cDiv fun i j => i / j) (eF F_law_cell_at (aCons (eV 0) (aCons (eC (.int 1)) aNil))) (eC (.int 8))) (eC (.int 3))) (eC (.int 1))))
  (dSeq (dSet 3 (lstD (dLc (rng1 (aCons (e2 gIx (eV 1) (eC (.int 0))) aNil)) (nName 11) yes (eF F_law_entry (aCons (e2 gAdd (e2 (gIc cMul fun i j => i * j) (eF F_law_cell_at (aCons (eV 0) (aCons (e2 gAdd (eC (.int 2)) (e2 (gIc cMod fun i j => i % j) (eV 11) (eC (.int 9)))) aNil))) (eC (.int 48271))) (e2 (gIc cMul fun i j => i * j) (eC (.int 31)) (eV 11))) (aCons (eV 2) aNil))) [11])))
  (dSeq (dSet 4 (lstD (dLc (rng1 (aCons (e2 gIx (eV 1) (eC (.int 1))) aNil)) (nName 11) yes (eF F_law_entry (aCons (e2 gAdd (e2 (gIc cMul fun i j => i * j) (eF F_law_cell_at (aCons (eV 0) (aCons (e2 gAdd (eC (.int 11)) (e2 (gIc cMod fun i j => i % j) (eV 11) (eC (.int 9)))) aNil))) (eC (.int 48271))) (e2 (gIc cMul fun i j => i * j) (eC (.int 37)) (eV 11))) (aCons (eV 2) aNil))) [11])))
  (dSeq (dSet 5 (lstD (eF gList (aCons (eV 3) aNil))))
  (dSeq (dSet 6 (lstD (eF gList (aCons (eV 4) aNil))))
  (dSeq (dSet 7 (eF F_in_order (aCons (eV 5) (aCons (eV 6) aNil))))
  (dSeq (dIf (bOr (bNot (tst (e1 (gIsi "list") (eR 7)))) (bOr (tst (e2 gNe (eF gLen (aCons (eR 7) aNil)) (e2 gAdd (eF gLen (aCons (eR 3) aNil)) (eF gLen (aCons (eR 4) aNil))))) (bOr (tst (e2 gNe (eR 5) (eR 3))) (tst (e2 gNe (eR 6) (eR 4)))))) (dRet (eC (.bool false)))
  dNext)
  (dSeq (dSet 8 (tupD (aCons (e1 gNeg (eC (.int 1))) (aCons (eC (.str "")) (aCons (eC (.int 0)) aNil)))))
  (dSeq (dFor (asS (eV 7)) (nName 9) L_law_1)
  (dRet (eC (.bool true)))))))))))))
def F_law : List PyData → Option PyData := defD 1 12 B_law
/-! ### that they do it -/
section
variable {P : Program} {w : World} {K : PySem.W.Frag} {mg : Str → Option Value} {base : Heap}
theorem ok_rows_of {f : Addr} {fd : FuncData} (TB : Blt mg)  (F : Fun K "_rows_of" "_rows_of" st_rows_of f fd) (hm : mg "_rows_of" = some (.ref f)) (hbd : Binds K fd ["side", "entries"] []) : DefOk P w K mg base 1 "_rows_of" ["side", "entries"] F_rows_of :=
  def_named (B := B_rows_of) F hm hbd sc_rows_of (by decide) fun cdv A outer s H E hr => (pss_oned (ps_retd (PN.d (pn_lc [("place", 2), ("entry", 3)] sc_rows_of.nd (pi_enumd TB.enumerate (pa_consd (pd_v 1) pa_nild)) (fun _ _ _ _ _ => (pg_tupd (pgs_consd (pg_named (i := 2) sc_rows_of.nd) (pgs_consd (pg_named (i := 3) sc_rows_of.nd) pgs_nild)))) (fun _ _ _ _ _ => pts_nild) (fun _ _ _ _ _ => (pd_tup (pa_consd (pd_ix (pd_v 3) pd_int) (pa_consd (pd_v 0) (pa_consd (pd_v 2) pa_nild)))))))))
theorem ok_rows_in_order {f : Addr} {fd : FuncData} (TB : Blt mg) (D_rows_of : DefOk P w K mg base 1 "_rows_of" ["side", "entries"] F_rows_of) (F : Fun K "_rows_in_order" "_rows_in_order" st_rows_in_order f fd) (hm : mg "_rows_in_order" = some (.ref f)) (hbd : Binds K fd ["banks", "books"] []) : DefOk P w K mg base 2 "_rows_in_order" ["banks", "books"] F_rows_in_order :=
  def_named (B := B_rows_in_order) F hm hbd sc_rows_in_order (by decide) fun cdv A outer s H E hr => (pss_oned (ps_retd (PN.d (pn_cb (cr_sortD (room_u hr)) cr_sort (by rfl) TB.sorted (by decide +kernel) (pa_consd (pd_add (pd_fn D_rows_of hr (by omega) (pa_consd pd_str (pa_consd (pd_v 0) pa_nild))) (pd_fn D_rows_of hr (by omega) (pa_consd pd_str (pa_consd (pd_v 1) pa_nild)))) pa_nild)))))
theorem ok_in_order {f : Addr} {fd : FuncData} (TB : Blt mg) (D_rows_in_order : DefOk P w K mg base 2 "_rows_in_order" ["banks", "books"] F_rows_in_order) (F : Fun K "in_order" "in_order" st_in_order f fd) (hm : mg "in_order" = some (.ref f)) (hbd : Binds K fd ["banks", "books"] []) : DefOk P w K mg base 3 "in_order" ["banks", "books"] F_in_order :=
  def_named (B := B_in_order) F hm hbd sc_in_order (by decide) fun cdv A outer s H E hr => (pss_oned (ps_retd (PN.d (pn_lc [("day", 2), ("side", 3), ("place", 4)] sc_in_order.nd (pi_seqd (pd_fn D_rows_in_order hr (by omega) (pa_consd (pd_v 0) (pa_consd (pd_v 1) pa_nild)))) (fun _ _ _ _ _ => (pg_tupd (pgs_consd (pg_named (i := 2) sc_in_order.nd) (pgs_consd (pg_named (i := 3) sc_in_order.nd) (pgs_consd (pg_named (i := 4) sc_in_order.nd) pgs_nild))))) (fun _ _ _ _ _ => pts_nild) (fun _ _ _ _ _ => (pd_tup (pa_consd (pd_v 3) (pa_consd (pd_v 4) pa_nild))))))))
theorem ok_law_cell_at {f : Addr} {fd : FuncData} (TB : Blt mg)  (F : Fun K "_law_cell_at" "_law_cell_at" st_law_cell_at f fd) (hm : mg "_law_cell_at" = some (.ref f)) (hbd : Binds K fd ["_law_script", "_law_k"] []) : DefOk P w K mg base 1 "_law_cell_at" ["_law_script", "_law_k"] F_law_cell_at :=
  def_named (B := B_law_cell_at) F hm hbd sc_law_cell_at (by decide) fun cdv A outer s H E hr => (pss_consd (ps_ifd (pt_c (cd_lt (room_4 hr)) (pr_v 1) (PD.rd (pd_cb call_len_seq cr_len (by rfl) TB.len (by decide +kernel) (pa_consr (pr_v 0) pa_nilr)))) (pss_oned (ps_retd (pd_ix (pd_v 0) (pd_v 1))))
      pss_nild)
      (pss_oned (ps_retd pd_int)))
theorem ok_law_entry {f : Addr} {fd : FuncData} (TB : Blt mg)  (F : Fun K "_law_entry" "_law_entry" st_law_entry f fd) (hm : mg "_law_entry" = some (.ref f)) (hbd : Binds K fd ["_law_cell", "_law_far"] []) : DefOk P w K mg base 1 "_law_entry" ["_law_cell", "_law_far"] F_law_entry :=
  def_named (B := B_law_entry) F hm hbd sc_law_entry (by decide) fun cdv A outer s H E hr => (pss_consd (ps_setd (i := 2) sc_law_entry.nd (pd_mod (pd_v 0) pd_int))
      (pss_consd (ps_ifd (pt_tru (pr_v 1)) (pss_oned (ps_setd (i := 2) sc_law_entry.nd (pd_mod (pd_v 0) pd_int)))
      pss_nild)
      (pss_consd (ps_setd (i := 3) sc_law_entry.nd (pd_add pd_int (pd_mod (pd_fdiv (pd_v 0) pd_int) (pd_pow pd_int pd_int))))
      (pss_consd (ps_ifd (pt_c (cd_eq (room_4 hr)) (PD.rd (pd_mod (pd_fdiv (pd_v 0) pd_int) pd_int)) (PD.rd pd_int)) (pss_oned (ps_setd (i := 3) sc_law_entry.nd (pd_neg (pd_v 3))))
      pss_nild)
      (pss_oned (ps_retd (pd_tup (pa_consd (pd_v 2) (pa_consd (pd_v 3) pa_nild)))))))))
theorem ok_law_is_mark {f : Addr} {fd : FuncData} (TB : Blt mg)  (F : Fun K "_law_is_mark" "_law_is_mark" st_law_is_mark f fd) (hm : mg "_law_is_mark" = some (.ref f)) (hbd : Binds K fd ["_law_mark", "_law_banks", "_law_books"] []) : DefOk P w K mg base 1 "_law_is_mark" ["_law_mark", "_law_banks", "_law_books"] F_law_is_mark :=
  def_named (B := B_law_is_mark) F hm hbd sc_law_is_mark (by decide) fun cdv A outer s H E hr => (pss_consd (ps_ifd (PWd.test (pw_ord (pt_notd (pt_vald (pd_isi (pr_v 0) (by rfl) TB.isinstance (by decide +kernel) (by rfl) TB.tuple (by decide +kernel)))) (pw_ord (pt_c (cd_ne (room_4 hr)) (PD.rd (pd_cb call_len_seq cr_len (by rfl) TB.len (by decide +kernel) (pa_consr (pr_v 0) pa_nilr))) (PD.rd pd_int)) (pw_or1d (pt_notd (pt_vald (pd_isi (PD.rd (pd_ix (pd_v 0) pd_int)) (by rfl) TB.isinstance (by decide +kernel) (by rfl) TB.str (by decide +kernel)))))))) (pss_oned (ps_retd pd_bl))
      pss_nild)
      (pss_consd (ps_ifd (PWd.test (pw_ord (pt_notd (pt_vald (pd_isi (PD.rd (pd_ix (pd_v 0) pd_int)) (by rfl) TB.isinstance (by decide +kernel) (by rfl) TB.int (by decide +kernel)))) (pw_or1d (pt_vald (pd_isi (PD.rd (pd_ix (pd_v 0) pd_int)) (by rfl) TB.isinstance (by decide +kernel) (by rfl) TB.bool (by decide +kernel)))))) (pss_oned (ps_retd pd_bl))
      pss_nild)
      (pss_consd (ps_ifd (pt_c (cd_eq (room_4 hr)) (PD.rd (pd_ix (pd_v 0) pd_int)) (PD.rd pd_str)) (pss_oned (ps_retd (pd_ch (cd_le (room_4 hr)) (cd_lt (room_4 hr)) (PD.rd pd_int) (PD.rd (pd_ix (pd_v 0) pd_int)) (PD.rd (pd_cb call_len_seq cr_len (by rfl) TB.len (by decide +kernel) (pa_consr (pr_v 1) pa_nilr))))))
      pss_nild)
      (pss_oned (ps_retd (pd_and (pd_c (cd_eq (room_4 hr)) (PD.rd (pd_ix (pd_v 0) pd_int)) (PD.rd pd_str)) (pd_one (pd_ch (cd_le (room_4 hr)) (cd_lt (room_4 hr)) (PD.rd pd_int) (PD.rd (pd_ix (pd_v 0) pd_int)) (PD.rd (pd_cb call_len_seq cr_len (by rfl) TB.len (by decide +kernel) (pa_consr (pr_v 2) pa_nilr)))))))))))
theorem ok_law_day {f : Addr} {fd : FuncData} (TB : Blt mg)  (F : Fun K "_law_day" "_law_day" st_law_day f fd) (hm : mg "_law_day" = some (.ref f)) (hbd : Binds K fd ["_law_mark", "_law_banks", "_law_books"] []) : DefOk P w K mg base 1 "_law_day" ["_law_mark", "_law_banks", "_law_books"] F_law_day :=
  def_named (B := B_law_day) F hm hbd sc_law_day (by decide) fun cdv A outer s H E hr => (pss_consd (ps_ifd (pt_c (cd_eq (room_4 hr)) (PD.rd (pd_ix (pd_v 0) pd_int)) (PD.rd pd_str)) (pss_oned (ps_retd (pd_ix (pd_ix (pd_v 1) (pd_ix (pd_v 0) pd_int)) pd_int)))
      pss_nild)
      (pss_oned (ps_retd (pd_ix (pd_ix (pd_v 2) (pd_ix (pd_v 0) pd_int)) pd_int))))
theorem ok_law_sizes {f : Addr} {fd : FuncData} (TB : Blt mg) (D_law_cell_at : DefOk P w K mg base 1 "_law_cell_at" ["_law_script", "_law_k"] F_law_cell_at) (F : Fun K "_law_sizes" "_law_sizes" st_law_sizes f fd) (hm : mg "_law_sizes" = some (.ref f)) (hbd : Binds K fd ["_law_script"] []) : DefOk P w K mg base 2 "_law_sizes" ["_law_script"] F_law_sizes :=
  def_named (B := B_law_sizes) F hm hbd sc_law_sizes (by decide) fun cdv A outer s H E hr => (pss_consd (ps_setd (i := 1) sc_law_sizes.nd (pd_tup (pa_consd (pd_mod (pd_fn D_law_cell_at hr (by omega) (pa_consd (pd_v 0) (pa_consd pd_int pa_nild))) pd_int) (pa_consd (pd_mod (pd_fdiv (pd_fn D_law_cell_at hr (by omega) (pa_consd (pd_v 0) (pa_consd pd_int pa_nild))) pd_int) pd_int) pa_nild))))
      (pss_consd (ps_ifd (pt_c (cd_eq (room_4 hr)) (PD.rd (pd_mod (pd_fn D_law_cell_at hr (by omega) (pa_consd (pd_v 0) (pa_consd pd_int pa_nild))) pd_int)) (PD.rd pd_int)) (pss_oned (ps_setd (i := 1) sc_law_sizes.nd (pd_tup (pa_consd (pd_mod (pd_fn D_law_cell_at hr (by omega) (pa_consd (pd_v 0) (pa_consd pd_int pa_nild))) pd_int) (pa_consd (pd_mod (pd_fdiv (pd_fn D_law_cell_at hr (by omega) (pa_consd (pd_v 0) (pa_consd pd_int pa_nild))) pd_int) pd_int) pa_nild)))))
      pss_nild)
      (pss_oned (ps_retd (pd_v 1)))))
theorem ok_law {f : Addr} {fd : FuncData} (TB : Blt mg) (D_law_sizes : DefOk P w K mg base 2 "_law_sizes" ["_law_script"] F_law_sizes) (D_law_cell_at : DefOk P w K mg base 1 "_law_cell_at" ["_law_script", "_law_k"] F_law_cell_at) (D_law_entry : DefOk P w K mg base 1 "_law_entry" ["_law_cell", "_law_far"] F_law_entry) (D_in_order : DefOk P w K mg base 3 "in_order" ["banks", "books"] F_in_order) (D_law_is_mark : DefOk P w K mg base 1 "_law_is_mark" ["_law_mark", "_law_banks", "_law_books"] F_law_is_mark) (D_law_day : DefOk P w K mg base 1 "_law_day" ["_law_mark", "_law_banks", "_law_books"] F_law_day) (F : Fun K "law" "law" st_law f fd) : FnOk P w K mg base CX0 4 f fd ["_law_script"] (spD K F_law) :=
  def_ok (B := B_law) F sc_law (by decide) fun cdv A outer s H E hr => (pss_consd (ps_setd (i := 1) sc_law.nd (pd_fn D_law_sizes hr (by omega) (pa_consd (pd_v 0) pa_nild)))
      (pss_consd (ps_setd (i := 2) sc_law.nd (pd_c (cd_eq (room_4 hr)) (PD.rd (pd_mod (pd_fdiv (pd_fn D_law_cell_at hr (by omega) (pa_consd (pd_v 0) (pa_consd pd_int pa_nild))) pd_int) pd_int)) (PD.rd pd_int)))
      (pss_consd (ps_setLcd (i := 3) [("_law_k", 11)] sc_law.nd (pi_range1d TB.range (pa_consd (pd_ix (pd_v 1) pd_int) pa_nild)) (fun _ _ _ _ _ => (pg_named (i := 11) sc_law.nd)) (fun _ _ _ _ _ => pts_nild) (fun _ _ _ _ _ => (pd_fn D_law_entry hr (by omega) (pa_consd (pd_add (pd_mul (pd_fn D_law_cell_at hr (by omega) (pa_consd (pd_v 0) (pa_consd (pd_add pd_int (pd_mod (pd_v 11) pd_int)) pa_nild))) pd_int) (pd_mul pd_int (pd_v 11))) (pa_consd (pd_v 2) pa_nild)))) (sw_true rfl rfl rfl (by decide +kernel)))
      (pss_consd (ps_setLcd (i := 4) [("_law_k", 11)] sc_law.nd (pi_range1d TB.range (pa_consd (pd_ix (pd_v 1) pd_int) pa_nild)) (fun _ _ _ _ _ => (pg_named (i := 11) sc_law.nd)) (fun _ _ _ _ _ => pts_nild) (fun _ _ _ _ _ => (pd_fn D_law_entry hr (by omega) (pa_consd (pd_add (pd_mul (pd_fn D_law_cell_at hr (by omega) (pa_consd (pd_v 0) (pa_consd (pd_add pd_int (pd_mod (pd_v 11) pd_int)) pa_nild))) pd_int) (pd_mul pd_int (pd_v 11))) (pa_consd (pd_v 2) pa_nild)))) (sw_true rfl rfl rfl (by decide +kernel)))
      (pss_consd (ps_setd (i := 5) sc_law.nd (PN.d (pn_ct call_list_of cr_list (by rfl) TB.list (by decide +kernel) (pa_consd (pd_v 3) pa_nild))))
      (pss_consd (ps_setd (i := 6) sc_law.nd (PN.d (pn_ct call_list_of cr_list (by rfl) TB.list (by decide +kernel) (pa_consd (pd_v 4) pa_nild))))
      (pss_consd (ps_setd (i := 7) sc_law.nd (pd_fn D_in_order hr (by omega) (pa_consd (pd_v 5) (pa_consd (pd_v 6) pa_nild))))
      (pss_consd (ps_ifd (PWd.test (pw_ord (pt_notd (pt_vald (pd_isi (pr_v 7) (by rfl) TB.isinstance (by decide +kernel) (by rfl) TB.list (by decide +kernel)))) (pw_ord (pt_c (cd_ne (room_4 hr)) (PD.rd (pd_cb call_len_seq cr_len (by rfl) TB.len (by decide +kernel) (pa_consr (pr_v 7) pa_nilr))) (PD.rd (pd_add (pd_cb call_len_seq cr_len (by rfl) TB.len (by decide +kernel) (pa_consr (pr_v 3) pa_nilr)) (pd_cb call_len_seq cr_len (by rfl) TB.len (by decide +kernel) (pa_consr (pr_v 4) pa_nilr))))) (pw_ord (pt_c (cd_ne (room_4 hr)) (pr_v 5) (pr_v 3)) (pw_or1d (pt_c (cd_ne (room_4 hr)) (pr_v 6) (pr_v 4))))))) (pss_oned (ps_retd pd_bl))
      pss_nild)
      (pss_consd (ps_setd (i := 8) sc_law.nd (pd_tup (pa_consd (pd_neg pd_int) (pa_consd pd_str (pa_consd pd_int pa_nild)))))
      (pss_consd (ps_ford PassesOwn.never (pi_seqd (pd_v 7)) (pg_named (i := 9) sc_law.nd) (pss_consd (ps_ifd (pt_notd (pt_vald (pd_fn D_law_is_mark hr (by omega) (pa_consd (pd_v 9) (pa_consd (pd_v 3) (pa_consd (pd_v 4) pa_nild)))))) (pss_oned (ps_retd pd_bl))
      pss_nild)
      (pss_consd (ps_setd (i := 10) sc_law.nd (pd_tup (pa_consd (pd_fn D_law_day hr (by omega) (pa_consd (pd_v 9) (pa_consd (pd_v 3) (pa_consd (pd_v 4) pa_nild)))) (pa_consd (pd_ix (pd_v 9) pd_int) (pa_consd (pd_ix (pd_v 9) pd_int) pa_nild)))))
      (pss_consd (ps_ifd (pt_notd (pt_c (cd_lt (room_4 hr)) (pr_v 8) (pr_v 10))) (pss_oned (ps_retd pd_bl))
      pss_nild)
      (pss_oned (ps_setd (i := 8) sc_law.nd (pd_v 10)))))))
      (pss_oned (ps_retd pd_bl))))))))))))
end
/-! ### the top, all together -/
theorem all_ok {P : Program} {w : World} {K : PySem.W.Frag} {h : Heap} {mg : Str → Option Value} {fa : Addr} (X : K.In h) (G : h.Ns mainGlobals mg) (hfa : mg "law" = some (.ref fa)) (TB : Blt mg)
    {a_rows_of : Addr} {a_rows_in_order : Addr} {a_in_order : Addr} {a_law_cell_at : Addr} {a_law_entry : Addr} {a_law_is_mark : Addr} {a_law_day : Addr} {a_law_sizes : Addr} {a_law : Addr}
    (T_rows_of : TopFn K "_rows_of" st_rows_of a_rows_of) (T_rows_in_order : TopFn K "_rows_in_order" st_rows_in_order a_rows_in_order) (T_in_order : TopFn K "in_order" st_in_order a_in_order) (T_law_cell_at : TopFn K "_law_cell_at" st_law_cell_at a_law_cell_at) (T_law_entry : TopFn K "_law_entry" st_law_entry a_law_entry) (T_law_is_mark : TopFn K "_law_is_mark" st_law_is_mark a_law_is_mark) (T_law_day : TopFn K "_law_day" st_law_day a_law_day) (T_law_sizes : TopFn K "_law_sizes" st_law_sizes a_law_sizes) (T_law : TopFn K "law" st_law a_law) :
    ∃ fd : FuncData, (∀ (s : Shared) (v : Value), BindsTo s fd ⟨[v], []⟩ [("_law_script", v)]) ∧ ∀ base : Heap, K.In base → base.Ns mainGlobals mg → FnOk P w K mg base CX0 4 fa fd ["_law_script"] (spD K F_law) := by
  obtain ⟨m_rows_of, d_rows_of, u_rows_of, b_rows_of⟩ := T_rows_of.def_ (ps := ["side", "entries"]) X G fun _ _ _ _ _ _ us hl => match us, hl with | [_, _], _ => rfl
  obtain ⟨m_rows_in_order, d_rows_in_order, u_rows_in_order, b_rows_in_order⟩ := T_rows_in_order.def_ (ps := ["banks", "books"]) X G fun _ _ _ _ _ _ us hl => match us, hl with | [_, _], _ => rfl
  obtain ⟨m_in_order, d_in_order, u_in_order, b_in_order⟩ := T_in_order.def_ (ps := ["banks", "books"]) X G fun _ _ _ _ _ _ us hl => match us, hl with | [_, _], _ => rfl
  obtain ⟨m_law_cell_at, d_law_cell_at, u_law_cell_at, b_law_cell_at⟩ := T_law_cell_at.def_ (ps := ["_law_script", "_law_k"]) X G fun _ _ _ _ _ _ us hl => match us, hl with | [_, _], _ => rfl
  obtain ⟨m_law_entry, d_law_entry, u_law_entry, b_law_entry⟩ := T_law_entry.def_ (ps := ["_law_cell", "_law_far"]) X G fun _ _ _ _ _ _ us hl => match us, hl with | [_, _], _ => rfl
  obtain ⟨m_law_is_mark, d_law_is_mark, u_law_is_mark, b_law_is_mark⟩ := T_law_is_mark.def_ (ps := ["_law_mark", "_law_banks", "_law_books"]) X G fun _ _ _ _ _ _ us hl => match us, hl with | [_, _, _], _ => rfl
  obtain ⟨m_law_day, d_law_day, u_law_day, b_law_day⟩ := T_law_day.def_ (ps := ["_law_mark", "_law_banks", "_law_books"]) X G fun _ _ _ _ _ _ us hl => match us, hl with | [_, _, _], _ => rfl
  obtain ⟨m_law_sizes, d_law_sizes, u_law_sizes, b_law_sizes⟩ := T_law_sizes.def_ (ps := ["_law_script"]) X G fun _ _ _ _ _ _ us hl => match us, hl with | [_], _ => rfl
  obtain ⟨m_law, d_law, u_law, b_law⟩ := T_law.def_ (ps := ["_law_script"]) X G fun _ _ _ _ _ _ us hl => match us, hl with | [_], _ => rfl
  have e := hfa.symm.trans m_law
  cases e
  refine ⟨d_law, fun s v => ?_, fun base hK hG => ?_⟩
  · obtain ⟨oc, od, kV, doc, pm, an, cdv, ct, osl, rfl, lk, hcd⟩ := u_law.ex
    exact .of_eq rfl
  · have D_rows_of := ok_rows_of (P := P) (w := w) (base := base) TB  u_rows_of m_rows_of b_rows_of
    have D_rows_in_order := ok_rows_in_order (P := P) (w := w) (base := base) TB D_rows_of u_rows_in_order m_rows_in_order b_rows_in_order
    have D_in_order := ok_in_order (P := P) (w := w) (base := base) TB D_rows_in_order u_in_order m_in_order b_in_order
    have D_law_cell_at := ok_law_cell_at (P := P) (w := w) (base := base) TB  u_law_cell_at m_law_cell_at b_law_cell_at
    have D_law_entry := ok_law_entry (P := P) (w := w) (base := base) TB  u_law_entry m_law_entry b_law_entry
    have D_law_is_mark := ok_law_is_mark (P := P) (w := w) (base := base) TB  u_law_is_mark m_law_is_mark b_law_is_mark
    have D_law_day := ok_law_day (P := P) (w := w) (base := base) TB  u_law_day m_law_day b_law_day
    have D_law_sizes := ok_law_sizes (P := P) (w := w) (base := base) TB D_law_cell_at u_law_sizes m_law_sizes b_law_sizes
    exact ok_law TB D_law_sizes D_law_cell_at D_law_entry D_in_order D_law_is_mark D_law_day u_law
section
open PySem PySem.W PyProof.Rows
end
end My

set_option Elab.async false
set_option linter.all false
set_option maxRecDepth 100000
set_option maxHeartbeats 4000000
namespace My
open PySem L2 PySem.Spec PyProof.Rows DL

theorem F_cell (ns : List Int) (k : Nat) : F_law_cell_at [.list (ns.map .int), .int k] = some (.int (cellAt ns k)) := by
  by_cases h : k < ns.length <;> simp [F_law_cell_at, B_law_cell_at, atI_map, atI_at, h, cellAt]
def entOf (c : Int) (far : Bool) : Ent := ⟨if far = true then c % 10000 else c % 8, if c / 3 % 2 = 1 then -(1 + c / 7 % 10 ^ 9) else 1 + c / 7 % 10 ^ 9⟩
theorem F_ent (c : Int) (far : Bool) : F_law_entry [.int c, .bool far] = some (encEnt (entOf c far)) := by
  cases far <;> by_cases h : c / 3 % 2 = 1 <;> simp [F_law_entry, B_law_entry, encEnt, entOf, h]
theorem F_rows (b : Bool) (es : List Ent) (h : es.length ≤ most) : F_rows_of [.str (sideS b), .list (es.map encEnt)] = some (.list ((rowsOf b es).map encRow)) := by
  simp [F_rows_of, B_rows_of, enumFrom_len, h]
  rw [enum_map, if_pos (by simpa using h)]
  rw [lcGo_map (α := Ent × Nat) _ (fun p => encRow ⟨p.1.day, b, p.2⟩)]
  · simp [rowsOf]
  · intro p _
    simp [encEnt, encRow]
theorem F_rows_in (banks books : List Ent) (h : banks.length + books.length ≤ most) : F_rows_in_order [.list (banks.map encEnt), .list (books.map encEnt)] = some (.list ((rowsIn banks books).map encRow)) := by
  have h1 := F_rows false banks (by omega)
  have h2 := F_rows true books (by omega)
  simp only [sideS, if_true, if_false, Bool.false_eq_true] at h1 h2
  have hl : (rowsOf false banks ++ rowsOf true books).length ≤ most := by
    rw [List.length_append, rowsOf_len, rowsOf_len]
    exact h
  have h3 := sort_rows (rowsOf false banks ++ rowsOf true books) hl
  rw [List.map_append] at h3
  rw [List.length_append, rowsOf_len, rowsOf_len] at hl
  unfold most at hl
  simp [F_rows_in_order, B_rows_in_order, h1, h2, rowsOf_len, hl, h3, rowsIn]
theorem F_in (banks books : List Ent) (h : banks.length + books.length ≤ most) : F_in_order [.list (banks.map encEnt), .list (books.map encEnt)] = some (.list ((rowsIn banks books).map fun r => encMark r.mark)) := by
  have h1 := F_rows_in banks books h
  have hl : (rowsIn banks books).length ≤ 1000000 := by
    unfold rowsIn
    rw [List.length_mergeSort, List.length_append, rowsOf_len, rowsOf_len]
    exact h
  simp [F_in_order, B_in_order, h1, hl]
  rw [lcGo_map (α := DRow) _ (fun r => encMark r.mark)]
  · rfl
  · intro r _
    simp [encRow, encMark, DRow.mark]
theorem F_is (banks books : List Ent) (m : Mark) (h : okMark banks books m) : F_law_is_mark [encMark m, .list (banks.map encEnt), .list (books.map encEnt)] = some (.bool true) := by
  obtain ⟨s, p⟩ := m
  unfold okMark at h
  cases s <;> simp at h <;> simp [F_law_is_mark, B_law_is_mark, encMark, gIsi, kb1, kb2, kb3, kb4, h]
  all_goals omega
theorem F_day (banks books : List Ent) (m : Mark) (h : okMark banks books m) : F_law_day [encMark m, .list (banks.map encEnt), .list (books.map encEnt)] = some (.int (dayOf banks books m)) := by
  obtain ⟨s, p⟩ := m
  unfold okMark at h
  cases s <;> simp at h <;> simp [F_law_day, B_law_day, encMark, atI_map, atI_at, h, encEnt, dayOf]
theorem F_siz (ns : List Int) : ∃ n m : Nat, n ≤ 60 ∧ m ≤ 60 ∧ F_law_sizes [.list (ns.map .int)] = some (.tuple [.int n, .int m]) := by
  have c0 := F_cell ns 0
  have c1 := F_cell ns 1
  simp only [Int.ofNat_zero, Int.ofNat_one, Int.cast_ofNat_Int] at c0 c1
  by_cases h : cellAt ns 1 % 8 = 1
  · refine ⟨(cellAt ns 0 % 61).toNat, (cellAt ns 0 / 61 % 61).toNat, by omega, by omega, ?_⟩
    simp [F_law_sizes, B_law_sizes, c0, c1, h]
    omega
  · refine ⟨(cellAt ns 0 % 9).toNat, (cellAt ns 0 / 9 % 9).toNat, by omega, by omega, ?_⟩
    simp [F_law_sizes, B_law_sizes, c0, c1, h]
    omega
def madeOf (ns : List Int) (at_ mul n : Nat) (far : Bool) : List Ent := (List.range n).map fun k => entOf (cellAt ns (at_ + k % 9) * 48271 + mul * k) far
theorem made_len (ns : List Int) (a m n : Nat) (far : Bool) : (madeOf ns a m n far).length = n := by simp [madeOf]
theorem made_day (ns : List Int) (a m n : Nat) (far : Bool) (e : Ent) (h : e ∈ madeOf ns a m n far) : 0 ≤ e.day := by
  unfold madeOf at h
  obtain ⟨k, _, rfl⟩ := List.mem_map.mp h
  unfold entOf
  cases far
  · simp only [if_false, Bool.false_eq_true]
    omega
  · simp only [if_true]
    omega
theorem made_lc (ns : List Int) (a m n : Nat) (far : Bool) {ρ : DEnv} {f : Den} (hf : ∀ k : Nat, k < n → f (ρ.set 11 (.val (.int k))) = some (encEnt (entOf (cellAt ns (a + k % 9) * 48271 + m * k) far))) :
    lcGo (nName 11) yes f (upto 0 n) ρ = some ((madeOf ns a m n far).map encEnt) := by
  unfold upto madeOf
  rw [List.map_map]
  refine lcGo_map (α := Nat) _ _ _ fun k hk => ⟨_, rfl, rfl, ?_⟩
  rw [List.mem_range] at hk
  rw [Int.zero_add]
  exact hf k hk
def I1 (b0 b1 b2 b3 b4 b5 b6 b7 b8 : SV) (pre : List DRow) (ρ : DEnv) : Prop := ∃ s9 s10, ρ = [b0, b1, b2, b3, b4, b5, b6, b7, .val (match pre.getLast? with | none => .tuple [.int (-1), .str "", .int 0] | some r => encRow r), s9, s10, b8]
theorem lt_first (r : DRow) (h : 0 ≤ r.day) : gLt (.tuple [.int (-1), .str "", .int 0]) (encRow r) = some (.bool true) := by
  have h1 : PySem.W.dataLt (.tuple [.int (-1), .str "", .int 0]) (encRow r) = true := by
    unfold encRow
    rw [dataLt3 (by simp [PySem.W.alike]) (by simp [PySem.W.alike]) (by simp [PySem.W.alike]), eqv_int]
    rw [if_neg (by simp; omega), PySem.W.dataLt_int]
    exact decide_eq_true (by omega)
  have h3 := gLt_t (xs := [.int (-1), .str "", .int 0]) (ys := [.int r.day, .str (sideS r.side), .int r.place]) (by simp [PySem.W.alike, PySem.W.alikeAll]) (by simp [PyData.depth, PyData.depthAll])
  unfold encRow at h1 ⊢
  rw [h3, h1]
theorem F_law_true (ns : List Int) (hns : ns.length ≤ 63) : F_law [.list (ns.map .int)] = some (.bool true) := by
  obtain ⟨n, m, hn, hm, hs⟩ := F_siz ns
  have c1 := F_cell ns 1
  simp only [Int.ofNat_one, Int.cast_ofNat_Int] at c1
  have hcell : ∀ (a k : Nat), F_law_cell_at [.list (ns.map .int), .int ((a : Int) + (k : Int) % 9)] = some (.int (cellAt ns (a + k % 9))) := fun a k => by
    have := F_cell ns (a + k % 9)
    have e : ((a + k % 9 : Nat) : Int) = (a : Int) + (k : Int) % 9 := by omega
    rw [e] at this
    exact this
  have h2 := fun k => hcell 2 k
  have h11 := fun k => hcell 11 k
  simp only [Int.cast_ofNat_Int] at h2 h11
  generalize hfar : decide (cellAt ns 1 / 8 % 3 = 1) = far
  generalize hb : madeOf ns 2 31 n far = banks
  generalize hk : madeOf ns 11 37 m far = books
  have lb : banks.length = n := by rw [← hb, made_len]
  have lk : books.length = m := by rw [← hk, made_len]
  refine defD_rt rfl ?_
  refine seq_set _ (by simp [hs]; rfl) ?_
  refine seq_set (.bool far) (by simp [c1, hfar]) ?_
  refine seq_set (.list (banks.map encEnt)) ?_ ?_
  · refine lst_go (lc_go (ds := upto 0 n) (by simp; omega) (by rw [upto_len]; unfold most; omega) ?_)
    rw [← hb]
    refine made_lc ns 2 31 n far fun k hk => ?_
    simp [h2, F_ent]
  refine seq_set (.list (books.map encEnt)) ?_ ?_
  · refine lst_go (lc_go (ds := upto 0 m) (by simp; omega) (by rw [upto_len]; unfold most; omega) ?_)
    rw [← hk]
    refine made_lc ns 11 37 m far fun k hk => ?_
    simp [h11, F_ent]
  refine seq_set (.list (banks.map encEnt)) (by simp) ?_
  refine seq_set (.list (books.map encEnt)) (by simp) ?_
  have hin := F_in banks books (by unfold most; omega)
  refine seq_set _ (by simp [hin]; rfl) ?_
  have ne1 : gNe (.list (banks.map encEnt)) (.list (banks.map encEnt)) = some (.bool false) := by
    have := gNe_enc (α := List Ent) banks banks (by decide)
    rw [decide_eq_true rfl] at this
    exact this
  have ne2 : gNe (.list (books.map encEnt)) (.list (books.map encEnt)) = some (.bool false) := by
    have := gNe_enc (α := List Ent) books books (by decide)
    rw [decide_eq_true rfl] at this
    exact this
  have lr : (rowsIn banks books).length = n + m := by
    unfold rowsIn
    rw [List.length_mergeSort, List.length_append, rowsOf_len, rowsOf_len, lb, lk]
  refine seq_nx (if_f (by simp [gIsi, kb5, lr, lb, lk, ne1, ne2]) rfl) ?_
  refine seq_set (.tuple [.int (-1), .str "", .int 0]) (by simp) ?_
  have hsrt := rowsIn_sorted banks books
  have hloop := forGo_inv (G := nName 9) (B := (dSeq (dIf (bNot (tst (eF F_law_is_mark (aCons (eV 9) (aCons (eV 3) (aCons (eV 4) aNil)))))) (dRet (eC (.bool false))) dNext) (dSeq (dSet 10 (tupD (aCons (eF F_law_day (aCons (eV 9) (aCons (eV 3) (aCons (eV 4) aNil)))) (aCons (e2 gIx (eV 9) (eC (.int 0))) (aCons (e2 gIx (eV 9) (eC (.int 1))) aNil))))) (dSeq (dIf (bNot (tst (e2 gLt (eR 8) (eR 10)))) (dRet (eC (.bool false))) dNext) (dSet 8 (eV 10))))))
    (fun r : DRow => encMark r.mark) (I1 (.val (.list (ns.map .int))) (.val (.tuple [.int n, .int m])) (.val (.bool far)) (.val (.list (banks.map encEnt))) (.val (.list (books.map encEnt))) (.val (.list (banks.map encEnt))) (.val (.list (books.map encEnt))) (.val (.list ((rowsIn banks books).map fun r => encMark r.mark))) .un) (rowsIn banks books) ?_ (rowsIn banks books) [] _ rfl ⟨.un, .un, rfl⟩
  · obtain ⟨ρ', hl1, hl2⟩ := hloop
    refine seq_nx (for_go (by simp) hl1) ?_
    simp
  · rintro pre r post ρ e ⟨s9, s10, rfl⟩
    have hr : r ∈ rowsIn banks books := by rw [e]; simp
    obtain ⟨o1, o2⟩ := rowsIn_ok hr
    have f1 := F_is banks books r.mark o1
    have f2 := F_day banks books r.mark o1
    rw [o2] at f2
    have hd : 0 ≤ r.day := by
      obtain ⟨x, h1, h2⟩ := rowsIn_mem hr
      have hx := List.mem_of_getElem? h1
      rw [← h2]
      cases hsd : r.side <;> simp only [hsd, if_true, if_false, Bool.false_eq_true] at hx
      · rw [← hb] at hx
        exact made_day _ _ _ _ _ _ hx
      · rw [← hk] at hx
        exact made_day _ _ _ _ _ _ hx
    have hlt : gLt (match pre.getLast? with | none => .tuple [.int (-1), .str "", .int 0] | some r => encRow r) (encRow r) = some (.bool true) := by
      cases hp : pre.getLast? with
      | none => exact lt_first r hd
      | some q =>
        refine lt_rows q r ?_
        rw [e] at hsrt
        exact (List.pairwise_append.mp hsrt).2.2 q (List.mem_of_getLast? hp) r List.mem_cons_self
    refine ⟨_, _, rfl, ?_, ⟨.val (encMark r.mark), .val (encRow r), rfl⟩⟩
    refine seq_nx (if_f (by simp [f1]) rfl) ?_
    refine seq_set (encRow r) ?_ ?_
    · simp only [encMark, DRow.mark] at f2
      simp [f2, encMark, encRow, DRow.mark]
    refine seq_nx (if_f (by simp [hlt]) rfl) ?_
    simp
end My

open PySem PySem.W PyProof.Rows
set_option maxRecDepth 100000 in
set_option maxHeartbeats 0 in
theorem PySem.Challenge.cw_tickoff_k01_in_order_holds : PySem.Challenge.rw_tickoff_k01_in_order.Holds := by
  w_on; o_law; k_head; (case hw => w_witness2)
  k_fill
  refine L2.walk_ofK (l := PySem.Challenge.rw_tickoff_k01_in_order) (n := 63) (k := 4) (x := "_law_script") (CX := L2.CX0) (sp := fun K => DL.spD K My.F_law) rfl (by decide) rfl ⟨rfl, by decide, by decide⟩ (fun w h Y => PySem.W.kIn_of Y) ?F (fun K H a ns hl _ hS => ⟨H, [.list (ns.map .int)], .bool true, DL.Ex.refl _, .cons (.lst hS (DL.dps_ints ns)) .nil, My.F_law_true ns hl, fun C' H' v G D => by cases D; rfl⟩) (fun _ _ _ _ z => z)
  case F =>
    intro w mg fa h KX G hmg
    refine' My.all_ok KX G hmg ⟨PySem.W.mg_none_of KX G ?zbool, PySem.W.mg_none_of KX G ?zenumerate, PySem.W.mg_none_of KX G ?zint, PySem.W.mg_none_of KX G ?zisinstance, PySem.W.mg_none_of KX G ?zlen, PySem.W.mg_none_of KX G ?zlist, PySem.W.mg_none_of KX G ?zrange, PySem.W.mg_none_of KX G ?zsorted, PySem.W.mg_none_of KX G ?zstr, PySem.W.mg_none_of KX G ?ztuple⟩ (DL.top_fn ?a_rows_of ?l_rows_of ?c_rows_of ?k_rows_of) (DL.top_fn ?a_rows_in_order ?l_rows_in_order ?c_rows_in_order ?k_rows_in_order) (DL.top_fn ?a_in_order ?l_in_order ?c_in_order ?k_in_order) (DL.top_fn ?a_law_cell_at ?l_law_cell_at ?c_law_cell_at ?k_law_cell_at) (DL.top_fn ?a_law_entry ?l_law_entry ?c_law_entry ?k_law_entry) (DL.top_fn ?a_law_is_mark ?l_law_is_mark ?c_law_is_mark ?k_law_is_mark) (DL.top_fn ?a_law_day ?l_law_day ?c_law_day ?k_law_day) (DL.top_fn ?a_law_sizes ?l_law_sizes ?c_law_sizes ?k_law_sizes) (DL.top_fn ?a_law ?l_law ?c_law ?k_law)
    (case zbool => k_is)
    (case zenumerate => k_is)
    (case zint => k_is)
    (case zisinstance => k_is)
    (case zlen => k_is)
    (case zlist => k_is)
    (case zrange => k_is)
    (case zsorted => k_is)
    (case zstr => k_is)
    (case ztuple => k_is)
    (case a_rows_of => k_is)
    (case l_rows_of => k_is)
    (case c_rows_of => k_is)
    (case k_rows_of => k_is)
    (case a_rows_in_order => k_is)
    (case l_rows_in_order => k_is)
    (case c_rows_in_order => k_is)
    (case k_rows_in_order => k_is)
    (case a_in_order => k_is)
    (case l_in_order => k_is)
    (case c_in_order => k_is)
    (case k_in_order => k_is)
    (case a_law_cell_at => k_is)
    (case l_law_cell_at => k_is)
    (case c_law_cell_at => k_is)
    (case k_law_cell_at => k_is)
    (case a_law_entry => k_is)
    (case l_law_entry => k_is)
    (case c_law_entry => k_is)
    (case k_law_entry => k_is)
    (case a_law_is_mark => k_is)
    (case l_law_is_mark => k_is)
    (case c_law_is_mark => k_is)
    (case k_law_is_mark => k_is)
    (case a_law_day => k_is)
    (case l_law_day => k_is)
    (case c_law_day => k_is)
    (case k_law_day => k_is)
    (case a_law_sizes => k_is)
    (case l_law_sizes => k_is)
    (case c_law_sizes => k_is)
    (case k_law_sizes => k_is)
    (case a_law => k_is)
    (case l_law => k_is)
    (case c_law => k_is)
    (case k_law => k_is)

