import PyProof.Rows.All
import Wide.All
import OpenK.AllK
import Wide.FinOn
import HandS.Base
import HandS.Call
import HandS.List
import HandS.Comp
import HandS.Dict
import HandS.Iter
import HandS.Text
import HandS.Ends
import HandS.WideBits
import HandS.Words
import HandS.IsInst
import HandS.SortInts
import HandS.WordsList
import PySem.Challenge.RW_placesay_k09_true_by_trying
set_option Elab.async false
set_option linter.all false
set_option maxRecDepth 100000
set_option maxHeartbeats 2000000
namespace DL
open PySem L2

/-- data, as trees -/
inductive D where
  | non | bl (b : Bool) | int (i : Int) | str (s : Str) | tup (xs : List D) | lst (xs : List D)
  | fz (xs : List D) | dic (ks : List Key) (ds : List D) | dit (ks : List (List Key)) (ds : List D)
instance : Inhabited D := ⟨.non⟩

/-- what no statement writes -/
def Im : HO → Prop
  | .lst _ => False
  | .dK _ => False
  | .dT _ => False
  | _ => True
/-- a list that stands still: frozen, or written in the module -/
def NM (K : PySem.W.Frag) (H : Hp) (a : Addr) (vs : List V) : Prop := (∃ o, H a = some (.frz o (.lst vs))) ∨ SqL K (fun _ => none) a vs
theorem NM.seq {K : PySem.W.Frag} {H : Hp} {a : Addr} {vs : List V} (h : NM K H a vs) : SqL K H a vs := by
  rcases h with ⟨o, h⟩ | (h | h)
  · exact .inl (.inr ⟨o, h⟩)
  · rcases h with h | ⟨o, h⟩ <;> cases h
  · exact .inr h

mutual
/-- v stands for the data d in H; G holds of each list's and dict's address in it -/
def R (K : PySem.W.Frag) (G : Addr → Prop) (H : Hp) : D → V → Prop
  | .non, v => v = .non
  | .bl b, v => v = .bl b
  | .int i, v => v = .int i
  | .str s, v => v = .str s
  | .tup ds, v => ∃ a vs, v = .ref a ∧ SqT K H a vs ∧ Rs K G H ds vs
  | .lst ds, v => ∃ a vs, v = .ref a ∧ H a = some (.lst vs) ∧ G a ∧ Rs K G H ds vs
  | .fz ds, v => ∃ a vs, v = .ref a ∧ NM K H a vs ∧ Rs K G H ds vs
  | .dic ks ds, v => ∃ a vs, v = .ref a ∧ H a = some (.dK (ks.zip vs)) ∧ ks.length = vs.length ∧ G a ∧ Rs K G H ds vs
  | .dit ks ds, v => ∃ a vs, v = .ref a ∧ H a = some (.dT (ks.zip vs)) ∧ ks.length = vs.length ∧ G a ∧ Rs K G H ds vs
def Rs (K : PySem.W.Frag) (G : Addr → Prop) (H : Hp) : List D → List V → Prop
  | [], vs => vs = []
  | d :: ds, vs => ∃ v r, vs = v :: r ∧ R K G H d v ∧ Rs K G H ds r
end

/-- from H to H': what is not written stays, and so does what G names -/
def Keep (G : Addr → Prop) (H H' : Hp) : Prop := ∀ a o, H a = some o → (G a ∨ Im o) → H' a = some o
theorem Keep.tup {K : PySem.W.Frag} {G : Addr → Prop} {H H' : Hp} (k : Keep G H H') {a : Addr} {vs : List V} (h : SqT K H a vs) : SqT K H' a vs := by
  rcases h with (h | ⟨o, h⟩) | h
  · exact .inl (.inl (k _ _ h (.inr True.intro)))
  · exact .inl (.inr ⟨o, k _ _ h (.inr True.intro)⟩)
  · exact .inr h
theorem Keep.nm {K : PySem.W.Frag} {G : Addr → Prop} {H H' : Hp} (k : Keep G H H') {a : Addr} {vs : List V} (h : NM K H a vs) : NM K H' a vs := by
  rcases h with ⟨o, h⟩ | h
  · exact .inl ⟨o, k _ _ h (.inr True.intro)⟩
  · exact .inr h

mutual
theorem R.mono {K : PySem.W.Frag} {G G' : Addr → Prop} {H H' : Hp} (k : Keep G H H') (g : ∀ a, H a ≠ none → G a → G' a) : ∀ {d : D} {v : V}, R K G H d v → R K G' H' d v
  | .non, _, h => by unfold R at h ⊢; exact h
  | .bl _, _, h => by unfold R at h ⊢; exact h
  | .int _, _, h => by unfold R at h ⊢; exact h
  | .str _, _, h => by unfold R at h ⊢; exact h
  | .tup _, _, h => by
    unfold R at h ⊢
    obtain ⟨a, vs, e, s, r⟩ := h
    exact ⟨a, vs, e, k.tup s, Rs.mono k g r⟩
  | .lst _, _, h => by
    unfold R at h ⊢
    obtain ⟨a, vs, e, s, ga, r⟩ := h
    exact ⟨a, vs, e, k a _ s (.inl ga), g a (by rw [s]; exact Option.some_ne_none _) ga, Rs.mono k g r⟩
  | .fz _, _, h => by
    unfold R at h ⊢
    obtain ⟨a, vs, e, s, r⟩ := h
    exact ⟨a, vs, e, k.nm s, Rs.mono k g r⟩
  | .dic _ _, _, h => by
    unfold R at h ⊢
    obtain ⟨a, vs, e, s, l, ga, r⟩ := h
    exact ⟨a, vs, e, k a _ s (.inl ga), l, g a (by rw [s]; exact Option.some_ne_none _) ga, Rs.mono k g r⟩
  | .dit _ _, _, h => by
    unfold R at h ⊢
    obtain ⟨a, vs, e, s, l, ga, r⟩ := h
    exact ⟨a, vs, e, k a _ s (.inl ga), l, g a (by rw [s]; exact Option.some_ne_none _) ga, Rs.mono k g r⟩
theorem Rs.mono {K : PySem.W.Frag} {G G' : Addr → Prop} {H H' : Hp} (k : Keep G H H') (g : ∀ a, H a ≠ none → G a → G' a) : ∀ {ds : List D} {vs : List V}, Rs K G H ds vs → Rs K G' H' ds vs
  | [], _, h => by unfold Rs at h ⊢; exact h
  | _ :: _, _, h => by
    unfold Rs at h ⊢
    obtain ⟨v, r, e, h1, h2⟩ := h
    exact ⟨v, r, e, R.mono k g h1, Rs.mono k g h2⟩
end
theorem Keep.refl {G : Addr → Prop} {H : Hp} : Keep G H H := fun _ _ h _ => h
theorem Keep.weak {G G' : Addr → Prop} {H H' : Hp} (k : Keep G H H') (g : ∀ a, G' a → G a) : Keep G' H H' := fun a o h q => k a o h (q.imp (g a) id)

/-! ### lists of data -/
section
variable {K : PySem.W.Frag} {G : Addr → Prop} {H : Hp}
theorem Rs.nil : Rs K G H [] [] := by unfold Rs; rfl
theorem Rs.cons {d : D} {ds : List D} {v : V} {vs : List V} (h : R K G H d v) (t : Rs K G H ds vs) : Rs K G H (d :: ds) (v :: vs) := by unfold Rs; exact ⟨v, vs, rfl, h, t⟩
theorem Rs.len : ∀ {ds : List D} {vs : List V}, Rs K G H ds vs → ds.length = vs.length
  | [], _, h => by unfold Rs at h; subst h; rfl
  | _ :: _, _, h => by
    unfold Rs at h
    obtain ⟨v, r, rfl, _, t⟩ := h
    rw [List.length_cons, List.length_cons, Rs.len t]
theorem Rs.get : ∀ {ds : List D} {vs : List V} {i : Nat} {d : D}, Rs K G H ds vs → ds[i]? = some d → ∃ v, vs[i]? = some v ∧ R K G H d v
  | [], _, _, _, _, e => by simp at e
  | x :: ds, _, 0, d, h, e => by
    unfold Rs at h
    obtain ⟨v, r, rfl, h1, _⟩ := h
    simp at e; subst e
    exact ⟨v, rfl, h1⟩
  | x :: ds, _, i + 1, d, h, e => by
    unfold Rs at h
    obtain ⟨v, r, rfl, _, t⟩ := h
    obtain ⟨u, h1, h2⟩ := Rs.get (i := i) t (by simpa using e)
    exact ⟨u, by simpa using h1, h2⟩
theorem Rs.getV : ∀ {ds : List D} {vs : List V} {i : Nat} {v : V}, Rs K G H ds vs → vs[i]? = some v → ∃ d, ds[i]? = some d ∧ R K G H d v
  | [], _, _, _, h, e => by unfold Rs at h; subst h; simp at e
  | x :: ds, _, 0, d, h, e => by
    unfold Rs at h
    obtain ⟨v, r, rfl, h1, _⟩ := h
    simp at e; subst e
    exact ⟨x, rfl, h1⟩
  | x :: ds, _, i + 1, d, h, e => by
    unfold Rs at h
    obtain ⟨v, r, rfl, _, t⟩ := h
    obtain ⟨u, h1, h2⟩ := Rs.getV (i := i) t (by simpa using e)
    exact ⟨u, by simpa using h1, h2⟩
theorem Rs.append : ∀ {ds es : List D} {vs ws : List V}, Rs K G H ds vs → Rs K G H es ws → Rs K G H (ds ++ es) (vs ++ ws)
  | [], _, _, _, h, t => by unfold Rs at h; subst h; exact t
  | _ :: _, _, _, _, h, t => by
    unfold Rs at h
    obtain ⟨v, r, rfl, h1, h2⟩ := h
    exact Rs.cons h1 (Rs.append h2 t)
theorem Rs.snoc {ds : List D} {vs : List V} {d : D} {v : V} (h : Rs K G H ds vs) (t : R K G H d v) : Rs K G H (ds ++ [d]) (vs ++ [v]) := h.append (.cons t .nil)
theorem Rs.take : ∀ {ds : List D} {vs : List V} (n : Nat), Rs K G H ds vs → Rs K G H (ds.take n) (vs.take n)
  | _, _, 0, _ => by rw [List.take_zero, List.take_zero]; exact Rs.nil
  | [], _, _ + 1, h => by unfold Rs at h; subst h; exact Rs.nil
  | _ :: _, _, n + 1, h => by
    unfold Rs at h
    obtain ⟨v, r, rfl, h1, h2⟩ := h
    exact Rs.cons h1 (Rs.take n h2)
theorem Rs.drop : ∀ {ds : List D} {vs : List V} (n : Nat), Rs K G H ds vs → Rs K G H (ds.drop n) (vs.drop n)
  | _, _, 0, h => h
  | [], _, _ + 1, h => by unfold Rs at h; subst h; exact Rs.nil
  | _ :: _, _, n + 1, h => by
    unfold Rs at h
    obtain ⟨v, r, rfl, h1, h2⟩ := h
    exact Rs.drop n h2
theorem Rs.set : ∀ {ds : List D} {vs : List V} (i : Nat) {d : D} {v : V}, Rs K G H ds vs → R K G H d v → Rs K G H (ds.set i d) (vs.set i v)
  | [], _, _, _, _, h, _ => by unfold Rs at h; subst h; exact Rs.nil
  | _ :: _, _, 0, _, _, h, q => by
    unfold Rs at h
    obtain ⟨v, r, rfl, h1, h2⟩ := h
    exact Rs.cons q h2
  | _ :: _, _, i + 1, _, _, h, q => by
    unfold Rs at h
    obtain ⟨v, r, rfl, h1, h2⟩ := h
    exact Rs.cons h1 (Rs.set i h2 q)
theorem Rs.ints : ∀ {ns : List Int} {vs : List V}, Rs K G H (ns.map D.int) vs → vs = ns.map V.int
  | [], _, h => by unfold List.map Rs at h; subst h; rfl
  | n :: ns, _, h => by
    rw [List.map_cons] at h
    unfold Rs at h
    obtain ⟨v, r, rfl, h1, h2⟩ := h
    unfold R at h1; subst h1
    rw [List.map_cons, Rs.ints h2]
theorem Rs.bls : ∀ {ns : List Bool} {vs : List V}, Rs K G H (ns.map D.bl) vs → vs = ns.map V.bl
  | [], _, h => by unfold List.map Rs at h; subst h; rfl
  | n :: ns, _, h => by
    rw [List.map_cons] at h
    unfold Rs at h
    obtain ⟨v, r, rfl, h1, h2⟩ := h
    unfold R at h1; subst h1
    rw [List.map_cons, Rs.bls h2]
theorem Rs.strs : ∀ {ns : List Str} {vs : List V}, Rs K G H (ns.map D.str) vs → vs = ns.map V.str
  | [], _, h => by unfold List.map Rs at h; subst h; rfl
  | n :: ns, _, h => by
    rw [List.map_cons] at h
    unfold Rs at h
    obtain ⟨v, r, rfl, h1, h2⟩ := h
    unfold R at h1; subst h1
    rw [List.map_cons, Rs.strs h2]
theorem Rs.ofInts : ∀ (ns : List Int), Rs K G H (ns.map D.int) (ns.map V.int)
  | [] => Rs.nil
  | n :: ns => Rs.cons (by unfold R; rfl) (Rs.ofInts ns)
end

/-! ### data without a list or dict in it -/
mutual
def nol : D → Bool
  | .tup ds => nols ds
  | .lst _ => false
  | .dic _ _ => false
  | .dit _ _ => false
  | .fz ds => nols ds
  | _ => true
def nols : List D → Bool
  | [] => true
  | d :: ds => nol d && nols ds
end
mutual
theorem R.nol {K : PySem.W.Frag} {G G' : Addr → Prop} {H : Hp} : ∀ {d : D} {v : V}, nol d = true → R K G H d v → R K G' H d v
  | .non, _, _, h => by unfold R at h ⊢; exact h
  | .bl _, _, _, h => by unfold R at h ⊢; exact h
  | .int _, _, _, h => by unfold R at h ⊢; exact h
  | .str _, _, _, h => by unfold R at h ⊢; exact h
  | .tup _, _, q, h => by
    unfold R at h ⊢
    unfold DL.nol at q
    obtain ⟨a, vs, e, s, r⟩ := h
    exact ⟨a, vs, e, s, Rs.nol q r⟩
  | .lst _, _, q, _ => by unfold DL.nol at q; cases q
  | .fz _, _, q, h => by
    unfold R at h ⊢
    unfold DL.nol at q
    obtain ⟨a, vs, e, s, r⟩ := h
    exact ⟨a, vs, e, s, Rs.nol q r⟩
  | .dic _ _, _, q, _ => by unfold DL.nol at q; cases q
  | .dit _ _, _, q, _ => by unfold DL.nol at q; cases q
theorem Rs.nol {K : PySem.W.Frag} {G G' : Addr → Prop} {H : Hp} : ∀ {ds : List D} {vs : List V}, nols ds = true → Rs K G H ds vs → Rs K G' H ds vs
  | [], _, _, h => by unfold Rs at h ⊢; exact h
  | _ :: _, _, q, h => by
    unfold Rs at h ⊢
    unfold nols at q
    rw [Bool.and_eq_true] at q
    obtain ⟨v, r, e, h1, h2⟩ := h
    exact ⟨v, r, e, R.nol q.1 h1, Rs.nol q.2 h2⟩
end
theorem nols_all : ∀ {ds : List D}, nols ds = true ↔ ∀ d ∈ ds, nol d = true
  | [] => by simp [nols]
  | d :: ds => by
    unfold nols
    rw [Bool.and_eq_true, nols_all (ds := ds)]
    simp

/-! ### how new a thing's lists are: o any, h made in this def, n made in this expression -/
inductive Fr where
  | o | h | n
  deriving DecidableEq
structure Bx where
  H0 : Hp
  Mp : List Addr
  Av : List Addr
def Bx.add (B : Bx) (p : Addr) : Bx := { B with Av := p :: B.Av }
def GF (B : Bx) (M : Addr → Prop) (Hs : Hp) (f : Fr) (a : Addr) : Prop := ¬ M a ∧ a ∉ B.Av ∧ (f ≠ .o → B.H0 a = none) ∧ (f = .n → Hs a = none)

/-- what is known of a slot -/
inductive Sl where
  | no
  | val (d : D) (f : Fr)
  /-- a list that may be changed here: made here -/
  | ml (ds : List D) (f : Fr)
  /-- the k-th list that was handed in to be changed -/
  | mp (k : Nat) (ds : List D)
  | md (ks : List Key) (ds : List D) (f : Fr)
  | mt (ks : List (List Key)) (ds : List D) (f : Fr)
instance : Inhabited Sl := ⟨.no⟩
abbrev En := List Sl
def Sl.isM : Sl → Bool
  | .ml _ _ => true
  | .mp _ _ => true
  | .md _ _ _ => true
  | .mt _ _ _ => true
  | _ => false
def mset (σ : L2.St) (ρ : En) (a : Addr) : Prop := ∃ (i : Nat) (s : Sl), ρ[i]? = some s ∧ s.isM = true ∧ σ[i]? = some (some (.ref a))

def SlOk (K : PySem.W.Frag) (B : Bx) (H : Hp) (σ : L2.St) (M : Addr → Prop) (i : Nat) : Sl → Prop
  | .no => True
  | .val d f => ∃ v, σ[i]? = some (some v) ∧ R K (GF B M B.H0 f) H d v
  | .ml ds f => ∃ p vs, σ[i]? = some (some (.ref p)) ∧ H p = some (.lst vs) ∧ Rs K (GF B M B.H0 f) H ds vs ∧ B.H0 p = none ∧ p ∉ B.Av
  | .mp k ds => ∃ p vs, σ[i]? = some (some (.ref p)) ∧ H p = some (.lst vs) ∧ Rs K (fun _ => False) H ds vs ∧ B.Mp[k]? = some p ∧ p ∉ B.Av
  | .md ks ds f => ∃ p vs, σ[i]? = some (some (.ref p)) ∧ H p = some (.dK (ks.zip vs)) ∧ ks.length = vs.length ∧ Rs K (GF B M B.H0 f) H ds vs ∧ B.H0 p = none ∧ p ∉ B.Av
  | .mt ks ds f => ∃ p vs, σ[i]? = some (some (.ref p)) ∧ H p = some (.dT (ks.zip vs)) ∧ ks.length = vs.length ∧ Rs K (GF B M B.H0 f) H ds vs ∧ B.H0 p = none ∧ p ∉ B.Av

structure Ok (K : PySem.W.Frag) (B : Bx) (H : Hp) (σ : L2.St) (ρ : En) : Prop where
  len : ρ.length = σ.length
  dom : ∀ a, B.H0 a ≠ none → H a ≠ none
  av : ∀ a ∈ B.Av, H a ≠ none
  ext : ∀ a o, B.H0 a = some o → a ∉ B.Mp → H a = some o
  sl : ∀ (i : Nat) (s : Sl), ρ[i]? = some s → SlOk K B H σ (mset σ ρ) i s
  inj : ∀ (i j : Nat) (s t : Sl) (a : Addr), ρ[i]? = some s → s.isM = true → ρ[j]? = some t → t.isM = true → σ[i]? = some (some (.ref a)) → σ[j]? = some (some (.ref a)) → i = j

/-- the change by an expression -/
structure Stp (σ : L2.St) (H : Hp) (ρ : En) (H' : Hp) (ρ' : En) : Prop where
  keep : Keep (fun a => ¬ mset σ ρ a) H H'
  dom : ∀ a, H a ≠ none → H' a ≠ none
  sub : ∀ a, mset σ ρ' a → mset σ ρ a
theorem Stp.refl {σ : L2.St} {H : Hp} {ρ : En} : Stp σ H ρ H ρ := ⟨Keep.refl, fun _ h => h, fun _ h => h⟩
theorem Stp.trans {σ : L2.St} {H H1 H2 : Hp} {ρ ρ1 ρ2 : En} (a : Stp σ H ρ H1 ρ1) (b : Stp σ H1 ρ1 H2 ρ2) : Stp σ H ρ H2 ρ2 :=
  ⟨fun x o h q => b.keep x o (a.keep x o h q) (q.imp (fun z w => z (a.sub x w)) id), fun x h => b.dom x (a.dom x h), fun x h => a.sub x (b.sub x h)⟩

/-- what an expression gives -/
inductive Rv where
  | v (d : D) (f : Fr)
  /-- a list, dict that nothing else holds; f: of what is in it -/
  | nl (ds : List D) (f : Fr)
  | nd (ks : List Key) (ds : List D) (f : Fr)
  | nt (ks : List (List Key)) (ds : List D) (f : Fr)
  /-- what the slot i holds -/
  | m (i : Nat)
def RelR (K : PySem.W.Frag) (B : Bx) (Hs H : Hp) (σ : L2.St) (ρ : En) (v : V) : Rv → Prop
  | .v d f => R K (GF B (mset σ ρ) Hs f) H d v
  | .nl ds f => ∃ p vs, v = .ref p ∧ H p = some (.lst vs) ∧ Hs p = none ∧ ¬ mset σ ρ p ∧ p ∉ B.Av ∧ Ok K (B.add p) H σ ρ ∧ Rs K (GF (B.add p) (mset σ ρ) Hs f) H ds vs
  | .nd ks ds f => ∃ p vs, v = .ref p ∧ H p = some (.dK (ks.zip vs)) ∧ ks.length = vs.length ∧ Hs p = none ∧ ¬ mset σ ρ p ∧ p ∉ B.Av ∧ Ok K (B.add p) H σ ρ ∧ Rs K (GF (B.add p) (mset σ ρ) Hs f) H ds vs
  | .nt ks ds f => ∃ p vs, v = .ref p ∧ H p = some (.dT (ks.zip vs)) ∧ ks.length = vs.length ∧ Hs p = none ∧ ¬ mset σ ρ p ∧ p ∉ B.Av ∧ Ok K (B.add p) H σ ρ ∧ Rs K (GF (B.add p) (mset σ ρ) Hs f) H ds vs
  | .m i => σ[i]? = some (some v) ∧ ∃ s : Sl, ρ[i]? = some s ∧ s ≠ .no

/-- what is seen of a result: the data, how new its parts are -/
structure Ob where
  d : D
  f : Fr
def obS : Sl → Ob
  | .no => ⟨.non, .o⟩
  | .val d f => ⟨d, if f = .o then .o else .h⟩
  | .ml ds f => ⟨.lst ds, if f = .o then .o else .h⟩
  | .mp _ ds => ⟨.lst ds, .n⟩
  | .md ks ds f => ⟨.dic ks ds, if f = .o then .o else .h⟩
  | .mt ks ds f => ⟨.dit ks ds, if f = .o then .o else .h⟩
def ob (ρ : En) : Rv → Ob
  | .v d f => ⟨d, f⟩
  | .nl ds f => ⟨.lst ds, f⟩
  | .nd ks ds f => ⟨.dic ks ds, f⟩
  | .nt ks ds f => ⟨.dit ks ds, f⟩
  | .m i => obS (ρ.getD i .no)
/-- v stands for what is seen: as R, the top list or dict at any address -/
def RO (K : PySem.W.Frag) (G : Addr → Prop) (H : Hp) (d : D) (v : V) : Prop := match d with
  | .lst ds => ∃ a vs, v = .ref a ∧ H a = some (.lst vs) ∧ Rs K G H ds vs
  | .dic ks ds => ∃ a vs, v = .ref a ∧ H a = some (.dK (ks.zip vs)) ∧ ks.length = vs.length ∧ Rs K G H ds vs
  | .dit ks ds => ∃ a vs, v = .ref a ∧ H a = some (.dT (ks.zip vs)) ∧ ks.length = vs.length ∧ Rs K G H ds vs
  | d => R K G H d v
theorem R.ro {K : PySem.W.Frag} {G : Addr → Prop} {H : Hp} {d : D} {v : V} (h : R K G H d v) : RO K G H d v := by
  cases d with
  | lst ds => unfold R at h; obtain ⟨a, vs, e, s, _, r⟩ := h; exact ⟨a, vs, e, s, r⟩
  | dic ks ds => unfold R at h; obtain ⟨a, vs, e, s, l, _, r⟩ := h; exact ⟨a, vs, e, s, l, r⟩
  | dit ks ds => unfold R at h; obtain ⟨a, vs, e, s, l, _, r⟩ := h; exact ⟨a, vs, e, s, l, r⟩
  | _ => exact h
theorem RO.all {K : PySem.W.Frag} {G : Addr → Prop} {H : Hp} {d : D} {v : V} (h : RO K G H d v) : R K (fun _ => True) H d v := by
  have m : ∀ {ds : List D} {vs : List V}, Rs K G H ds vs → Rs K (fun _ => True) H ds vs := fun r => Rs.mono Keep.refl (fun _ _ _ => True.intro) r
  cases d with
  | lst ds => obtain ⟨a, vs, e, s, r⟩ := h; unfold R; exact ⟨a, vs, e, s, True.intro, m r⟩
  | dic ks ds => obtain ⟨a, vs, e, s, l, r⟩ := h; unfold R; exact ⟨a, vs, e, s, l, True.intro, m r⟩
  | dit ks ds => obtain ⟨a, vs, e, s, l, r⟩ := h; unfold R; exact ⟨a, vs, e, s, l, True.intro, m r⟩
  | _ => exact R.mono (G := G) Keep.refl (fun _ _ _ => True.intro) h
end DL

namespace DL
open PySem L2

section
variable {K : PySem.W.Frag} {B : Bx} {H H' Hs : Hp} {σ : L2.St} {ρ ρ' : En} {v : V} {r : Rv}

theorem Ok.mdom (k : Ok K B H σ ρ) {a : Addr} (h : mset σ ρ a) : H a ≠ none := by
  obtain ⟨i, s, e, m, z⟩ := h
  have q := k.sl i s e
  cases s with
  | no => cases m
  | val d f => cases m
  | ml ds f => obtain ⟨p, vs, e1, e2, _⟩ := q; rw [z] at e1; cases e1; rw [e2]; exact Option.some_ne_none _
  | mp n ds => obtain ⟨p, vs, e1, e2, _⟩ := q; rw [z] at e1; cases e1; rw [e2]; exact Option.some_ne_none _
  | md ks ds f => obtain ⟨p, vs, e1, e2, _⟩ := q; rw [z] at e1; cases e1; rw [e2]; exact Option.some_ne_none _
  | mt ks ds f => obtain ⟨p, vs, e1, e2, _⟩ := q; rw [z] at e1; cases e1; rw [e2]; exact Option.some_ne_none _
theorem Ok.mav (k : Ok K B H σ ρ) {a : Addr} (h : mset σ ρ a) : a ∉ B.Av := by
  obtain ⟨i, s, e, m, z⟩ := h
  have q := k.sl i s e
  cases s with
  | no => cases m
  | val d f => cases m
  | ml ds f => obtain ⟨p, vs, e1, e2, _, _, e3⟩ := q; rw [z] at e1; cases e1; exact e3
  | mp n ds => obtain ⟨p, vs, e1, e2, _, _, e3⟩ := q; rw [z] at e1; cases e1; exact e3
  | md ks ds f => obtain ⟨p, vs, e1, e2, _, _, _, e3⟩ := q; rw [z] at e1; cases e1; exact e3
  | mt ks ds f => obtain ⟨p, vs, e1, e2, _, _, _, e3⟩ := q; rw [z] at e1; cases e1; exact e3

/-- nothing that is tracked is changed -/
def All (H H' : Hp) : Prop := ∀ a o, H a = some o → H' a = some o
theorem All.refl : All H H := fun _ _ h => h
theorem All.new {p : Addr} {o : HO} (h : H p = none) : All H (upd H p o) := fun a u e => by rw [upd_ne (ne_of_none e h)]; exact e
theorem All.keep {G : Addr → Prop} (a : All H H') : Keep G H H' := fun x o h _ => a x o h
theorem All.dom (k : All H H') {a : Addr} (h : H a ≠ none) : H' a ≠ none := by
  cases e : H a with
  | none => exact absurd e h
  | some o => rw [k a o e]; exact Option.some_ne_none _
theorem All.step (k : All H H') : Stp σ H ρ H' ρ := ⟨k.keep, fun _ h => k.dom h, fun _ h => h⟩
theorem Rs.all {G : Addr → Prop} {ds : List D} {vs : List V} (k : All H H') (h : Rs K G H ds vs) : Rs K G H' ds vs := Rs.mono k.keep (fun _ _ g => g) h
theorem R.all {G : Addr → Prop} {d : D} {v : V} (k : All H H') (h : R K G H d v) : R K G H' d v := R.mono k.keep (fun _ _ g => g) h
/-- more is tracked, all else as it was -/
theorem Ok.all (k : Ok K B H σ ρ) (a : All H H') : Ok K B H' σ ρ := by
  refine ⟨k.len, fun x h => a.dom (k.dom x h), fun x h => a.dom (k.av x h), fun x o h q => a x o (k.ext x o h q), fun i s e => ?_, k.inj⟩
  have q := k.sl i s e
  cases s with
  | no => exact True.intro
  | val d f => obtain ⟨v, e1, e2⟩ := q; exact ⟨v, e1, e2.all a⟩
  | ml ds f => obtain ⟨p, vs, e1, e2, e3, e4⟩ := q; exact ⟨p, vs, e1, a _ _ e2, e3.all a, e4⟩
  | mp n ds => obtain ⟨p, vs, e1, e2, e3, e4⟩ := q; exact ⟨p, vs, e1, a _ _ e2, e3.all a, e4⟩
  | md ks ds f => obtain ⟨p, vs, e1, e2, e0, e3, e4⟩ := q; exact ⟨p, vs, e1, a _ _ e2, e0, e3.all a, e4⟩
  | mt ks ds f => obtain ⟨p, vs, e1, e2, e0, e3, e4⟩ := q; exact ⟨p, vs, e1, a _ _ e2, e0, e3.all a, e4⟩
/-- what H did not know is kept clear of -/
theorem Ok.clear (k : Ok K B H σ ρ) {p : Addr} {o : HO} (hp : H p = none) : Ok K (B.add p) (upd H p o) σ ρ := by
  have A : All H (upd H p o) := All.new hp
  have g : ∀ {f : Fr} (a : Addr), H a ≠ none → GF B (mset σ ρ) B.H0 f a → GF (B.add p) (mset σ ρ) B.H0 f a := fun {f} a ha q =>
    ⟨q.1, fun z => (List.mem_cons.mp z).elim (fun z => ha (z ▸ hp)) q.2.1, q.2.2⟩
  have ne : ∀ {a : Addr} {o : HO}, H a = some o → a ∉ B.Av → a ∉ (B.add p).Av := fun {a o} e q z => (List.mem_cons.mp z).elim (fun z => by rw [z, hp] at e; cases e) q
  refine ⟨k.len, fun a h => A.dom (k.dom a h), fun a h => (List.mem_cons.mp h).elim (fun z => by rw [z, upd_same]; exact Option.some_ne_none _) (fun z => A.dom (k.av a z)), fun x o h q => A x o (k.ext x o h q), fun i s e => ?_, k.inj⟩
  have q := k.sl i s e
  cases s with
  | no => exact True.intro
  | val d f => obtain ⟨v, e1, e2⟩ := q; exact ⟨v, e1, e2.mono A.keep g⟩
  | ml ds f => obtain ⟨p, vs, e1, e2, e3, e4, e5⟩ := q; exact ⟨p, vs, e1, A _ _ e2, e3.mono A.keep g, e4, ne e2 e5⟩
  | mp n ds => obtain ⟨p, vs, e1, e2, e3, e4, e5⟩ := q; exact ⟨p, vs, e1, A _ _ e2, e3.all A, e4, ne e2 e5⟩
  | md ks ds f => obtain ⟨p, vs, e1, e2, e0, e3, e4, e5⟩ := q; exact ⟨p, vs, e1, A _ _ e2, e0, e3.mono A.keep g, e4, ne e2 e5⟩
  | mt ks ds f => obtain ⟨p, vs, e1, e2, e0, e3, e4, e5⟩ := q; exact ⟨p, vs, e1, A _ _ e2, e0, e3.mono A.keep g, e4, ne e2 e5⟩
theorem GF.unadd {M : Addr → Prop} {f : Fr} {a p : Addr} (h : GF (B.add p) M Hs f a) : GF B M Hs f a := ⟨h.1, fun z => h.2.1 (List.mem_cons_of_mem _ z), h.2.2⟩
theorem Ok.unclear {p : Addr} (k : Ok K (B.add p) H σ ρ) : Ok K B H σ ρ := by
  have ne : ∀ {a : Addr}, a ∉ (B.add p).Av → a ∉ B.Av := fun {a} q z => q (List.mem_cons_of_mem _ z)
  refine ⟨k.len, k.dom, fun a h => k.av a (List.mem_cons_of_mem _ h), k.ext, fun i s e => ?_, k.inj⟩
  have q := k.sl i s e
  cases s with
  | no => exact True.intro
  | val d f => obtain ⟨v, e1, e2⟩ := q; exact ⟨v, e1, e2.mono Keep.refl fun a _ g => g.unadd⟩
  | ml ds f => obtain ⟨p, vs, e1, e2, e3, e4, e5⟩ := q; exact ⟨p, vs, e1, e2, e3.mono Keep.refl fun a _ g => g.unadd, e4, ne e5⟩
  | mp n ds => obtain ⟨p, vs, e1, e2, e3, e4, e5⟩ := q; exact ⟨p, vs, e1, e2, e3, e4, ne e5⟩
  | md ks ds f => obtain ⟨p, vs, e1, e2, e0, e3, e4, e5⟩ := q; exact ⟨p, vs, e1, e2, e0, e3.mono Keep.refl fun a _ g => g.unadd, e4, ne e5⟩
  | mt ks ds f => obtain ⟨p, vs, e1, e2, e0, e3, e4, e5⟩ := q; exact ⟨p, vs, e1, e2, e0, e3.mono Keep.refl fun a _ g => g.unadd, e4, ne e5⟩

/-! ### results carried on -/
/-- as RelR, what is new no longer known to be held by nothing else -/
def Rg (K : PySem.W.Frag) (B : Bx) (Hs H : Hp) (σ : L2.St) (ρ : En) (v : V) : Rv → Prop
  | .v d f => R K (GF B (mset σ ρ) Hs f) H d v
  | .nl ds f => R K (GF B (mset σ ρ) Hs f) H (.lst ds) v
  | .nd ks ds f => R K (GF B (mset σ ρ) Hs f) H (.dic ks ds) v
  | .nt ks ds f => R K (GF B (mset σ ρ) Hs f) H (.dit ks ds) v
  | .m i => σ[i]? = some (some v) ∧ ∃ s : Sl, ρ[i]? = some s ∧ s ≠ .no
theorem RelR.rg (hd : ∀ a, B.H0 a ≠ none → Hs a ≠ none) (h : RelR K B Hs H σ ρ v r) : Rg K B Hs H σ ρ v r := by
  have hp : ∀ {p : Addr} {f : Fr}, Hs p = none → ¬ mset σ ρ p → p ∉ B.Av → GF B (mset σ ρ) Hs f p := fun {p f} e m a =>
    ⟨m, a, fun _ => by
      cases q : B.H0 p with
      | none => rfl
      | some o => exact absurd e (hd p (by rw [q]; exact Option.some_ne_none _)), fun _ => e⟩
  have g : ∀ {p a : Addr} {f : Fr}, H a ≠ none → GF (B.add p) (mset σ ρ) Hs f a → GF B (mset σ ρ) Hs f a := fun _ q => q.unadd
  cases r with
  | v d f => exact h
  | nl ds f => obtain ⟨p, vs, e, e1, e2, e3, e4, _, e5⟩ := h; unfold Rg R; exact ⟨p, vs, e, e1, hp e2 e3 e4, e5.mono Keep.refl fun a => g⟩
  | nd ks ds f => obtain ⟨p, vs, e, e1, l, e2, e3, e4, _, e5⟩ := h; unfold Rg R; exact ⟨p, vs, e, e1, l, hp e2 e3 e4, e5.mono Keep.refl fun a => g⟩
  | nt ks ds f => obtain ⟨p, vs, e, e1, l, e2, e3, e4, _, e5⟩ := h; unfold Rg R; exact ⟨p, vs, e, e1, l, hp e2 e3 e4, e5.mono Keep.refl fun a => g⟩
  | m i => exact h
/-- kinds: a slot that is known stays known -/
def Kn (ρ ρ' : En) : Prop := ∀ i : Nat, (∃ s : Sl, ρ[i]? = some s ∧ s ≠ .no) → ∃ s : Sl, ρ'[i]? = some s ∧ s ≠ .no
theorem GF.step {f : Fr} {a : Addr} (st : Stp σ H ρ H' ρ') (h : GF B (mset σ ρ) Hs f a) : GF B (mset σ ρ') Hs f a := ⟨fun z => h.1 (st.sub a z), h.2⟩
theorem R.step {d : D} {f : Fr} (st : Stp σ H ρ H' ρ') (h : R K (GF B (mset σ ρ) Hs f) H d v) : R K (GF B (mset σ ρ') Hs f) H' d v :=
  R.mono (st.keep.weak fun _ g => g.1) (fun _ _ g => g.step st) h
theorem Rs.step {ds : List D} {vs : List V} {f : Fr} (st : Stp σ H ρ H' ρ') (h : Rs K (GF B (mset σ ρ) Hs f) H ds vs) : Rs K (GF B (mset σ ρ') Hs f) H' ds vs :=
  Rs.mono (st.keep.weak fun _ g => g.1) (fun _ _ g => g.step st) h
theorem Rg.go (st : Stp σ H ρ H' ρ') (kn : Kn ρ ρ') (h : Rg K B Hs H σ ρ v r) : Rg K B Hs H' σ ρ' v r := by
  cases r with
  | v d f => exact R.step st h
  | nl ds f => exact R.step st h
  | nd ks ds f => exact R.step st h
  | nt ks ds f => exact R.step st h
  | m i => exact ⟨h.1, kn i h.2⟩
theorem GF.fr {M : Addr → Prop} {f : Fr} {a : Addr} (h : GF B M B.H0 f a) : GF B M Hs (if f = .o then .o else .h) a := by
  refine ⟨h.1, h.2.1, fun z => ?_, fun z => ?_⟩
  · by_cases e : f = .o
    · rw [if_pos e] at z; exact absurd rfl z
    · exact h.2.2.1 e
  · by_cases e : f = .o
    · rw [if_pos e] at z; cases z
    · rw [if_neg e] at z; cases z
theorem Rg.ro (k : Ok K B H σ ρ) (h : Rg K B Hs H σ ρ v r) : RO K (GF B (mset σ ρ) Hs (ob ρ r).f) H (ob ρ r).d v := by
  cases r with
  | v d f => exact R.ro h
  | nl ds f => exact R.ro (d := .lst ds) h
  | nd ks ds f => exact R.ro (d := .dic ks ds) h
  | nt ks ds f => exact R.ro (d := .dit ks ds) h
  | m i =>
    obtain ⟨e, s, es, ns⟩ := h
    have eo : ob ρ (.m i) = obS s := by show obS (ρ.getD i .no) = _; rw [List.getD_eq_getElem?_getD, es]; rfl
    rw [eo]
    have q := k.sl i s es
    cases s with
    | no => exact absurd rfl ns
    | val d f =>
      obtain ⟨w, e1, e2⟩ := q
      rw [e] at e1; cases e1
      exact R.ro (R.mono Keep.refl (fun _ _ g => g.fr) e2)
    | ml ds f =>
      obtain ⟨p, vs, e1, e2, e3, _⟩ := q
      rw [e] at e1; cases e1
      exact ⟨p, vs, rfl, e2, Rs.mono Keep.refl (fun _ _ g => g.fr) e3⟩
    | mp n ds =>
      obtain ⟨p, vs, e1, e2, e3, _⟩ := q
      rw [e] at e1; cases e1
      exact ⟨p, vs, rfl, e2, Rs.mono Keep.refl (fun _ _ g => g.elim) e3⟩
    | md ks ds f =>
      obtain ⟨p, vs, e1, e2, l, e3, _⟩ := q
      rw [e] at e1; cases e1
      exact ⟨p, vs, rfl, e2, l, Rs.mono Keep.refl (fun _ _ g => g.fr) e3⟩
    | mt ks ds f =>
      obtain ⟨p, vs, e1, e2, l, e3, _⟩ := q
      rw [e] at e1; cases e1
      exact ⟨p, vs, rfl, e2, l, Rs.mono Keep.refl (fun _ _ g => g.fr) e3⟩
end

/-! ### the judgements -/
abbrev TD := En → (Rv → En → Prop) → Prop
abbrev TB := En → (Bool → En → Prop) → Prop
abbrev TL := En → (List Rv → En → Prop) → Prop
def Ev1 (K : PySem.W.Frag) (te : TE) (t : TD) : Prop := ∀ (B : Bx) (σ : L2.St) (H : Hp) (ρ : En) (Q : Rv → En → Prop) (Q' : VK), Ok K B H σ ρ → t ρ Q →
  (∀ v H' r ρ', Ok K B H' σ ρ' → Stp σ H ρ H' ρ' → Kn ρ ρ' → RelR K B H H' σ ρ' v r → Q r ρ' → Q' v H') → te σ H Q'
def EvT (K : PySem.W.Frag) (te : TT) (t : TB) : Prop := ∀ (B : Bx) (σ : L2.St) (H : Hp) (ρ : En) (Q : Bool → En → Prop) (Q' : Bool → Hp → Prop), Ok K B H σ ρ → t ρ Q →
  (∀ b H' ρ', Ok K B H' σ ρ' → Stp σ H ρ H' ρ' → Kn ρ ρ' → Q b ρ' → Q' b H') → te σ H Q'
/-- the values, each as it is carried to the end -/
inductive RgL (K : PySem.W.Frag) (B : Bx) (Hs H : Hp) (σ : L2.St) (ρ : En) : List V → List Rv → Prop
  | nil : RgL K B Hs H σ ρ [] []
  | cons {v : V} {vs : List V} {r : Rv} {rs : List Rv} : Rg K B Hs H σ ρ v r → RgL K B Hs H σ ρ vs rs → RgL K B Hs H σ ρ (v :: vs) (r :: rs)
def EvL (K : PySem.W.Frag) (ta : TA) (t : TL) : Prop := ∀ (B : Bx) (σ : L2.St) (H : Hp) (ρ : En) (Q : List Rv → En → Prop) (Q' : List V → Hp → Prop), Ok K B H σ ρ → t ρ Q →
  (∀ vs H' rs ρ', Ok K B H' σ ρ' → Stp σ H ρ H' ρ' → Kn ρ ρ' → RgL K B H H' σ ρ' vs rs → Q rs ρ' → Q' vs H') → ta σ H Q'
def DE (X : Cx) (e : Expr) (t : TD) : Prop := ∃ te, PE X e te ∧ Ev1 X.K te t
def DT (X : Cx) (e : Expr) (t : TB) : Prop := ∃ te, PT X e te ∧ EvT X.K te t
def DW (X : Cx) (e : Expr) (t : TB) : Prop := ∃ te, PW X e te ∧ EvT X.K te t
def DA (X : Cx) (es : List Expr) (t : TL) : Prop := ∃ te, PA X es te ∧ EvL X.K te t

section
variable {K : PySem.W.Frag} {B : Bx} {H H' H1 Hs : Hp} {σ : L2.St} {ρ ρ' ρ1 : En} {v : V} {r : Rv}
theorem Kn.refl : Kn ρ ρ := fun _ h => h
theorem Kn.trans {ρ2 : En} (a : Kn ρ ρ1) (b : Kn ρ1 ρ2) : Kn ρ ρ2 := fun i h => b i (a i h)
/-- new ahead of H is new ahead of Hs -/
theorem GF.base {M : Addr → Prop} {f : Fr} {a : Addr} (hd : ∀ a, Hs a ≠ none → H a ≠ none) (h : GF B M H f a) : GF B M Hs f a := ⟨h.1, h.2.1, h.2.2.1, fun z => by
  cases q : Hs a with
  | none => rfl
  | some o => exact absurd (h.2.2.2 z) (hd a (by rw [q]; exact Option.some_ne_none _))⟩
theorem none_back (hd : ∀ a, Hs a ≠ none → H a ≠ none) {p : Addr} (h : H p = none) : Hs p = none := by
  cases q : Hs p with
  | none => rfl
  | some o => exact absurd h (hd p (by rw [q]; exact Option.some_ne_none _))
theorem RelR.base (hd : ∀ a, Hs a ≠ none → H a ≠ none) (h : RelR K B H H' σ ρ v r) : RelR K B Hs H' σ ρ v r := by
  cases r with
  | v d f => exact R.mono Keep.refl (fun _ _ g => g.base hd) h
  | nl ds f => obtain ⟨p, vs, e, e1, e2, e3, e4, e5, e6⟩ := h; exact ⟨p, vs, e, e1, none_back hd e2, e3, e4, e5, e6.mono Keep.refl fun _ _ g => g.base hd⟩
  | nd ks ds f => obtain ⟨p, vs, e, e1, l, e2, e3, e4, e5, e6⟩ := h; exact ⟨p, vs, e, e1, l, none_back hd e2, e3, e4, e5, e6.mono Keep.refl fun _ _ g => g.base hd⟩
  | nt ks ds f => obtain ⟨p, vs, e, e1, l, e2, e3, e4, e5, e6⟩ := h; exact ⟨p, vs, e, e1, l, none_back hd e2, e3, e4, e5, e6.mono Keep.refl fun _ _ g => g.base hd⟩
  | m i => exact h
theorem Rg.base (hd : ∀ a, Hs a ≠ none → H a ≠ none) (h : Rg K B H H' σ ρ v r) : Rg K B Hs H' σ ρ v r := by
  cases r with
  | m i => exact h
  | _ => exact R.mono Keep.refl (fun _ _ g => g.base hd) h
theorem RgL.base (hd : ∀ a, Hs a ≠ none → H a ≠ none) : ∀ {vs : List V} {rs : List Rv}, RgL K B H H' σ ρ vs rs → RgL K B Hs H' σ ρ vs rs
  | _, _, .nil => .nil
  | _, _, .cons h t => .cons (h.base hd) (RgL.base hd t)
theorem Ok.hd (k : Ok K B H σ ρ) : ∀ a, B.H0 a ≠ none → H a ≠ none := k.dom

/-- a new list -/
theorem new_nl {f : Fr} {ds : List D} {vs : List V} {p : Addr} (k : Ok K B H σ ρ) (hd : ∀ a, Hs a ≠ none → H a ≠ none) (hp : H p = none) (h : Rs K (GF B (mset σ ρ) Hs f) H ds vs) :
    Ok K B (upd H p (.lst vs)) σ ρ ∧ RelR K B Hs (upd H p (.lst vs)) σ ρ (.ref p) (.nl ds f) := by
  refine ⟨k.all (All.new hp), p, vs, rfl, upd_same, none_back hd hp, fun z => k.mdom z hp, fun z => k.av p z hp, k.clear hp, ?_⟩
  refine Rs.mono (All.new hp).keep (fun a ha g => ?_) h
  exact ⟨g.1, fun z => (List.mem_cons.mp z).elim (fun z => ha (z ▸ hp)) g.2.1, g.2.2⟩
theorem new_nd {f : Fr} {ks : List Key} {ds : List D} {vs : List V} {p : Addr} (k : Ok K B H σ ρ) (hd : ∀ a, Hs a ≠ none → H a ≠ none) (hp : H p = none) (hl : ks.length = vs.length) (h : Rs K (GF B (mset σ ρ) Hs f) H ds vs) :
    Ok K B (upd H p (.dK (ks.zip vs))) σ ρ ∧ RelR K B Hs (upd H p (.dK (ks.zip vs))) σ ρ (.ref p) (.nd ks ds f) := by
  refine ⟨k.all (All.new hp), p, vs, rfl, upd_same, hl, none_back hd hp, fun z => k.mdom z hp, fun z => k.av p z hp, k.clear hp, ?_⟩
  refine Rs.mono (All.new hp).keep (fun a ha g => ?_) h
  exact ⟨g.1, fun z => (List.mem_cons.mp z).elim (fun z => ha (z ▸ hp)) g.2.1, g.2.2⟩
theorem new_nt {f : Fr} {ks : List (List Key)} {ds : List D} {vs : List V} {p : Addr} (k : Ok K B H σ ρ) (hd : ∀ a, Hs a ≠ none → H a ≠ none) (hp : H p = none) (hl : ks.length = vs.length) (h : Rs K (GF B (mset σ ρ) Hs f) H ds vs) :
    Ok K B (upd H p (.dT (ks.zip vs))) σ ρ ∧ RelR K B Hs (upd H p (.dT (ks.zip vs))) σ ρ (.ref p) (.nt ks ds f) := by
  refine ⟨k.all (All.new hp), p, vs, rfl, upd_same, hl, none_back hd hp, fun z => k.mdom z hp, fun z => k.av p z hp, k.clear hp, ?_⟩
  refine Rs.mono (All.new hp).keep (fun a ha g => ?_) h
  exact ⟨g.1, fun z => (List.mem_cons.mp z).elim (fun z => ha (z ▸ hp)) g.2.1, g.2.2⟩
/-- a new tuple -/
theorem new_tup {f : Fr} {ds : List D} {vs : List V} {p : Addr} (k : Ok K B H σ ρ) (hp : H p = none) (h : Rs K (GF B (mset σ ρ) Hs f) H ds vs) :
    Ok K B (upd H p (.tup vs)) σ ρ ∧ RelR K B Hs (upd H p (.tup vs)) σ ρ (.ref p) (.v (.tup ds) f) := by
  refine ⟨k.all (All.new hp), ?_⟩
  show R K _ _ (.tup ds) (.ref p)
  unfold R
  exact ⟨p, vs, rfl, SqT.of upd_same, h.all (All.new hp)⟩
end
end DL

namespace DL
open PySem L2

/-! ### names, constants -/
def dVar (i : Nat) : TD := fun ρ Q => match ρ.getD i .no with
  | .no => False
  | .val d f => Q (.v d (if f = .o then .o else .h)) ρ
  | _ => Q (.m i) ρ
/-- a name whose list is stored elsewhere or handed back: it may no longer be changed -/
def dVarF (i : Nat) : TD := fun ρ Q => match ρ.getD i .no with
  | .no => False
  | .val d f => Q (.v d (if f = .o then .o else .h)) ρ
  | .ml ds f => Q (.v (.lst ds) (if f = .o then .o else .h)) (ρ.set i (.val (.lst ds) f))
  | .md ks ds f => Q (.v (.dic ks ds) (if f = .o then .o else .h)) (ρ.set i (.val (.dic ks ds) f))
  | .mt ks ds f => Q (.v (.dit ks ds) (if f = .o then .o else .h)) (ρ.set i (.val (.dit ks ds) f))
  | .mp _ _ => False
def dC (d : D) : TD := fun ρ Q => Q (.v d .n) ρ

section
variable {K : PySem.W.Frag} {B : Bx} {H H' Hs : Hp} {σ : L2.St} {ρ ρ' : En} {v : V} {r : Rv}
theorem getD_some {i : Nat} {s : Sl} (h : ρ.getD i .no = s) (n : s ≠ .no) : ρ[i]? = some s := by
  rw [List.getD_eq_getElem?_getD] at h
  cases e : ρ[i]? with
  | none => rw [e] at h; exact absurd h.symm n
  | some t => rw [e] at h; exact congrArg some h
theorem ev_var (i : Nat) : Ev1 K (tVar i) (dVar i) := by
  intro B σ H ρ Q Q' k h fin
  unfold dVar at h
  have go : ∀ {s : Sl}, ρ[i]? = some s → s ≠ .no → (∃ v, σ[i]? = some (some v)) := fun {s} e n => by
    have q := k.sl i s e
    cases s with
    | no => exact absurd rfl n
    | val d f => obtain ⟨v, e, _⟩ := q; exact ⟨v, e⟩
    | ml ds f => obtain ⟨v, _, e, _⟩ := q; exact ⟨_, e⟩
    | mp n ds => obtain ⟨v, _, e, _⟩ := q; exact ⟨_, e⟩
    | md ks ds f => obtain ⟨v, _, e, _⟩ := q; exact ⟨_, e⟩
    | mt ks ds f => obtain ⟨v, _, e, _⟩ := q; exact ⟨_, e⟩
  have mm : ∀ {s : Sl}, ρ.getD i .no = s → s ≠ .no → Q (.m i) ρ → tVar i σ H Q' := fun {s} e n q => by
    obtain ⟨v, ev⟩ := go (getD_some e n) n
    exact ⟨v, ev, fin v H (.m i) ρ k Stp.refl Kn.refl ⟨ev, s, getD_some e n, n⟩ q⟩
  cases e : ρ.getD i .no with
  | no => rw [e] at h; exact h.elim
  | val d f =>
    rw [e] at h
    have e' := getD_some e (by simp)
    obtain ⟨v, ev, rv⟩ := k.sl i _ e'
    exact ⟨v, ev, fin v H (.v d _) ρ k Stp.refl Kn.refl (R.mono Keep.refl (fun _ _ g => g.fr) rv) h⟩
  | ml ds f => rw [e] at h; exact mm e (by simp) h
  | mp n ds => rw [e] at h; exact mm e (by simp) h
  | md ks ds f => rw [e] at h; exact mm e (by simp) h
  | mt ks ds f => rw [e] at h; exact mm e (by simp) h

/-- a changed slot: what it is now; the lists that may be changed are among those before -/
theorem Ok.slot {i : Nat} {s : Sl} (k : Ok K B H σ ρ) (hi : i < ρ.length) (sub : ∀ a, mset σ (ρ.set i s) a → mset σ ρ a) (hs : SlOk K B H σ (mset σ (ρ.set i s)) i s)
    (hn : s.isM = true → ∃ t : Sl, ρ[i]? = some t ∧ t.isM = true) : Ok K B H σ (ρ.set i s) := by
  have g : ∀ {f : Fr} (a : Addr), H a ≠ none → GF B (mset σ ρ) B.H0 f a → GF B (mset σ (ρ.set i s)) B.H0 f a := fun {f} a _ q => ⟨fun z => q.1 (sub a z), q.2⟩
  refine ⟨by rw [List.length_set]; exact k.len, k.dom, k.av, k.ext, fun j t e => ?_, fun j1 j2 s1 s2 a e1 m1 e2 m2 z1 z2 => ?_⟩
  · by_cases hj : i = j
    · subst hj
      rw [List.getElem?_set_self hi] at e
      cases e
      exact hs
    · rw [List.getElem?_set_ne hj] at e
      have q := k.sl j t e
      cases t with
      | no => exact True.intro
      | val d f => obtain ⟨v, e1, e2⟩ := q; exact ⟨v, e1, e2.mono Keep.refl g⟩
      | ml ds f => obtain ⟨p, vs, e1, e2, e3, e4⟩ := q; exact ⟨p, vs, e1, e2, e3.mono Keep.refl g, e4⟩
      | mp n ds => exact q
      | md ks ds f => obtain ⟨p, vs, e1, e2, e0, e3, e4⟩ := q; exact ⟨p, vs, e1, e2, e0, e3.mono Keep.refl g, e4⟩
      | mt ks ds f => obtain ⟨p, vs, e1, e2, e0, e3, e4⟩ := q; exact ⟨p, vs, e1, e2, e0, e3.mono Keep.refl g, e4⟩
  · have f : ∀ {j : Nat} {t : Sl}, (ρ.set i s)[j]? = some t → t.isM = true → ∃ u : Sl, ρ[j]? = some u ∧ u.isM = true := fun {j t} e m => by
      by_cases hj : i = j
      · subst hj
        rw [List.getElem?_set_self hi] at e
        cases e
        exact hn m
      · rw [List.getElem?_set_ne hj] at e
        exact ⟨t, e, m⟩
    obtain ⟨u1, q1, w1⟩ := f e1 m1
    obtain ⟨u2, q2, w2⟩ := f e2 m2
    exact k.inj j1 j2 u1 u2 a q1 w1 q2 w2 z1 z2
/-- the list of a slot is no longer to be changed -/
theorem Ok.frz {i : Nat} {d : D} {f : Fr} {t : Sl} {p : Addr} (k : Ok K B H σ ρ) (e : ρ[i]? = some t) (m : t.isM = true) (ep : σ[i]? = some (some (.ref p)))
    (h : R K (GF B (fun a => mset σ ρ a ∧ a ≠ p) B.H0 f) H d (.ref p)) : Ok K B H σ (ρ.set i (.val d f)) ∧ Stp σ H ρ H (ρ.set i (.val d f)) ∧ Kn ρ (ρ.set i (.val d f)) ∧ R K (GF B (mset σ (ρ.set i (.val d f))) B.H0 f) H d (.ref p) := by
  have hi : i < ρ.length := (List.getElem?_eq_some_iff.mp e).1
  have sub : ∀ a, mset σ (ρ.set i (.val d f)) a → mset σ ρ a ∧ a ≠ p := fun a ⟨j, s, ej, mj, z⟩ => by
    by_cases hj : i = j
    · subst hj
      rw [List.getElem?_set_self hi] at ej
      cases ej; cases mj
    · rw [List.getElem?_set_ne hj] at ej
      refine ⟨⟨j, s, ej, mj, z⟩, fun z' => ?_⟩
      subst z'
      exact hj (k.inj i j t s a e m ej mj ep z)
  have rr : R K (GF B (mset σ (ρ.set i (.val d f))) B.H0 f) H d (.ref p) := R.mono Keep.refl (fun a _ g => ⟨fun z => g.1 (sub a z), g.2⟩) h
  refine ⟨k.slot hi (fun a z => (sub a z).1) ⟨.ref p, ep, rr⟩ (fun z => nomatch z), ⟨Keep.refl, fun _ h => h, fun a z => (sub a z).1⟩, fun j ⟨s, ej, ns⟩ => ?_, rr⟩
  by_cases hj : i = j
  · subst hj
    exact ⟨_, List.getElem?_set_self hi, by simp⟩
  · exact ⟨s, by rw [List.getElem?_set_ne hj]; exact ej, ns⟩
theorem GF.minus {M : Addr → Prop} {f : Fr} {p a : Addr} (h : GF B M Hs f a) : GF B (fun a => M a ∧ a ≠ p) Hs f a := ⟨fun z => h.1 z.1, h.2⟩
theorem ev_varF (i : Nat) : Ev1 K (tVar i) (dVarF i) := by
  intro B σ H ρ Q Q' k h fin
  unfold dVarF at h
  have gp : ∀ {f : Fr} {p : Addr}, B.H0 p = none → p ∉ B.Av → GF B (fun a => mset σ ρ a ∧ a ≠ p) B.H0 f p := fun h0 av => ⟨fun z => z.2 rfl, av, fun _ => h0, fun _ => h0⟩
  cases e : ρ.getD i .no with
  | no => rw [e] at h; exact h.elim
  | val d f =>
    rw [e] at h
    have e' := getD_some e (by simp)
    obtain ⟨v, ev, rv⟩ := k.sl i _ e'
    exact ⟨v, ev, fin v H (.v d _) ρ k Stp.refl Kn.refl (R.mono Keep.refl (fun _ _ g => g.fr) rv) h⟩
  | ml ds f =>
    rw [e] at h
    have e' := getD_some e (by simp)
    obtain ⟨p, vs, ep, hp, rs, h0, av⟩ := k.sl i _ e'
    have rr : R K (GF B (fun a => mset σ ρ a ∧ a ≠ p) B.H0 f) H (.lst ds) (.ref p) := by unfold R; exact ⟨p, vs, rfl, hp, gp h0 av, rs.mono Keep.refl fun _ _ g => g.minus⟩
    obtain ⟨k2, st, kn, r2⟩ := k.frz e' rfl ep rr
    exact ⟨_, ep, fin _ H (.v (.lst ds) _) _ k2 st kn (R.mono Keep.refl (fun _ _ g => g.fr) r2) h⟩
  | mp n ds => rw [e] at h; exact h.elim
  | md ks ds f =>
    rw [e] at h
    have e' := getD_some e (by simp)
    obtain ⟨p, vs, ep, hp, l, rs, h0, av⟩ := k.sl i _ e'
    have rr : R K (GF B (fun a => mset σ ρ a ∧ a ≠ p) B.H0 f) H (.dic ks ds) (.ref p) := by unfold R; exact ⟨p, vs, rfl, hp, l, gp h0 av, rs.mono Keep.refl fun _ _ g => g.minus⟩
    obtain ⟨k2, st, kn, r2⟩ := k.frz e' rfl ep rr
    exact ⟨_, ep, fin _ H (.v (.dic ks ds) _) _ k2 st kn (R.mono Keep.refl (fun _ _ g => g.fr) r2) h⟩
  | mt ks ds f =>
    rw [e] at h
    have e' := getD_some e (by simp)
    obtain ⟨p, vs, ep, hp, l, rs, h0, av⟩ := k.sl i _ e'
    have rr : R K (GF B (fun a => mset σ ρ a ∧ a ≠ p) B.H0 f) H (.dit ks ds) (.ref p) := by unfold R; exact ⟨p, vs, rfl, hp, l, gp h0 av, rs.mono Keep.refl fun _ _ g => g.minus⟩
    obtain ⟨k2, st, kn, r2⟩ := k.frz e' rfl ep rr
    exact ⟨_, ep, fin _ H (.v (.dit ks ds) _) _ k2 st kn (R.mono Keep.refl (fun _ _ g => g.fr) r2) h⟩
theorem ev_c {v : V} {d : D} (h : ∀ G H, R K G H d v) : Ev1 K (tC v) (dC d) := fun B σ H ρ Q Q' k q fin => fin v H (.v d .n) ρ k Stp.refl Kn.refl (h _ _) q
end

/-! ### operators on what is seen -/
abbrev Op2 := Ob → Ob → (Rv → Prop) → Prop
def OpS (K : PySem.W.Frag) (r : R2) (p : Op2) : Prop :=
  ∀ (B : Bx) (σ : L2.St) (Hs H : Hp) (ρ : En) (x y : V) (a b : Ob) (k : Rv → Prop) (Q' : VK), Ok K B H σ ρ → (∀ a, Hs a ≠ none → H a ≠ none) →
    RO K (GF B (mset σ ρ) Hs a.f) H a.d x → RO K (GF B (mset σ ρ) Hs b.f) H b.d y → p a b k →
    (∀ v H' rr, Ok K B H' σ ρ → Stp σ H ρ H' ρ → RelR K B Hs H' σ ρ v rr → k rr → Q' v H') → r x y H Q'
def dOp (p : Op2) (da db : TD) : TD := fun ρ Q => da ρ fun r1 ρ1 => db ρ1 fun r2 ρ2 => p (ob ρ2 r1) (ob ρ2 r2) fun r => Q r ρ2
theorem ev_op {K : PySem.W.Frag} {r : R2} {p : Op2} {ta tb : TE} {da db : TD} (hp : OpS K r p) (ha : Ev1 K ta da) (hb : Ev1 K tb db) : Ev1 K (tOp r ta tb) (dOp p da db) :=
  fun B σ H ρ Q Q' k h fin => ha B σ H ρ _ _ k h fun x H1 r1 ρ1 k1 s1 n1 e1 h1 => hb B σ H1 ρ1 _ _ k1 h1 fun y H2 r2 ρ2 k2 s2 n2 e2 h2 =>
    hp B σ H H2 ρ2 x y _ _ _ _ k2 (s1.trans s2).dom (Rg.ro k2 ((e1.rg k.dom).go s2 n2)) (Rg.ro k2 ((e2.base s1.dom).rg k.dom)) h2
      fun v H3 rr k3 s3 e3 q => fin v H3 rr ρ2 k3 ((s1.trans s2).trans s3) (n1.trans n2) e3 q

def fmin : Fr → Fr → Fr
  | .o, _ => .o
  | _, .o => .o
  | .h, _ => .h
  | _, .h => .h
  | .n, .n => .n
theorem GF.minL {B : Bx} {M : Addr → Prop} {Hs : Hp} {f g : Fr} {a : Addr} (h : GF B M Hs f a) : GF B M Hs (fmin f g) a := by
  refine ⟨h.1, h.2.1, fun z => h.2.2.1 fun e => ?_, fun z => h.2.2.2 ?_⟩
  · subst e; exact z rfl
  · cases f <;> cases g <;> first | rfl | cases z
theorem GF.minR {B : Bx} {M : Addr → Prop} {Hs : Hp} {f g : Fr} {a : Addr} (h : GF B M Hs g a) : GF B M Hs (fmin f g) a := by
  refine ⟨h.1, h.2.1, fun z => h.2.2.1 fun e => ?_, fun z => h.2.2.2 ?_⟩
  · subst e; cases f <;> exact z rfl
  · cases f <;> cases g <;> first | rfl | cases z

section
variable {K : PySem.W.Frag} {B : Bx} {H H' Hs : Hp} {σ : L2.St} {ρ ρ' : En} {v : V} {r : Rv} {G : Addr → Prop}
/-- an answer that makes nothing -/
theorem fin_at {d : D} {Q' : VK} {k : Rv → Prop} (ok : Ok K B H σ ρ) (fin : ∀ v H' rr, Ok K B H' σ ρ → Stp σ H ρ H' ρ → RelR K B Hs H' σ ρ v rr → k rr → Q' v H')
    (h : ∀ G, R K G H d v) (q : k (.v d .n)) : Q' v H := fin v H (.v d .n) ok Stp.refl (h _) q
theorem RO.int {i : Int} (h : RO K G H (.int i) v) : v = .int i := by unfold RO R at h; exact h
theorem RO.str {i : Str} (h : RO K G H (.str i) v) : v = .str i := by unfold RO R at h; exact h
theorem RO.bl {i : Bool} (h : RO K G H (.bl i) v) : v = .bl i := by unfold RO R at h; exact h
theorem RO.non (h : RO K G H .non v) : v = .non := by unfold RO R at h; exact h
theorem RO.tup {ds : List D} (h : RO K G H (.tup ds) v) : ∃ a vs, v = .ref a ∧ SqT K H a vs ∧ Rs K G H ds vs := by unfold RO R at h; exact h
theorem RO.fz {ds : List D} (h : RO K G H (.fz ds) v) : ∃ a vs, v = .ref a ∧ NM K H a vs ∧ Rs K G H ds vs := by unfold RO R at h; exact h
theorem R.i {i : Int} : R K G H (.int i) (.int i) := by unfold R; rfl
theorem R.s {i : Str} : R K G H (.str i) (.str i) := by unfold R; rfl
theorem R.b {i : Bool} : R K G H (.bl i) (.bl i) := by unfold R; rfl
theorem R.n : R K G H .non .non := by unfold R; rfl
end

/-- ints in, under C, an atom out -/
def pI (C : Int → Int → Prop) (g : Int → Int → D) : Op2 := fun a b k => match a.d, b.d with
  | .int i, .int j => C i j ∧ k (.v (g i j) .n)
  | _, _ => False
theorem ops_I {K : PySem.W.Frag} {C : Int → Int → Prop} {g : Int → Int → Int} : OpS K (rI C fun i j => .int (g i j)) (pI C fun i j => .int (g i j)) := by
  intro B σ Hs H ρ x y a b k Q' ok hd ra rb h fin
  obtain ⟨d, f⟩ := a
  obtain ⟨e, f2⟩ := b
  unfold pI at h
  cases d <;> try exact h.elim
  cases e <;> try exact h.elim
  rename_i i j
  obtain rfl := ra.int
  obtain rfl := rb.int
  exact ⟨i, j, rfl, rfl, h.1, fin_at ok fin (fun _ => R.i) h.2⟩
theorem ops_IB {K : PySem.W.Frag} {g : Int → Int → Bool} : OpS K (rI0 fun i j => .bl (g i j)) (pI (fun _ _ => True) fun i j => .bl (g i j)) := by
  intro B σ Hs H ρ x y a b k Q' ok hd ra rb h fin
  obtain ⟨d, f⟩ := a
  obtain ⟨e, f2⟩ := b
  unfold pI at h
  cases d <;> try exact h.elim
  cases e <;> try exact h.elim
  rename_i i j
  obtain rfl := ra.int
  obtain rfl := rb.int
  exact ⟨i, j, rfl, rfl, fin_at ok fin (fun _ => R.b) h.2⟩
theorem ops_I0 {K : PySem.W.Frag} {g : Int → Int → Int} : OpS K (rI0 fun i j => .int (g i j)) (pI (fun _ _ => True) fun i j => .int (g i j)) := by
  intro B σ Hs H ρ x y a b k Q' ok hd ra rb h fin
  obtain ⟨d, f⟩ := a
  obtain ⟨e, f2⟩ := b
  unfold pI at h
  cases d <;> try exact h.elim
  cases e <;> try exact h.elim
  rename_i i j
  obtain rfl := ra.int
  obtain rfl := rb.int
  exact ⟨i, j, rfl, rfl, fin_at ok fin (fun _ => R.i) h.2⟩

/-- + -/
def pAdd : Op2 := fun a b k => match a.d, b.d with
  | .int i, .int j => k (.v (.int (i + j)) .n)
  | .str s, .str t => s.length + t.length ≤ sizeLine ∧ k (.v (.str (s ++ t)) .n)
  | .lst xs, .lst ys => xs.length + ys.length ≤ sizeLine ∧ k (.nl (xs ++ ys) (fmin a.f b.f))
  | .tup xs, .tup ys => xs ≠ [] ∧ xs.length + ys.length ≤ sizeLine ∧ k (.v (.tup (xs ++ ys)) (fmin a.f b.f))
  | _, _ => False
def rAdd4 (K : PySem.W.Frag) : R2 := fun x y H Q => (rI0 (fun i j => .int (i + j)) x y H Q) ∨ ((∃ i j, x = .str i ∧ y = .str j ∧ i.length + j.length ≤ sizeLine ∧ Q (.str (i ++ j)) H) ∨ (rCat x y H Q ∨ rCatT K x y H Q))
theorem op_add4 {X : Cx} : OpR X (binaryOp .Add) (rAdd4 X.K) := op_add.or (op_add_str.or (op_cat.or op_catT))
theorem ops_add {K : PySem.W.Frag} : OpS K (rAdd4 K) pAdd := by
  intro B σ Hs H ρ x y a b k Q' ok hd ra rb h fin
  obtain ⟨d, f⟩ := a
  obtain ⟨e, f2⟩ := b
  unfold pAdd at h
  cases d <;> try exact h.elim
  · cases e <;> try exact h.elim
    rename_i i j
    obtain rfl := ra.int
    obtain rfl := rb.int
    exact .inl ⟨i, j, rfl, rfl, fin_at ok fin (fun _ => R.i) h⟩
  · cases e <;> try exact h.elim
    rename_i i j
    obtain rfl := ra.str
    obtain rfl := rb.str
    exact .inr (.inl ⟨i, j, rfl, rfl, h.1, fin_at ok fin (fun _ => R.s) h.2⟩)
  · cases e <;> try exact h.elim
    rename_i xs ys
    obtain ⟨p, vs, rfl, hp, rp⟩ := ra.tup
    obtain ⟨q, ws, rfl, hq, rq⟩ := rb.tup
    obtain ⟨hn, hl, h⟩ := h
    have rr : Rs K (GF B (mset σ ρ) Hs (fmin f f2)) H (xs ++ ys) (vs ++ ws) := (rp.mono Keep.refl fun _ _ g => g.minL).append (rq.mono Keep.refl fun _ _ g => g.minR)
    refine .inr (.inr (.inr ⟨p, q, vs, ws, rfl, rfl, hp, hq, fun z => hn ?_, by rw [← rp.len, ← rq.len]; exact hl, fun z => ?_, fun z u hu => ?_⟩))
    · exact List.length_eq_zero_iff.mp (by rw [rp.len, z]; rfl)
    · have ey : ys = [] := List.length_eq_zero_iff.mp (by rw [rq.len, z]; rfl)
      subst ey
      subst z
      rw [List.append_nil] at h rr
      rw [List.append_nil] at rr
      exact fin _ H (.v (.tup xs) _) ok Stp.refl (show R K _ H (.tup xs) (.ref p) by unfold R; exact ⟨p, vs, rfl, hp, rr⟩) h
    · obtain ⟨o1, o2⟩ := new_tup (Hs := Hs) ok hu rr
      exact fin _ _ _ o1 (All.new hu).step o2 h
  · cases e <;> try exact h.elim
    rename_i xs ys
    obtain ⟨p, vs, rfl, hp, rp⟩ := ra
    obtain ⟨q, ws, rfl, hq, rq⟩ := rb
    obtain ⟨hl, h⟩ := h
    have rr : Rs K (GF B (mset σ ρ) Hs (fmin f f2)) H (xs ++ ys) (vs ++ ws) := (rp.mono Keep.refl fun _ _ g => g.minL).append (rq.mono Keep.refl fun _ _ g => g.minR)
    refine .inr (.inr (.inl ⟨p, q, vs, ws, rfl, rfl, hp, hq, by rw [← rp.len, ← rq.len]; exact hl, fun u hu => ?_⟩))
    obtain ⟨o1, o2⟩ := new_nl ok hd hu rr
    exact fin _ _ _ o1 (All.new hu).step o2 h

/-- * -/
def strRep (x : Str) (n : Int) : Str := if n < 1 then Str.empty else if (n == 1 || x.length == 0) = true then x else ⟨(List.replicate n.toNat x.cps).foldl (· ++ ·) #[]⟩
def pMul : Op2 := fun a b k => match a.d, b.d with
  | .int i, .int j => IntMulOk i j ∧ k (.v (.int (i * j)) .n)
  | .str s, .int n => -1000000 < n ∧ n < 1000000 ∧ (s.length : Int) * n ≤ 1000000 ∧ k (.v (.str (strRep s n)) .n)
  | .lst xs, .int n => -1000000 < n ∧ n < 1000000 ∧ xs.length * n.toNat ≤ 1000000 ∧ k (.nl (List.replicate n.toNat xs).flatten a.f)
  | _, _ => False
theorem op_mulG {X : Cx} : OpR X (binaryOp .Mult) (rI IntMulOk fun i j => .int (i * j)) := opI fun _ _ _ _ _ _ _ hc q => PyProof.Rows.mul_int q hc
theorem foldl_size (xs : Array Nat) : ∀ (k : Nat) (acc : Array Nat), ((List.replicate k xs).foldl (· ++ ·) acc).size = acc.size + k * xs.size
  | 0, acc => by simp
  | k + 1, acc => by
    rw [List.replicate_succ, List.foldl_cons, foldl_size xs k, Array.size_append, Nat.succ_mul]
    omega
def rRepS : R2 := fun x y H Q => ∃ s n, x = .str s ∧ y = .int n ∧ (-1000000 < n ∧ n < 1000000 ∧ (s.length : Int) * n ≤ 1000000) ∧ Q (.str (strRep s n)) H
theorem op_repS {X : Cx} : OpR X (binaryOp .Mult) rRepS := by
  intro pins s σ H x y v u Q I rx ry h
  obtain ⟨z, n, rfl, rfl, ⟨h1, h2, h3⟩, q⟩ := h
  obtain ⟨t, rfl⟩ := rx
  obtain ⟨t', rfl⟩ := ry
  have hz : sizeLine = 16777216 := sizeLine_eq
  refine PySem.P.mul_str ?_ ?_ ?_ ?_
  · have e1 : ¬ n < -(2 ^ 63 : Int) := by omega
    have e2 : ¬ n ≥ 2 ^ 63 := by omega
    rw [decide_eq_false e1, decide_eq_false e2]; rfl
  · intro a b c
    have hn : 1 ≤ n := by omega
    have h4 : (z.length : Int) ≤ 1000000 := by
      have e : ((z.length * n.toNat : Nat) : Int) = (z.length : Int) * n := by
        rw [Int.natCast_mul, Int.toNat_of_nonneg (by omega)]
      have e2 : z.length * 1 ≤ z.length * n.toNat := Nat.mul_le_mul_left _ (by omega)
      omega
    have h5 : (1000000 : Int) ≤ (2 ^ 63 - 1) / n := by
      rw [Int.le_ediv_iff_mul_le (by omega)]
      omega
    omega
  · intro a b
    have hn : 1 ≤ n := by omega
    have e : ((z.length * n.toNat : Nat) : Int) = (z.length : Int) * n := by
      rw [Int.natCast_mul, Int.toNat_of_nonneg (by omega)]
    exact notLongL (by omega)
  · by_cases c1 : n < 1
    · rw [if_pos c1]
      refine ⟨by decide, ?_⟩
      exact ⟨.str (strRep z n), H, I.tok _, ⟨_, by unfold strRep; rw [if_pos c1]⟩, q⟩
    · rw [if_neg c1]
      by_cases c2 : (n == 1 || z.length == 0) = true
      · rw [if_pos c2]
        refine ⟨.str (strRep z n), H, I, ⟨_, by unfold strRep; rw [if_neg c1, if_pos c2]⟩, q⟩
      · rw [if_neg c2]
        have e : ((z.length * n.toNat : Nat) : Int) = (z.length : Int) * n := by
          rw [Int.natCast_mul, Int.toNat_of_nonneg (by omega)]
        refine ⟨?_, ⟨.str (strRep z n), H, I.tok _, ⟨_, by unfold strRep; rw [if_neg c1, if_neg c2]⟩, q⟩⟩
        show ((List.replicate n.toNat z.cps).foldl (· ++ ·) #[]).size ≤ sizeLine
        rw [foldl_size]
        have e3 : z.length = z.cps.size := rfl
        rw [Nat.mul_comm, ← e3]
        show 0 + _ ≤ _
        omega
def rMul3 : R2 := fun x y H Q => (rI IntMulOk (fun i j => .int (i * j)) x y H Q) ∨ (rRepS x y H Q ∨ rRep x y H Q)
theorem op_mul3 {X : Cx} : OpR X (binaryOp .Mult) rMul3 := op_mulG.or (op_repS.or op_rep)
theorem ops_mul {K : PySem.W.Frag} : OpS K rMul3 pMul := by
  intro B σ Hs H ρ x y a b k Q' ok hd ra rb h fin
  obtain ⟨d, f⟩ := a
  obtain ⟨e, f2⟩ := b
  have hz : sizeLine = 16777216 := sizeLine_eq
  unfold pMul at h
  cases d <;> try exact h.elim
  · cases e <;> try exact h.elim
    rename_i i j
    obtain rfl := ra.int
    obtain rfl := rb.int
    exact .inl ⟨i, j, rfl, rfl, h.1, fin_at ok fin (fun _ => R.i) h.2⟩
  · cases e <;> try exact h.elim
    rename_i i j
    obtain rfl := ra.str
    obtain rfl := rb.int
    exact .inr (.inl ⟨i, j, rfl, rfl, ⟨h.1, h.2.1, h.2.2.1⟩, fin_at ok fin (fun _ => R.s) h.2.2.2⟩)
  · cases e <;> try exact h.elim
    rename_i xs n
    obtain ⟨p, vs, rfl, hp, rp⟩ := ra
    obtain rfl := rb.int
    obtain ⟨h1, h2, h3, h⟩ := h
    have hl := rp.len
    refine .inr (.inr ⟨p, n, vs, rfl, rfl, hp, by omega, by omega, by rw [← hl]; omega, fun u hu => ?_⟩)
    have rep : ∀ m : Nat, Rs K (GF B (mset σ ρ) Hs f) H (List.replicate m xs).flatten (List.replicate m vs).flatten := fun m => by
      induction m with
      | zero => exact Rs.nil
      | succ m ih => rw [List.replicate_succ, List.replicate_succ, List.flatten_cons, List.flatten_cons]; exact rp.append ih
    obtain ⟨o1, o2⟩ := new_nl ok hd hu (rep n.toNat)
    exact fin _ _ _ o1 (All.new hu).step o2 h

/-! ### rules -/
section
variable {X : Cx} {e a b c : Expr} {pos : Pos} {da db dc : TD}
theorem de_name (i : Nat) {x : Str} {pos : Pos} (hN : X.N[i]? = some x := by rfl) (hv : Vis X.env.scope x := by first | exact Or.inl rfl | exact Or.inr (Or.inl rfl) | exact Or.inr (Or.inr rfl)) (hd : (x == ("__debug__" : Str)) = false := by decide)
    (hcd : (x == ("__classdict__" : Str)) = false := by decide) : DE X (.Name x pos) (dVar i) := ⟨_, pe_var hN hv hd hcd, ev_var i⟩
theorem de_nameF (i : Nat) {x : Str} {pos : Pos} (hN : X.N[i]? = some x := by rfl) (hv : Vis X.env.scope x := by first | exact Or.inl rfl | exact Or.inr (Or.inl rfl) | exact Or.inr (Or.inr rfl)) (hd : (x == ("__debug__" : Str)) = false := by decide)
    (hcd : (x == ("__classdict__" : Str)) = false := by decide) : DE X (.Name x pos) (dVarF i) := ⟨_, pe_var hN hv hd hcd, ev_varF i⟩
theorem de_int {i j pos} : DE X (.Constant (.int i) j pos) (dC (.int i)) := ⟨_, pe_int, ev_c fun _ _ => R.i⟩
theorem de_bl {b j pos} : DE X (.Constant (.bool b) j pos) (dC (.bl b)) := ⟨_, pe_bl, ev_c fun _ _ => R.b⟩
theorem de_non {j pos} : DE X (.Constant .none j pos) (dC .non) := ⟨_, pe_non, ev_c fun _ _ => R.n⟩
theorem de_str {x j pos} : DE X (.Constant (.str x) j pos) (dC (.str x)) := ⟨_, pe_str, ev_c fun _ _ => R.s⟩
theorem de_globI {x : Str} {i : Int} {t : Tok} {pos : Pos} (hm : X.mg x = some (.int i t)) (hg : Gl X x := by rfl) (hd : (x == ("__debug__" : Str)) = false := by decide) : DE X (.Name x pos) (dC (.int i)) :=
  ⟨_, pe_glob (v := .int i) hg hm ⟨t, rfl⟩ hd, ev_c fun _ _ => R.i⟩
theorem de_add (ha : DE X a da) (hb : DE X b db) : DE X (.BinOp a .Add b pos) (dOp pAdd da db) := let ⟨_, p1, e1⟩ := ha; let ⟨_, p2, e2⟩ := hb; ⟨_, pe_op op_add4 p1 p2, ev_op ops_add e1 e2⟩
theorem de_mul (ha : DE X a da) (hb : DE X b db) : DE X (.BinOp a .Mult b pos) (dOp pMul da db) := let ⟨_, p1, e1⟩ := ha; let ⟨_, p2, e2⟩ := hb; ⟨_, pe_op op_mul3 p1 p2, ev_op ops_mul e1 e2⟩
def pSub : Op2 := pI (fun _ _ => True) fun i j => .int (i - j)
theorem de_sub (ha : DE X a da) (hb : DE X b db) : DE X (.BinOp a .Sub b pos) (dOp pSub da db) := let ⟨_, p1, e1⟩ := ha; let ⟨_, p2, e2⟩ := hb; ⟨_, pe_op op_sub p1 p2, ev_op ops_I0 e1 e2⟩
def pMod : Op2 := pI (fun _ j => 0 < j) fun i j => .int (i % j)
theorem de_mod (ha : DE X a da) (hb : DE X b db) : DE X (.BinOp a .Mod b pos) (dOp pMod da db) := let ⟨_, p1, e1⟩ := ha; let ⟨_, p2, e2⟩ := hb; ⟨_, pe_op op_mod p1 p2, ev_op ops_I e1 e2⟩
def pFdiv : Op2 := pI CDiv fun i j => .int (i / j)
theorem de_fdiv (ha : DE X a da) (hb : DE X b db) : DE X (.BinOp a .FloorDiv b pos) (dOp pFdiv da db) := let ⟨_, p1, e1⟩ := ha; let ⟨_, p2, e2⟩ := hb; ⟨_, pe_op op_fdiv p1 p2, ev_op ops_I e1 e2⟩
def pShl : Op2 := pI CShl fun i j => .int (i * 2 ^ j.toNat)
theorem de_shl (ha : DE X a da) (hb : DE X b db) : DE X (.BinOp a .LShift b pos) (dOp pShl da db) := let ⟨_, p1, e1⟩ := ha; let ⟨_, p2, e2⟩ := hb; ⟨_, pe_op op_shlW p1 p2, ev_op ops_I e1 e2⟩
def pShr : Op2 := pI (fun _ j => 0 ≤ j) fun i j => .int (i / 2 ^ j.toNat)
theorem de_shr (ha : DE X a da) (hb : DE X b db) : DE X (.BinOp a .RShift b pos) (dOp pShr da db) := let ⟨_, p1, e1⟩ := ha; let ⟨_, p2, e2⟩ := hb; ⟨_, pe_op op_shr p1 p2, ev_op ops_I e1 e2⟩
def pAnd : Op2 := pI (fun _ _ => True) fun i j => .int (Builtin.bitAnd i j)
theorem de_and (ha : DE X a da) (hb : DE X b db) : DE X (.BinOp a .BitAnd b pos) (dOp pAnd da db) := let ⟨_, p1, e1⟩ := ha; let ⟨_, p2, e2⟩ := hb; ⟨_, pe_op op_and p1 p2, ev_op ops_I0 e1 e2⟩
def pOr : Op2 := pI (fun _ _ => True) fun i j => .int (Builtin.bitOr i j)
theorem de_or (ha : DE X a da) (hb : DE X b db) : DE X (.BinOp a .BitOr b pos) (dOp pOr da db) := let ⟨_, p1, e1⟩ := ha; let ⟨_, p2, e2⟩ := hb; ⟨_, pe_op L2.op_or p1 p2, ev_op ops_I0 e1 e2⟩
def pXor : Op2 := pI (fun _ _ => True) fun i j => .int (Builtin.bitXor i j)
theorem de_xor (ha : DE X a da) (hb : DE X b db) : DE X (.BinOp a .BitXor b pos) (dOp pXor da db) := let ⟨_, p1, e1⟩ := ha; let ⟨_, p2, e2⟩ := hb; ⟨_, pe_op op_xor p1 p2, ev_op ops_I0 e1 e2⟩
end
end DL

namespace DL
open PySem L2

/-! ### == -/
mutual
def toPy : D → PyData
  | .non => .none
  | .bl b => .bool b
  | .int i => .int i
  | .str s => .str s
  | .tup ds => .tuple (toPys ds)
  | .lst ds => .list (toPys ds)
  | .fz ds => .list (toPys ds)
  | .dic _ _ => .dict []
  | .dit _ _ => .dict []
def toPys : List D → List PyData
  | [] => []
  | d :: ds => toPy d :: toPys ds
end
mutual
/-- no dict in it -/
def nod : D → Bool
  | .tup ds => nods ds
  | .lst ds => nods ds
  | .fz ds => nods ds
  | .dic _ _ => false
  | .dit _ _ => false
  | _ => true
def nods : List D → Bool
  | [] => true
  | d :: ds => nod d && nods ds
end
mutual
theorem dp_of {K : PySem.W.Frag} {G : Addr → Prop} {H : Hp} : ∀ {d : D} {v : V}, nod d = true → R K G H d v → Dp K H v (toPy d)
  | .non, _, _, h => by unfold R at h; subst h; exact .non
  | .bl _, _, _, h => by unfold R at h; subst h; exact .bl _
  | .int _, _, _, h => by unfold R at h; subst h; exact .int _
  | .str _, _, _, h => by unfold R at h; subst h; exact .str _
  | .tup _, _, q, h => by
    unfold R at h
    unfold nod at q
    obtain ⟨a, vs, rfl, s, r⟩ := h
    exact .tup s (dps_of q r)
  | .lst _, _, q, h => by
    unfold R at h
    unfold nod at q
    obtain ⟨a, vs, rfl, s, _, r⟩ := h
    exact .lst (SqL.of s) (dps_of q r)
  | .fz _, _, q, h => by
    unfold R at h
    unfold nod at q
    obtain ⟨a, vs, rfl, s, r⟩ := h
    exact .lst s.seq (dps_of q r)
  | .dic _ _, _, q, _ => by unfold nod at q; cases q
  | .dit _ _, _, q, _ => by unfold nod at q; cases q
theorem dps_of {K : PySem.W.Frag} {G : Addr → Prop} {H : Hp} : ∀ {ds : List D} {vs : List V}, nods ds = true → Rs K G H ds vs → DpAll K H vs (toPys ds)
  | [], _, _, h => by unfold Rs at h; subst h; exact .nil
  | _ :: _, _, q, h => by
    unfold Rs at h
    unfold nods at q
    rw [Bool.and_eq_true] at q
    obtain ⟨v, r, rfl, h1, h2⟩ := h
    exact .cons (dp_of q.1 h1) (dps_of q.2 h2)
end
def eqD (d e : D) : Bool := PyData.eqv (toPy d) (toPy e)
/-- what may be compared: no dicts, and texts and depths within the line -/
def cmpOk (d : D) : Bool := nod d && SeqAt.shaped (toPy d)
def both (d e : D) : Bool := match d, e with
  | .str _, .str _ => true
  | d, e => cmpOk d && cmpOk e
theorem eqD_str (s t : Str) : eqD (.str s) (.str t) = decide (s = t) := by unfold eqD toPy PyData.eqv; rw [Bool.eq_iff_iff]; simp
theorem eqD_int (i j : Int) : eqD (.int i) (.int j) = decide (i = j) := by unfold eqD toPy PyData.eqv; rw [Bool.eq_iff_iff]; simp
theorem eqD_bl (i j : Bool) : eqD (.bl i) (.bl j) = decide (i = j) := by unfold eqD toPy PyData.eqv; rw [Bool.eq_iff_iff]; simp
def pEq (neg : Bool) : Op2 := fun a b k => both a.d b.d = true ∧ k (.v (.bl (neg ^^ eqD a.d b.d)) .n)
def rEq2 (K : PySem.W.Frag) : R2 := fun x y H Q => rEq x y H Q ∨ rEqD K x y H Q
def rNe2 (K : PySem.W.Frag) : R2 := fun x y H Q => rNe x y H Q ∨ rNeD K x y H Q
theorem ops_eq {K : PySem.W.Frag} : OpS K (rEq2 K) (pEq false) := by
  intro B σ Hs H ρ x y a b k Q' ok hd ra rb h fin
  obtain ⟨d, f⟩ := a
  obtain ⟨e, f2⟩ := b
  obtain ⟨h1, h⟩ := h
  rw [Bool.false_xor] at h
  by_cases hs : (∃ s t, d = .str s ∧ e = .str t)
  · obtain ⟨s, t, rfl, rfl⟩ := hs
    obtain rfl := ra.str
    obtain rfl := rb.str
    refine .inl ⟨rfl, fin_at ok fin (fun _ => R.b) ?_⟩
    have e : decide (V.str s = V.str t) = eqD (.str s) (.str t) := by rw [eqD_str, Bool.eq_iff_iff]; simp
    rw [e]; exact h
  · have hc : cmpOk d = true ∧ cmpOk e = true := by
      unfold both at h1
      cases d <;> cases e <;> first | exact absurd ⟨_, _, rfl, rfl⟩ hs | (rw [Bool.and_eq_true] at h1; exact h1)
    obtain ⟨c1, c2⟩ := hc
    unfold cmpOk at c1 c2
    rw [Bool.and_eq_true] at c1 c2
    exact .inr ⟨toPy d, toPy e, dp_of c1.1 ra.all, dp_of c2.1 rb.all, c1.2, c2.2, fin_at ok fin (fun _ => R.b) h⟩
theorem ops_ne {K : PySem.W.Frag} : OpS K (rNe2 K) (pEq true) := by
  intro B σ Hs H ρ x y a b k Q' ok hd ra rb h fin
  obtain ⟨d, f⟩ := a
  obtain ⟨e, f2⟩ := b
  obtain ⟨h1, h⟩ := h
  rw [Bool.true_xor] at h
  by_cases hs : (∃ s t, d = .str s ∧ e = .str t)
  · obtain ⟨s, t, rfl, rfl⟩ := hs
    obtain rfl := ra.str
    obtain rfl := rb.str
    refine .inl ⟨rfl, fin_at ok fin (fun _ => R.b) ?_⟩
    have e : decide (V.str s = V.str t) = eqD (.str s) (.str t) := by rw [eqD_str, Bool.eq_iff_iff]; simp
    rw [e]; exact h
  · have hc : cmpOk d = true ∧ cmpOk e = true := by
      unfold both at h1
      cases d <;> cases e <;> first | exact absurd ⟨_, _, rfl, rfl⟩ hs | (rw [Bool.and_eq_true] at h1; exact h1)
    obtain ⟨c1, c2⟩ := hc
    unfold cmpOk at c1 c2
    rw [Bool.and_eq_true] at c1 c2
    exact .inr ⟨toPy d, toPy e, dp_of c1.1 ra.all, dp_of c2.1 rb.all, c1.2, c2.2, fin_at ok fin (fun _ => R.b) h⟩

/-! ### in -/
def flat : D → Bool
  | .non => true
  | .bl _ => true
  | .int _ => true
  | .str _ => true
  | _ => false
def eqF : D → D → Bool
  | .non, .non => true
  | .bl a, .bl b => a == b
  | .bl a, .int b => (if a then 1 else 0) == b
  | .int a, .bl b => a == (if b then 1 else 0)
  | .int a, .int b => a == b
  | .str a, .str b => a == b
  | _, _ => false
def inF (x : D) (xs : List D) : Bool := xs.any fun y => eqF y x
theorem flat_v {K : PySem.W.Frag} {G : Addr → Prop} {H : Hp} {d : D} {v : V} (f : flat d = true) (h : R K G H d v) : flatV v = true := by
  cases d <;> first | (unfold R at h; subst h; rfl) | cases f
theorem eqF_v {K : PySem.W.Frag} {G : Addr → Prop} {H : Hp} {d e : D} {v u : V} (f : flat d = true) (g : flat e = true) (h : R K G H d v) (h2 : R K G H e u) : eqV v u = eqF d e := by
  cases d <;> first | (unfold R at h; subst h; cases e <;> first | (unfold R at h2; subst h2; rfl) | cases g) | cases f
theorem flats_v {K : PySem.W.Frag} {G : Addr → Prop} {H : Hp} : ∀ {ds : List D} {vs : List V}, ds.all flat = true → Rs K G H ds vs → vs.all flatV = true
  | [], _, _, h => by unfold Rs at h; subst h; rfl
  | d :: ds, _, q, h => by
    unfold Rs at h
    rw [List.all_cons, Bool.and_eq_true] at q
    obtain ⟨v, r, rfl, h1, h2⟩ := h
    rw [List.all_cons, flat_v q.1 h1, flats_v q.2 h2]; rfl
theorem inF_v {K : PySem.W.Frag} {G : Addr → Prop} {H : Hp} {e : D} {u : V} (g : flat e = true) (h2 : R K G H e u) : ∀ {ds : List D} {vs : List V}, ds.all flat = true → Rs K G H ds vs → inV u vs = inF e ds
  | [], _, _, h => by unfold Rs at h; subst h; rfl
  | d :: ds, _, q, h => by
    unfold Rs at h
    rw [List.all_cons, Bool.and_eq_true] at q
    obtain ⟨v, r, rfl, h1, h3⟩ := h
    have ih := inF_v g h2 q.2 h3
    unfold inV inF at ih ⊢
    rw [List.any_cons, List.any_cons, eqF_v q.1 g h1 h2, ih]
/-- a list's, tuple's items -/
def itemsOf : D → Option (List D)
  | .lst ds => some ds
  | .fz ds => some ds
  | .tup ds => some ds
  | _ => none
theorem RO.items {K : PySem.W.Frag} {G : Addr → Prop} {H : Hp} {d : D} {v : V} {ds : List D} (h : RO K G H d v) (e : itemsOf d = some ds) : ∃ a vs, v = .ref a ∧ (SqL K H a vs ∨ SqT K H a vs) ∧ Rs K G H ds vs := by
  cases d with
  | lst xs => cases e; obtain ⟨a, vs, rfl, q, r⟩ := h; exact ⟨a, vs, rfl, .inl (SqL.of q), r⟩
  | fz xs => cases e; obtain ⟨a, vs, rfl, q, r⟩ := h.fz; exact ⟨a, vs, rfl, .inl q.seq, r⟩
  | tup xs => cases e; obtain ⟨a, vs, rfl, q, r⟩ := h.tup; exact ⟨a, vs, rfl, .inr q, r⟩
  | _ => cases e
def pIn (neg : Bool) : Op2 := fun a b k => match b.d with
  | .str z => ∃ c : Nat, a.d = .str ⟨#[c]⟩ ∧ k (.v (.bl (neg ^^ decide (c ∈ z.cps.toList))) .n)
  | _ => ∃ ds, itemsOf b.d = some ds ∧ flat a.d = true ∧ ds.all flat = true ∧ k (.v (.bl (neg ^^ inF a.d ds)) .n)
def rIn2 (K : PySem.W.Frag) (neg : Bool) : R2 := fun x y H Q => rIn K neg x y H Q ∨ ∃ (c : Nat) (z : Str), x = .str ⟨#[c]⟩ ∧ y = .str z ∧ Q (.bl (neg ^^ decide (c ∈ z.cps.toList))) H
theorem op_in2 {X : Cx} : OpR X (compareOp .In) (rIn2 X.K false) := by
  have h : OpR X (compareOp .In) (fun x y H Q => rIn X.K false x y H Q ∨ ∃ (c : Nat) (z : Str), x = .str ⟨#[c]⟩ ∧ y = .str z ∧ Q (.bl (decide (c ∈ z.cps.toList))) H) := op_in_seq.or op_in_sign
  intro pins s σ H x y v u Q I rx ry q
  refine h pins s σ H x y v u Q I rx ry (q.imp id fun ⟨c, z, e1, e2, q⟩ => ⟨c, z, e1, e2, ?_⟩)
  rw [Bool.false_xor] at q; exact q
theorem op_notin2 {X : Cx} : OpR X (compareOp .NotIn) (rIn2 X.K true) := by
  have h : OpR X (compareOp .NotIn) (fun x y H Q => rIn X.K true x y H Q ∨ ∃ (c : Nat) (z : Str), x = .str ⟨#[c]⟩ ∧ y = .str z ∧ Q (.bl (!decide (c ∈ z.cps.toList))) H) := op_notIn_seq.or op_notIn_sign
  intro pins s σ H x y v u Q I rx ry q
  refine h pins s σ H x y v u Q I rx ry (q.imp id fun ⟨c, z, e1, e2, q⟩ => ⟨c, z, e1, e2, ?_⟩)
  rw [Bool.true_xor] at q; exact q
theorem ops_in {K : PySem.W.Frag} {neg : Bool} : OpS K (rIn2 K neg) (pIn neg) := by
  intro B σ Hs H ρ x y a b k Q' ok hd ra rb h fin
  obtain ⟨d, f⟩ := a
  obtain ⟨e, f2⟩ := b
  have seq : (∃ ds, itemsOf e = some ds ∧ flat d = true ∧ ds.all flat = true ∧ k (.v (.bl (neg ^^ inF d ds)) .n)) → rIn2 K neg x y H Q' := fun ⟨ds, e1, e2, e3, q⟩ => by
    obtain ⟨p, vs, rfl, hs, r⟩ := rb.items e1
    have rx : R K (fun _ => True) H d x := ra.all
    have rs : Rs K (fun _ => True) H ds vs := r.mono Keep.refl fun _ _ _ => True.intro
    refine .inl ⟨p, vs, rfl, hs, flat_v e2 rx, flats_v e3 rs, ?_⟩
    rw [inF_v e2 rx e3 rs]
    cases neg with
    | true => exact fin_at ok fin (fun _ => R.b) (by rw [Bool.true_xor] at q; exact q)
    | false => exact fin_at ok fin (fun _ => R.b) (by rw [Bool.false_xor] at q; exact q)
  cases e with
  | str z =>
    obtain ⟨c, rfl, q⟩ := h
    obtain rfl := ra.str
    obtain rfl := rb.str
    exact .inr ⟨c, z, rfl, rfl, fin_at ok fin (fun _ => R.b) q⟩
  | _ => exact seq h

/-! ### is None -/
def isNon : D → Bool
  | .non => true
  | _ => false
def pIs (neg : Bool) : Op2 := fun a b k => b.d = .non ∧ k (.v (.bl (neg ^^ isNon a.d)) .n)
theorem isNon_v {K : PySem.W.Frag} {G : Addr → Prop} {H : Hp} {d : D} {v : V} (h : R K G H d v) : decide (v = .non) = isNon d := by
  cases d <;> unfold R at h <;> first | (subst h; rfl) | (obtain ⟨a, vs, rfl, _⟩ := h; rfl)
theorem ops_is {K : PySem.W.Frag} : OpS K (fun x y H Q => y = .non ∧ Q (.bl (decide (x = .non))) H) (pIs false) := by
  intro B σ Hs H ρ x y a b k Q' ok hd ra rb h fin
  obtain ⟨e, h⟩ := h
  rw [e] at rb
  refine ⟨rb.non, ?_⟩
  rw [isNon_v ra.all]
  exact fin_at ok fin (fun _ => R.b) (by rw [Bool.false_xor] at h; exact h)
theorem ops_isN {K : PySem.W.Frag} : OpS K (fun x y H Q => y = .non ∧ Q (.bl (!decide (x = .non))) H) (pIs true) := by
  intro B σ Hs H ρ x y a b k Q' ok hd ra rb h fin
  obtain ⟨e, h⟩ := h
  rw [e] at rb
  refine ⟨rb.non, ?_⟩
  rw [isNon_v ra.all]
  exact fin_at ok fin (fun _ => R.b) (by rw [Bool.true_xor] at h; exact h)

/-! ### x[i] of lists, tuples, texts -/
theorem atI_ix {α : Type} {xs : List α} {i : Int} {v : α} (h : atI xs i = some v) : ∃ j, ixN xs.length i = some j ∧ xs[j]? = some v := by
  unfold atI at h
  cases e : ixN xs.length i with
  | none => rw [e] at h; cases h
  | some j => rw [e] at h; exact ⟨j, rfl, h⟩
theorem Rs.at {K : PySem.W.Frag} {G : Addr → Prop} {H : Hp} {ds : List D} {vs : List V} {i : Int} {d : D} (h : Rs K G H ds vs) (e : atI ds i = some d) : ∃ v, atI vs i = some v ∧ R K G H d v := by
  obtain ⟨j, e1, e2⟩ := atI_ix e
  obtain ⟨v, e3, r⟩ := h.get e2
  refine ⟨v, ?_, r⟩
  unfold atI
  rw [← h.len, e1]
  exact e3
def pIx : Op2 := fun a b k => match a.d with
  | .str z => ∃ (i : Int) (c : Nat), b.d = .int i ∧ z.length ≤ sizeLine ∧ atI z.cps.toList i = some c ∧ k (.v (.str ⟨#[c]⟩) .n)
  | _ => ∃ ds i d, itemsOf a.d = some ds ∧ b.d = .int i ∧ atI ds i = some d ∧ k (.v d a.f)
theorem ops_ix {K : PySem.W.Frag} : OpS K (rIx K) pIx := by
  intro B σ Hs H ρ x y a b k Q' ok hd ra rb h fin
  obtain ⟨d, f⟩ := a
  obtain ⟨e, f2⟩ := b
  have seq : (∃ ds i d', itemsOf d = some ds ∧ e = .int i ∧ atI ds i = some d' ∧ k (.v d' f)) → rIx K x y H Q' := fun ⟨ds, i, d', e1, e2, e3, q⟩ => by
    subst e2
    obtain rfl := rb.int
    obtain ⟨p, vs, rfl, hs, r⟩ := ra.items e1
    obtain ⟨v, e4, rv⟩ := r.at e3
    rcases hs with hs | hs
    · exact .inl ⟨p, vs, i, v, rfl, rfl, hs, e4, fin v H (.v d' f) ok Stp.refl rv q⟩
    · exact .inr (.inl ⟨p, vs, i, v, rfl, rfl, hs, e4, fin v H (.v d' f) ok Stp.refl rv q⟩)
  cases d with
  | str z =>
    obtain ⟨i, c, rfl, h1, h2, q⟩ := h
    obtain rfl := ra.str
    obtain rfl := rb.int
    exact .inr (.inr ⟨z, i, c, rfl, rfl, h1, h2, fin_at ok fin (fun _ => R.s) q⟩)
  | _ => exact seq h

section
variable {X : Cx} {e a b c : Expr} {pos : Pos} {da db dc : TD} {k : Nat}
theorem de_eq (hr : Room k X.A) (ha : DE X a da) (hb : DE X b db) : DE X (.Compare a [.Eq] [b] pos) (dOp (pEq false) da db) := let ⟨_, p1, e1⟩ := ha; let ⟨_, p2, e2⟩ := hb; ⟨_, pe_cmpR (op_eq.or (op_eqD hr.units)) p1 p2 (nomark _), ev_op ops_eq e1 e2⟩
theorem de_ne (hr : Room k X.A) (ha : DE X a da) (hb : DE X b db) : DE X (.Compare a [.NotEq] [b] pos) (dOp (pEq true) da db) := let ⟨_, p1, e1⟩ := ha; let ⟨_, p2, e2⟩ := hb; ⟨_, pe_cmpR (op_ne.or (op_neD hr.units)) p1 p2 (nomark _), ev_op ops_ne e1 e2⟩
def pCmp (g : Int → Int → Bool) : Op2 := pI (fun _ _ => True) fun i j => .bl (g i j)
theorem de_lt (ha : DE X a da) (hb : DE X b db) : DE X (.Compare a [.Lt] [b] pos) (dOp (pCmp fun i j => decide (i < j)) da db) := let ⟨_, p1, e1⟩ := ha; let ⟨_, p2, e2⟩ := hb; ⟨_, pe_cmpR op_lt p1 p2 (nomark _), ev_op ops_IB e1 e2⟩
theorem de_le (ha : DE X a da) (hb : DE X b db) : DE X (.Compare a [.LtE] [b] pos) (dOp (pCmp fun i j => decide (i ≤ j)) da db) := let ⟨_, p1, e1⟩ := ha; let ⟨_, p2, e2⟩ := hb; ⟨_, pe_cmpR op_le p1 p2 (nomark _), ev_op ops_IB e1 e2⟩
theorem de_gt (ha : DE X a da) (hb : DE X b db) : DE X (.Compare a [.Gt] [b] pos) (dOp (pCmp fun i j => decide (j < i)) da db) := let ⟨_, p1, e1⟩ := ha; let ⟨_, p2, e2⟩ := hb; ⟨_, pe_cmpR op_gt p1 p2 (nomark _), ev_op ops_IB e1 e2⟩
theorem de_ge (ha : DE X a da) (hb : DE X b db) : DE X (.Compare a [.GtE] [b] pos) (dOp (pCmp fun i j => decide (j ≤ i)) da db) := let ⟨_, p1, e1⟩ := ha; let ⟨_, p2, e2⟩ := hb; ⟨_, pe_cmpR op_ge p1 p2 (nomark _), ev_op ops_IB e1 e2⟩
theorem de_in (ha : DE X a da) (hb : DE X b db) (hm : behindInMarks .In b = false := by rfl) : DE X (.Compare a [.In] [b] pos) (dOp (pIn false) da db) := let ⟨_, p1, e1⟩ := ha; let ⟨_, p2, e2⟩ := hb; ⟨_, pe_cmpR op_in2 p1 p2 hm, ev_op ops_in e1 e2⟩
theorem de_notin (ha : DE X a da) (hb : DE X b db) (hm : behindInMarks .NotIn b = false := by rfl) : DE X (.Compare a [.NotIn] [b] pos) (dOp (pIn true) da db) := let ⟨_, p1, e1⟩ := ha; let ⟨_, p2, e2⟩ := hb; ⟨_, pe_cmpR op_notin2 p1 p2 hm, ev_op ops_in e1 e2⟩
theorem de_is (ha : DE X a da) (hb : DE X b db) : DE X (.Compare a [.Is] [b] pos) (dOp (pIs false) da db) := let ⟨_, p1, e1⟩ := ha; let ⟨_, p2, e2⟩ := hb; ⟨_, pe_cmpR op_isN p1 p2 (nomark _), ev_op ops_is e1 e2⟩
theorem de_isnot (ha : DE X a da) (hb : DE X b db) : DE X (.Compare a [.IsNot] [b] pos) (dOp (pIs true) da db) := let ⟨_, p1, e1⟩ := ha; let ⟨_, p2, e2⟩ := hb; ⟨_, pe_cmpR op_notN p1 p2 (nomark _), ev_op ops_isN e1 e2⟩
theorem de_ix (ha : DE X a da) (hb : DE X b db) (hs : PlainIx b := by intro _ _; rfl) : DE X (.Subscript a b pos) (dOp pIx da db) := let ⟨_, p1, e1⟩ := ha; let ⟨_, p2, e2⟩ := hb; ⟨_, pe_ix ix_seq p1 p2 hs, ev_op ops_ix e1 e2⟩
end

theorem rel_b {K : PySem.W.Frag} {B : Bx} {Hs H : Hp} {σ : L2.St} {ρ : En} {b : Bool} : RelR K B Hs H σ ρ (.bl b) (.v (.bl b) .n) := show R K (GF B (mset σ ρ) Hs .n) H (.bl b) (.bl b) from R.b
theorem rel_i {K : PySem.W.Frag} {B : Bx} {Hs H : Hp} {σ : L2.St} {ρ : En} {b : Int} : RelR K B Hs H σ ρ (.int b) (.v (.int b) .n) := show R K (GF B (mset σ ρ) Hs .n) H (.int b) (.int b) from R.i
theorem rel_s {K : PySem.W.Frag} {B : Bx} {Hs H : Hp} {σ : L2.St} {ρ : En} {b : Str} : RelR K B Hs H σ ρ (.str b) (.v (.str b) .n) := show R K (GF B (mset σ ρ) Hs .n) H (.str b) (.str b) from R.s
/-! ### tests -/
def isB : D → Bool → Prop
  | .bl b, c => c = b
  | _, _ => False
def dTest (d : TD) : TB := fun ρ Q => d ρ fun r ρ1 => ∃ b, (ob ρ1 r).d = .bl b ∧ Q b ρ1
theorem obR {K : PySem.W.Frag} {B : Bx} {Hs H : Hp} {σ : L2.St} {ρ : En} {v : V} {r : Rv} (k : Ok K B H σ ρ) (hd : ∀ a, B.H0 a ≠ none → Hs a ≠ none) (h : RelR K B Hs H σ ρ v r) : RO K (GF B (mset σ ρ) Hs (ob ρ r).f) H (ob ρ r).d v := Rg.ro k (h.rg hd)
theorem evt_test {K : PySem.W.Frag} {te : TE} {d : TD} (h : Ev1 K te d) : EvT K (tTest te) (dTest d) := fun B σ H ρ Q Q' k q fin =>
  h B σ H ρ _ _ k q fun v H1 r ρ1 k1 s1 n1 e1 ⟨b, eb, q1⟩ => by
    have ro := obR k1 k.dom e1
    rw [eb] at ro
    exact ⟨b, ro.bl, fin b H1 ρ1 k1 s1 n1 q1⟩
theorem evt_tB {K : PySem.W.Frag} {te : TE} {d : TD} (h : Ev1 K te d) : EvT K (tB te) (dTest d) := evt_test h
def dAndT (t u : TB) : TB := fun ρ Q => t ρ fun b ρ1 => (b = true → u ρ1 Q) ∧ (b = false → Q false ρ1)
def dOrT (t u : TB) : TB := fun ρ Q => t ρ fun b ρ1 => (b = true → Q true ρ1) ∧ (b = false → u ρ1 Q)
def dNotT (t : TB) : TB := fun ρ Q => t ρ fun b ρ1 => Q (!b) ρ1
theorem evt_and {K : PySem.W.Frag} {t u : TT} {dt du : TB} (h1 : EvT K t dt) (h2 : EvT K u du) : EvT K (tAnd t u) (dAndT dt du) := fun B σ H ρ Q Q' k q fin =>
  h1 B σ H ρ _ _ k q fun b H1 ρ1 k1 s1 n1 q1 => by
    cases b with
    | true => exact iteT (h2 B σ H1 ρ1 _ _ k1 (q1.1 rfl) fun b H2 ρ2 k2 s2 n2 q2 => fin b H2 ρ2 k2 (s1.trans s2) (n1.trans n2) q2)
    | false => exact iteF (fin false H1 ρ1 k1 s1 n1 (q1.2 rfl))
theorem evt_or {K : PySem.W.Frag} {t u : TT} {dt du : TB} (h1 : EvT K t dt) (h2 : EvT K u du) : EvT K (tOr t u) (dOrT dt du) := fun B σ H ρ Q Q' k q fin =>
  h1 B σ H ρ _ _ k q fun b H1 ρ1 k1 s1 n1 q1 => by
    cases b with
    | false => exact iteF (h2 B σ H1 ρ1 _ _ k1 (q1.2 rfl) fun b H2 ρ2 k2 s2 n2 q2 => fin b H2 ρ2 k2 (s1.trans s2) (n1.trans n2) q2)
    | true => exact iteT (fin true H1 ρ1 k1 s1 n1 (q1.1 rfl))
theorem evt_not {K : PySem.W.Frag} {t : TT} {dt : TB} (h1 : EvT K t dt) : EvT K (tNot t) (dNotT dt) := fun B σ H ρ Q Q' k q fin =>
  h1 B σ H ρ _ _ k q fun b H1 ρ1 k1 s1 n1 q1 => fin (!b) H1 ρ1 k1 s1 n1 q1
def dAndV (d e : TD) : TD := fun ρ Q => d ρ fun r ρ1 => ∃ b, (ob ρ1 r).d = .bl b ∧ (b = true → e ρ1 Q) ∧ (b = false → Q (.v (.bl false) .n) ρ1)
def dOrV (d e : TD) : TD := fun ρ Q => d ρ fun r ρ1 => ∃ b, (ob ρ1 r).d = .bl b ∧ (b = true → Q (.v (.bl true) .n) ρ1) ∧ (b = false → e ρ1 Q)
def dNotV (d : TD) : TD := fun ρ Q => d ρ fun r ρ1 => ∃ b, (ob ρ1 r).d = .bl b ∧ Q (.v (.bl (!b)) .n) ρ1
def dIfE (t : TB) (d e : TD) : TD := fun ρ Q => t ρ fun b ρ1 => (b = true → d ρ1 Q) ∧ (b = false → e ρ1 Q)
section
variable {K : PySem.W.Frag} {ta tb : TE} {d e : TD} {t : TT} {dt : TB}
theorem Ev1.after {B : Bx} {σ : L2.St} {H H1 : Hp} {ρ ρ1 : En} {Q : Rv → En → Prop} {Q' : VK} (h : Ev1 K ta d) (k1 : Ok K B H1 σ ρ1) (s1 : Stp σ H ρ H1 ρ1) (n1 : Kn ρ ρ1) (q : d ρ1 Q)
    (fin : ∀ v H' r ρ', Ok K B H' σ ρ' → Stp σ H ρ H' ρ' → Kn ρ ρ' → RelR K B H H' σ ρ' v r → Q r ρ' → Q' v H') : ta σ H1 Q' :=
  h B σ H1 ρ1 _ _ k1 q fun v H2 r ρ2 k2 s2 n2 e2 q2 => fin v H2 r ρ2 k2 (s1.trans s2) (n1.trans n2) (e2.base s1.dom) q2
theorem ev_andV (ha : Ev1 K ta d) (hb : Ev1 K tb e) : Ev1 K (tAndV ta tb) (dAndV d e) := fun B σ H ρ Q Q' k q fin =>
  ha B σ H ρ _ _ k q fun v H1 r ρ1 k1 s1 n1 e1 ⟨b, eb, q1⟩ => by
    have ro := obR k1 k.dom e1
    rw [eb] at ro
    refine ⟨b, ro.bl, ?_⟩
    cases b with
    | true => exact iteT (hb.after k1 s1 n1 (q1.1 rfl) fin)
    | false => exact iteF (fin (.bl false) H1 (.v (.bl false) .n) ρ1 k1 s1 n1 rel_b (q1.2 rfl))
theorem ev_orV (ha : Ev1 K ta d) (hb : Ev1 K tb e) : Ev1 K (tOrV ta tb) (dOrV d e) := fun B σ H ρ Q Q' k q fin =>
  ha B σ H ρ _ _ k q fun v H1 r ρ1 k1 s1 n1 e1 ⟨b, eb, q1⟩ => by
    have ro := obR k1 k.dom e1
    rw [eb] at ro
    refine ⟨b, ro.bl, ?_⟩
    cases b with
    | false => exact iteF (hb.after k1 s1 n1 (q1.2 rfl) fin)
    | true => exact iteT (fin (.bl true) H1 (.v (.bl true) .n) ρ1 k1 s1 n1 rel_b (q1.1 rfl))
theorem ev_notV (ha : Ev1 K ta d) : Ev1 K (tNotV ta) (dNotV d) := fun B σ H ρ Q Q' k q fin =>
  ha B σ H ρ _ _ k q fun v H1 r ρ1 k1 s1 n1 e1 ⟨b, eb, q1⟩ => by
    have ro := obR k1 k.dom e1
    rw [eb] at ro
    exact ⟨b, ro.bl, fin (.bl !b) H1 (.v (.bl !b) .n) ρ1 k1 s1 n1 rel_b q1⟩
theorem ev_ifE (ht : EvT K t dt) (ha : Ev1 K ta d) (hb : Ev1 K tb e) : Ev1 K (tIf t ta tb) (dIfE dt d e) := fun B σ H ρ Q Q' k q fin =>
  ht B σ H ρ _ _ k q fun b H1 ρ1 k1 s1 n1 q1 => by
    cases b with
    | true => exact iteT (ha.after k1 s1 n1 (q1.1 rfl) fin)
    | false => exact iteF (hb.after k1 s1 n1 (q1.2 rfl) fin)
end
section
variable {X : Cx} {e a b c : Expr} {rest : List Expr} {pos : Pos} {da db dc : TD} {ta tb : TB} {k : Nat}
/-- a comparison as a test -/
theorem dt_cmp {op : CmpOp} (h : DE X (.Compare a [op] [b] pos) da) (hp : ∃ te, PT X (.Compare a [op] [b] pos) te ∧ EvT X.K te (dTest da)) : DT X (.Compare a [op] [b] pos) (dTest da) := hp
theorem dt_eq (hr : Room k X.A) (ha : DE X a da) (hb : DE X b db) : DT X (.Compare a [.Eq] [b] pos) (dTest (dOp (pEq false) da db)) := let ⟨_, p1, e1⟩ := ha; let ⟨_, p2, e2⟩ := hb; ⟨_, pt_cmpR (op_eq.or (op_eqD hr.units)) p1 p2 (nomark _), evt_test (ev_op ops_eq e1 e2)⟩
theorem dt_ne (hr : Room k X.A) (ha : DE X a da) (hb : DE X b db) : DT X (.Compare a [.NotEq] [b] pos) (dTest (dOp (pEq true) da db)) := let ⟨_, p1, e1⟩ := ha; let ⟨_, p2, e2⟩ := hb; ⟨_, pt_cmpR (op_ne.or (op_neD hr.units)) p1 p2 (nomark _), evt_test (ev_op ops_ne e1 e2)⟩
theorem dt_lt (ha : DE X a da) (hb : DE X b db) : DT X (.Compare a [.Lt] [b] pos) (dTest (dOp (pCmp fun i j => decide (i < j)) da db)) := let ⟨_, p1, e1⟩ := ha; let ⟨_, p2, e2⟩ := hb; ⟨_, pt_cmpR op_lt p1 p2 (nomark _), evt_test (ev_op ops_IB e1 e2)⟩
theorem dt_le (ha : DE X a da) (hb : DE X b db) : DT X (.Compare a [.LtE] [b] pos) (dTest (dOp (pCmp fun i j => decide (i ≤ j)) da db)) := let ⟨_, p1, e1⟩ := ha; let ⟨_, p2, e2⟩ := hb; ⟨_, pt_cmpR op_le p1 p2 (nomark _), evt_test (ev_op ops_IB e1 e2)⟩
theorem dt_gt (ha : DE X a da) (hb : DE X b db) : DT X (.Compare a [.Gt] [b] pos) (dTest (dOp (pCmp fun i j => decide (j < i)) da db)) := let ⟨_, p1, e1⟩ := ha; let ⟨_, p2, e2⟩ := hb; ⟨_, pt_cmpR op_gt p1 p2 (nomark _), evt_test (ev_op ops_IB e1 e2)⟩
theorem dt_ge (ha : DE X a da) (hb : DE X b db) : DT X (.Compare a [.GtE] [b] pos) (dTest (dOp (pCmp fun i j => decide (j ≤ i)) da db)) := let ⟨_, p1, e1⟩ := ha; let ⟨_, p2, e2⟩ := hb; ⟨_, pt_cmpR op_ge p1 p2 (nomark _), evt_test (ev_op ops_IB e1 e2)⟩
theorem dt_in (ha : DE X a da) (hb : DE X b db) (hm : behindInMarks .In b = false := by rfl) : DT X (.Compare a [.In] [b] pos) (dTest (dOp (pIn false) da db)) := let ⟨_, p1, e1⟩ := ha; let ⟨_, p2, e2⟩ := hb; ⟨_, pt_cmpR op_in2 p1 p2 hm, evt_test (ev_op ops_in e1 e2)⟩
theorem dt_notin (ha : DE X a da) (hb : DE X b db) (hm : behindInMarks .NotIn b = false := by rfl) : DT X (.Compare a [.NotIn] [b] pos) (dTest (dOp (pIn true) da db)) := let ⟨_, p1, e1⟩ := ha; let ⟨_, p2, e2⟩ := hb; ⟨_, pt_cmpR op_notin2 p1 p2 hm, evt_test (ev_op ops_in e1 e2)⟩
theorem dt_is (ha : DE X a da) (hb : DE X b db) : DT X (.Compare a [.Is] [b] pos) (dTest (dOp (pIs false) da db)) := let ⟨_, p1, e1⟩ := ha; let ⟨_, p2, e2⟩ := hb; ⟨_, pt_cmpR op_isN p1 p2 (nomark _), evt_test (ev_op ops_is e1 e2)⟩
theorem dt_isnot (ha : DE X a da) (hb : DE X b db) : DT X (.Compare a [.IsNot] [b] pos) (dTest (dOp (pIs true) da db)) := let ⟨_, p1, e1⟩ := ha; let ⟨_, p2, e2⟩ := hb; ⟨_, pt_cmpR op_notN p1 p2 (nomark _), evt_test (ev_op ops_isN e1 e2)⟩
theorem dt_val (h : DE X e da) (he : ∀ whole, isTrue e X.env whole = (do let v ← whole; standAt e.pos; holding [v] (truthy v)) := by intro _; rfl) : DT X e (dTest da) := let ⟨_, p, ev⟩ := h; ⟨_, pt_val p he, evt_tB ev⟩
theorem dw_and1 (ha : DT X a ta) : DW X (.BoolOp .And [a] pos) ta := let ⟨_, p, ev⟩ := ha; ⟨_, pw_and1 p, ev⟩
theorem dw_or1 (ha : DT X a ta) : DW X (.BoolOp .Or [a] pos) ta := let ⟨_, p, ev⟩ := ha; ⟨_, pw_or1 p, ev⟩
theorem dw_and (ha : DT X a ta) (hb : DW X (.BoolOp .And (b :: rest) pos) tb) : DW X (.BoolOp .And (a :: b :: rest) pos) (dAndT ta tb) := let ⟨_, p1, e1⟩ := ha; let ⟨_, p2, e2⟩ := hb; ⟨_, pw_and p1 p2, evt_and e1 e2⟩
theorem dw_or (ha : DT X a ta) (hb : DW X (.BoolOp .Or (b :: rest) pos) tb) : DW X (.BoolOp .Or (a :: b :: rest) pos) (dOrT ta tb) := let ⟨_, p1, e1⟩ := ha; let ⟨_, p2, e2⟩ := hb; ⟨_, pw_or p1 p2, evt_or e1 e2⟩
theorem dt_w (h : DW X e ta) : DT X e ta := let ⟨_, p, ev⟩ := h; ⟨_, p.pt, ev⟩
theorem dt_not (ha : DT X a ta) : DT X (.UnaryOp .Not a pos) (dNotT ta) := let ⟨_, p, ev⟩ := ha; ⟨_, pt_not p, evt_not ev⟩
theorem de_one {op} (h : DE X a da) : DE X (.BoolOp op [a] pos) da := let ⟨_, p, ev⟩ := h; ⟨_, pe_one p, ev⟩
theorem de_andV (ha : DE X a da) (hb : DE X (.BoolOp .And (b :: rest) pos) db) : DE X (.BoolOp .And (a :: b :: rest) pos) (dAndV da db) := let ⟨_, p1, e1⟩ := ha; let ⟨_, p2, e2⟩ := hb; ⟨_, pe_and p1 p2, ev_andV e1 e2⟩
theorem de_orV (ha : DE X a da) (hb : DE X (.BoolOp .Or (b :: rest) pos) db) : DE X (.BoolOp .Or (a :: b :: rest) pos) (dOrV da db) := let ⟨_, p1, e1⟩ := ha; let ⟨_, p2, e2⟩ := hb; ⟨_, pe_or p1 p2, ev_orV e1 e2⟩
theorem de_not (ha : DE X a da) : DE X (.UnaryOp .Not a pos) (dNotV da) := let ⟨_, p, ev⟩ := ha; ⟨_, pe_not p, ev_notV ev⟩
theorem de_ifE (hc : DT X c ta) (ha : DE X a da) (hb : DE X b db) : DE X (.IfExp c a b pos) (dIfE ta da db) := let ⟨_, p, ev⟩ := hc; let ⟨_, p1, e1⟩ := ha; let ⟨_, p2, e2⟩ := hb; ⟨_, pe_ifExp p p1 p2, ev_ifE ev e1 e2⟩
end
end DL

namespace DL
open PySem L2

/-! ### argument lists -/
def dNil : TL := fun ρ Q => Q [] ρ
def dCons (d : TD) (t : TL) : TL := fun ρ Q => d ρ fun r ρ1 => t ρ1 fun rs ρ2 => Q (r :: rs) ρ2
section
variable {K : PySem.W.Frag} {B : Bx} {H H' Hs : Hp} {σ : L2.St} {ρ ρ' : En} {v : V} {r : Rv}
theorem RgL.go (st : Stp σ H ρ H' ρ') (kn : Kn ρ ρ') : ∀ {vs : List V} {rs : List Rv}, RgL K B Hs H σ ρ vs rs → RgL K B Hs H' σ ρ' vs rs
  | _, _, .nil => .nil
  | _, _, .cons h t => .cons (h.go st kn) (RgL.go st kn t)
theorem ev_nil : EvL K tNil dNil := fun B σ H ρ Q Q' k q fin => fin [] H [] ρ k Stp.refl Kn.refl .nil q
theorem ev_cons {ta : TE} {da : TD} {tr : TA} {dr : TL} (ha : Ev1 K ta da) (hr : EvL K tr dr) : EvL K (tCons ta tr) (dCons da dr) := fun B σ H ρ Q Q' k q fin =>
  ha B σ H ρ _ _ k q fun v H1 r ρ1 k1 s1 n1 e1 q1 => hr B σ H1 ρ1 _ _ k1 q1 fun vs H2 rs ρ2 k2 s2 n2 e2 q2 =>
    fin (v :: vs) H2 (r :: rs) ρ2 k2 (s1.trans s2) (n1.trans n2) (.cons ((e1.rg k.dom).go s2 n2) (e2.base s1.dom)) q2
end
section
variable {X : Cx} {e : Expr} {es : List Expr} {d : TD} {t : TL}
theorem da_nil : DA X [] dNil := ⟨_, pa_nil, ev_nil⟩
theorem da_cons (he : DE X e d) (hr : DA X es t) (hs : starEach (e :: es) X.env = (false, eval e X.env) :: starEach es X.env := by rfl) : DA X (e :: es) (dCons d t) :=
  let ⟨_, p1, e1⟩ := he; let ⟨_, p2, e2⟩ := hr; ⟨_, pa_cons p1 p2 hs, ev_cons e1 e2⟩
end

/-! ### displays -/
/-- what is stored: not a list that may still be changed -/
def stoD : Rv → Option Ob
  | .v d f => some ⟨d, f⟩
  | .nl ds f => some ⟨.lst ds, f⟩
  | .nd ks ds f => some ⟨.dic ks ds, f⟩
  | .nt ks ds f => some ⟨.dit ks ds, f⟩
  | .m _ => none
/-- how new: what has no list in it is as good as new -/
def fup (f : Fr) (d : D) : Fr := if nol d = true then .n else f
theorem R.up {K : PySem.W.Frag} {B : Bx} {M : Addr → Prop} {Hs H : Hp} {f : Fr} {d : D} {v : V} (h : R K (GF B M Hs f) H d v) : R K (GF B M Hs (fup f d)) H d v := by
  unfold fup
  by_cases e : DL.nol d = true
  · rw [if_pos e]; exact R.nol e h
  · rw [if_neg e]; exact h
/-- all that is stored, and how new it is at least -/
def stos : List Rv → Option (List D × Fr)
  | [] => some ([], .n)
  | r :: rs => match stoD r, stos rs with
    | some o, some (ds, f) => some (o.d :: ds, fmin (fup o.f o.d) f)
    | _, _ => none
section
variable {K : PySem.W.Frag} {B : Bx} {H H' Hs : Hp} {σ : L2.St} {ρ ρ' : En} {v : V} {r : Rv}
theorem Rg.sto {o : Ob} (h : Rg K B Hs H σ ρ v r) (e : stoD r = some o) : R K (GF B (mset σ ρ) Hs o.f) H o.d v := by
  cases r <;> cases e <;> exact h
theorem RgL.sto : ∀ {vs : List V} {rs : List Rv} {ds : List D} {f : Fr}, RgL K B Hs H σ ρ vs rs → stos rs = some (ds, f) → Rs K (GF B (mset σ ρ) Hs f) H ds vs
  | _, _, ds, f, .nil, e => by cases e; exact Rs.nil
  | _, _, ds, f, .cons (r := r) (rs := rs) h t, e => by
    unfold stos at e
    cases e1 : stoD r with
    | none => rw [e1] at e; cases e
    | some o =>
      cases e2 : stos rs with
      | none => rw [e1, e2] at e; cases e
      | some q =>
        obtain ⟨es, g⟩ := q
        rw [e1, e2] at e
        cases e
        exact Rs.cons ((h.sto e1).up.mono Keep.refl fun _ _ g => g.minL) ((RgL.sto t e2).mono Keep.refl fun _ _ g => g.minR)
theorem RgL.len : ∀ {vs : List V} {rs : List Rv}, RgL K B Hs H σ ρ vs rs → vs.length = rs.length
  | _, _, .nil => rfl
  | _, _, .cons _ t => by rw [List.length_cons, List.length_cons, RgL.len t]
end
def dTup (t : TL) : TD := fun ρ Q => t ρ fun rs ρ1 => match stos rs with
  | some (ds, f) => if rs.length ≤ 1000 then Q (.v (.tup ds) f) ρ1 else False
  | none => False
def dLst (t : TL) : TD := fun ρ Q => t ρ fun rs ρ1 => match stos rs with
  | some (ds, f) => if rs.length ≤ 1000 then Q (.nl ds f) ρ1 else False
  | none => False
section
variable {K : PySem.W.Frag}
theorem sz1000 {n : Nat} (h : n ≤ 1000) : n ≤ sizeLine := Nat.le_trans h (by rw [sizeLine_eq]; decide)
theorem ev_tup {ta : TA} {da : TL} (ha : EvL K ta da) : Ev1 K (tTup ta) (dTup da) := fun B σ H ρ Q Q' k q fin =>
  ha B σ H ρ _ _ k q fun vs H1 rs ρ1 k1 s1 n1 e1 q1 => by
    cases es : stos rs with
    | none => rw [es] at q1; exact q1.elim
    | some p =>
      obtain ⟨ds, f⟩ := p
      rw [es] at q1
      by_cases hl : rs.length ≤ 1000
      · replace q1 : (if rs.length ≤ 1000 then Q (.v (.tup ds) f) ρ1 else False) := q1
        rw [if_pos hl] at q1
        refine ⟨by rw [e1.len]; exact sz1000 hl, fun p hp => ?_⟩
        obtain ⟨o1, o2⟩ := new_tup k1 hp (e1.sto es)
        exact fin _ _ _ ρ1 o1 (s1.trans (All.new hp).step) n1 o2 q1
      · replace q1 : (if rs.length ≤ 1000 then Q (.v (.tup ds) f) ρ1 else False) := q1
        rw [if_neg hl] at q1; exact q1.elim
theorem ev_lst {ta : TA} {da : TL} (ha : EvL K ta da) : Ev1 K (tLst ta) (dLst da) := fun B σ H ρ Q Q' k q fin =>
  ha B σ H ρ _ _ k q fun vs H1 rs ρ1 k1 s1 n1 e1 q1 => by
    cases es : stos rs with
    | none => rw [es] at q1; exact q1.elim
    | some p =>
      obtain ⟨ds, f⟩ := p
      rw [es] at q1
      by_cases hl : rs.length ≤ 1000
      · replace q1 : (if rs.length ≤ 1000 then Q (.nl ds f) ρ1 else False) := q1
        rw [if_pos hl] at q1
        refine ⟨by rw [e1.len]; exact sz1000 hl, fun p hp => ?_⟩
        obtain ⟨o1, o2⟩ := new_nl k1 s1.dom hp (e1.sto es)
        exact fin _ _ _ ρ1 o1 (s1.trans (All.new hp).step) n1 o2 q1
      · replace q1 : (if rs.length ≤ 1000 then Q (.nl ds f) ρ1 else False) := q1
        rw [if_neg hl] at q1; exact q1.elim
end
section
variable {X : Cx} {es : List Expr} {t : TL} {pos : Pos}
theorem de_tup {x1} (h : DA X es t) : DE X (.Tuple es x1 pos) (dTup t) := let ⟨_, p, e⟩ := h; ⟨_, pe_tup p, ev_tup e⟩
theorem de_lst (h : DA X es t) : DE X (.List es pos) (dLst t) := let ⟨_, p, e⟩ := h; ⟨_, pe_lst p, ev_lst e⟩
end

/-! ### calls of built-ins -/
abbrev OpN := List Ob → (Rv → Prop) → Prop
/-- what the values of a list of results are seen as -/
inductive RoL (K : PySem.W.Frag) (G : Fr → Addr → Prop) (H : Hp) : List V → List Ob → Prop
  | nil : RoL K G H [] []
  | cons {v : V} {vs : List V} {o : Ob} {os : List Ob} : RO K (G o.f) H o.d v → RoL K G H vs os → RoL K G H (v :: vs) (o :: os)
def CallS (K : PySem.W.Frag) (r : List V → Hp → VK → Prop) (p : OpN) : Prop :=
  ∀ (B : Bx) (σ : L2.St) (Hs H : Hp) (ρ : En) (xs : List V) (os : List Ob) (k : Rv → Prop) (Q' : VK), Ok K B H σ ρ → (∀ a, Hs a ≠ none → H a ≠ none) →
    RoL K (GF B (mset σ ρ) Hs) H xs os → p os k → (∀ v H' rr, Ok K B H' σ ρ → Stp σ H ρ H' ρ → RelR K B Hs H' σ ρ v rr → k rr → Q' v H') → r xs H Q'
def dCB (p : OpN) (t : TL) : TD := fun ρ Q => t ρ fun rs ρ1 => p (rs.map (ob ρ1)) fun r => Q r ρ1
theorem RgL.ro {K : PySem.W.Frag} {B : Bx} {H Hs : Hp} {σ : L2.St} {ρ : En} (k : Ok K B H σ ρ) : ∀ {vs : List V} {rs : List Rv}, RgL K B Hs H σ ρ vs rs → RoL K (GF B (mset σ ρ) Hs) H vs (rs.map (ob ρ))
  | _, _, .nil => .nil
  | _, _, .cons h t => .cons (h.ro k) (RgL.ro k t)
theorem ev_cb {K : PySem.W.Frag} {r : List V → Hp → VK → Prop} {p : OpN} {ta : TA} {da : TL} (hp : CallS K r p) (ha : EvL K ta da) : Ev1 K (tCB r ta) (dCB p da) := fun B σ H ρ Q Q' k q fin =>
  ha B σ H ρ _ _ k q fun vs H1 rs ρ1 k1 s1 n1 e1 q1 => hp B σ H H1 ρ1 vs _ _ _ k1 s1.dom (e1.ro k1) q1 fun v H2 rr k2 s2 e2 q2 => fin v H2 rr ρ1 k2 (s1.trans s2) n1 e2 q2
section
variable {X : Cx} {e : Expr} {es : List Expr} {t : TL} {p pos : Pos} {x : Str} {id T : String} {r : List V → Hp → VK → Prop} {q : OpN}
theorem de_callB (hc : CallR X (.builtin id) r) (hq : CallS X.K r q) (hm : X.mg x = none) (hv : bootBuiltins x = some (.builtin id)) (ha : DA X (e :: es) t) (hg : Gl X x := by rfl) (hn : x ≠ "__name__" := by decide) (hdb : (x == ("__debug__" : Str)) = false := by decide)
    (he : starEach (e :: es) X.env = (false, eval e X.env) :: starEach es X.env := by rfl) (hpl : (backTo pos (starEach es X.env)).any (·.1) = false := by rfl) : DE X (.Call (.Name x p) (e :: es) [] pos) (dCB q t) :=
  let ⟨_, pa, ev⟩ := ha; ⟨_, pe_callB hc hg hm hv pa hn hdb he hpl, ev_cb hq ev⟩
theorem de_callTy (hc : CallR X (.type T) r) (hq : CallS X.K r q) (hm : X.mg x = none) (hv : bootBuiltins x = some (.type T)) (ha : DA X (e :: es) t) (hg : Gl X x := by rfl) (hn : x ≠ "__name__" := by decide) (hdb : (x == ("__debug__" : Str)) = false := by decide)
    (he : starEach (e :: es) X.env = (false, eval e X.env) :: starEach es X.env := by rfl) (hpl : (backTo pos (starEach es X.env)).any (·.1) = false := by rfl) : DE X (.Call (.Name x p) (e :: es) [] pos) (dCB q t) :=
  let ⟨_, pa, ev⟩ := ha; ⟨_, pe_callTy hc hg hm hv pa hn hdb he hpl, ev_cb hq ev⟩
end
theorem RoL.one {K : PySem.W.Frag} {G : Fr → Addr → Prop} {H : Hp} {vs : List V} {o : Ob} (h : RoL K G H vs [o]) : ∃ v, vs = [v] ∧ RO K (G o.f) H o.d v := by
  cases h with
  | cons h t => cases t; exact ⟨_, rfl, h⟩
theorem RoL.two {K : PySem.W.Frag} {G : Fr → Addr → Prop} {H : Hp} {vs : List V} {o o2 : Ob} (h : RoL K G H vs [o, o2]) : ∃ v u, vs = [v, u] ∧ RO K (G o.f) H o.d v ∧ RO K (G o2.f) H o2.d u := by
  cases h with
  | cons h t => cases t with
    | cons h2 t => cases t; exact ⟨_, _, rfl, h, h2⟩

/-- len -/
def pLen : OpN := fun os k => match os with
  | [⟨.str z, _⟩] => z.length ≤ sizeLine ∧ k (.v (.int z.length) .n)
  | [⟨.dic ks _, _⟩] => k (.v (.int ks.length) .n)
  | [o] => ∃ ds, itemsOf o.d = some ds ∧ k (.v (.int ds.length) .n)
  | _ => False
def rLen3 (K : PySem.W.Frag) : List V → Hp → VK → Prop := fun xs H Q => (∃ p ys, xs = [.ref p] ∧ (SqL K H p ys ∨ SqT K H p ys) ∧ Q (.int ys.length) H) ∨ ((∃ z, xs = [.str z] ∧ z.length ≤ sizeLine ∧ Q (.int z.length) H) ∨ ∃ a kvs, xs = [V.ref a] ∧ H a = some (.dK kvs) ∧ Q (.int kvs.length) H)
theorem call_lenDK {X : Cx} : CallR X (.builtin "len") (fun xs H Q => ∃ a kvs, xs = [V.ref a] ∧ H a = some (.dK kvs) ∧ Q (.int kvs.length) H) := by
  intro pins s σ H xs us Q I r h
  obtain ⟨a, kvs, rfl, ha, q⟩ := h
  obtain ⟨u, rfl, ru⟩ := vals1 r
  cases ru
  exact d_len I (.inl ha) fun t s' I' => ⟨.int kvs.length, H, I', ⟨t, rfl⟩, q⟩
theorem call_len3 {X : Cx} : CallR X (.builtin "len") (rLen3 X.K) := call_len_seq.or (call_len_str.or call_lenDK)
theorem calls_len {K : PySem.W.Frag} : CallS K (rLen3 K) pLen := by
  intro B σ Hs H ρ xs os k Q' ok hd ro h fin
  unfold pLen at h
  split at h
  · obtain ⟨v, rfl, rv⟩ := ro.one
    obtain rfl := rv.str
    exact .inr (.inl ⟨_, rfl, h.1, fin_at ok fin (fun _ => R.i) h.2⟩)
  · obtain ⟨v, rfl, rv⟩ := ro.one
    rename_i ks ds f
    obtain ⟨a, vs, rfl, ha, hl, _⟩ := rv
    refine .inr (.inr ⟨a, _, rfl, ha, ?_⟩)
    rw [List.length_zip, hl, Nat.min_self, ← hl]
    exact fin_at ok fin (fun _ => R.i) h
  · obtain ⟨v, rfl, rv⟩ := ro.one
    obtain ⟨ds, e, h⟩ := h
    obtain ⟨p, vs, rfl, hs, r⟩ := rv.items e
    refine .inl ⟨p, vs, rfl, hs, ?_⟩
    rw [← r.len]
    exact fin_at ok fin (fun _ => R.i) h
  · exact h.elim

/-- any, all of a list of truths -/
def pAny (g : List Bool → Bool) : OpN := fun os k => match os with
  | [o] => ∃ bs : List Bool, o.d = .lst (bs.map D.bl) ∧ k (.v (.bl (g bs)) .n)
  | _ => False
theorem calls_any {K : PySem.W.Frag} : CallS K (rAny K) (pAny fun bs => bs.any id) := by
  intro B σ Hs H ρ xs os k Q' ok hd ro h fin
  unfold pAny at h
  split at h
  · obtain ⟨v, rfl, rv⟩ := ro.one
    obtain ⟨bs, e, h⟩ := h
    rw [e] at rv
    obtain ⟨p, vs, rfl, hs, r⟩ := rv
    obtain rfl := r.bls
    exact ⟨p, bs, rfl, SqL.of hs, fin_at ok fin (fun _ => R.b) h⟩
  · exact h.elim
theorem calls_all {K : PySem.W.Frag} : CallS K (rAll K) (pAny fun bs => bs.all id) := by
  intro B σ Hs H ρ xs os k Q' ok hd ro h fin
  unfold pAny at h
  split at h
  · obtain ⟨v, rfl, rv⟩ := ro.one
    obtain ⟨bs, e, h⟩ := h
    rw [e] at rv
    obtain ⟨p, vs, rfl, hs, r⟩ := rv
    obtain rfl := r.bls
    exact ⟨p, bs, rfl, SqL.of hs, fin_at ok fin (fun _ => R.b) h⟩
  · exact h.elim
/-- max, min of a list of ints -/
def pMax (le : Int → Int → Prop) : OpN := fun os k => match os with
  | [o] => ∃ ns : List Int, o.d = .lst (ns.map D.int) ∧ 0 < ns.length ∧ ∀ m, m ∈ ns → (∀ y, y ∈ ns → le y m) → k (.v (.int m) .n)
  | _ => False
theorem calls_max {K : PySem.W.Frag} : CallS K (rMax K) (pMax fun y m => y ≤ m) := by
  intro B σ Hs H ρ xs os k Q' ok hd ro h fin
  unfold pMax at h
  split at h
  · obtain ⟨v, rfl, rv⟩ := ro.one
    obtain ⟨bs, e, h0, h⟩ := h
    rw [e] at rv
    obtain ⟨p, vs, rfl, hs, r⟩ := rv
    obtain rfl := r.ints
    exact ⟨p, bs, rfl, SqL.of hs, h0, fun m hm hy => fin_at ok fin (fun _ => R.i) (h m hm hy)⟩
  · exact h.elim
theorem calls_min {K : PySem.W.Frag} : CallS K (rMin K) (pMax fun y m => m ≤ y) := by
  intro B σ Hs H ρ xs os k Q' ok hd ro h fin
  unfold pMax at h
  split at h
  · obtain ⟨v, rfl, rv⟩ := ro.one
    obtain ⟨bs, e, h0, h⟩ := h
    rw [e] at rv
    obtain ⟨p, vs, rfl, hs, r⟩ := rv
    obtain rfl := r.ints
    exact ⟨p, bs, rfl, SqL.of hs, h0, fun m hm hy => fin_at ok fin (fun _ => R.i) (h m hm hy)⟩
  · exact h.elim
/-- list(x), tuple(x) -/
def pList : OpN := fun os k => match os with
  | [o] => ∃ ds, itemsOf o.d = some ds ∧ k (.nl ds o.f)
  | _ => False
def rList1 (K : PySem.W.Frag) : List V → Hp → VK → Prop := fun xs H Q => ∃ p ys, xs = [.ref p] ∧ (SqL K H p ys ∨ SqT K H p ys) ∧ ∀ l, H l = none → Q (.ref l) (upd H l (.lst ys))
theorem calls_list {K : PySem.W.Frag} : CallS K (rList1 K) pList := by
  intro B σ Hs H ρ xs os k Q' ok hd ro h fin
  unfold pList at h
  split at h
  · obtain ⟨v, rfl, rv⟩ := ro.one
    obtain ⟨ds, e, h⟩ := h
    obtain ⟨p, vs, rfl, hs, r⟩ := rv.items e
    refine ⟨p, vs, rfl, hs, fun l hl => ?_⟩
    obtain ⟨o1, o2⟩ := new_nl ok hd hl r
    exact fin _ _ _ o1 (All.new hl).step o2 h
  · exact h.elim
def pTuple : OpN := fun os k => match os with
  | [o] => ∃ ds, itemsOf o.d = some ds ∧ k (.v (.tup ds) o.f)
  | _ => False
def rTuple1 (K : PySem.W.Frag) : List V → Hp → VK → Prop := fun xs H Q => ∃ p ys, xs = [.ref p] ∧ ((SqL K H p ys ∧ ∀ l, H l = none → Q (.ref l) (upd H l (.tup ys))) ∨ (SqT K H p ys ∧ Q (.ref p) H))
theorem calls_tuple {K : PySem.W.Frag} : CallS K (rTuple1 K) pTuple := by
  intro B σ Hs H ρ xs os k Q' ok hd ro h fin
  unfold pTuple at h
  split at h
  · obtain ⟨v, rfl, rv⟩ := ro.one
    obtain ⟨ds, e, h⟩ := h
    obtain ⟨p, vs, rfl, hs, r⟩ := rv.items e
    rcases hs with hs | hs
    · refine ⟨p, vs, rfl, .inl ⟨hs, fun l hl => ?_⟩⟩
      obtain ⟨o1, o2⟩ := new_tup (Hs := Hs) ok hl r
      exact fin _ _ _ o1 (All.new hl).step o2 h
    · refine ⟨p, vs, rfl, .inr ⟨hs, ?_⟩⟩
      exact fin _ H (.v (.tup ds) _) ok Stp.refl (show R K _ H (.tup ds) (.ref p) by unfold R; exact ⟨p, vs, rfl, hs, r⟩) h
  · exact h.elim
/-- int(x) of a whole number, of a truth -/
def pInt : OpN := fun os k => match os with
  | [⟨.int i, _⟩] => k (.v (.int i) .n)
  | [⟨.bl b, _⟩] => k (.v (.int (if b then 1 else 0)) .n)
  | _ => False
def rInt1 : List V → Hp → VK → Prop := fun xs H Q => (∃ i, xs = [.int i] ∧ Q (.int i) H) ∨ ∃ k, xs = [.bl k] ∧ Q (.int (if k then 1 else 0)) H
theorem calls_int {K : PySem.W.Frag} : CallS K rInt1 pInt := by
  intro B σ Hs H ρ xs os k Q' ok hd ro h fin
  unfold pInt at h
  split at h
  · obtain ⟨v, rfl, rv⟩ := ro.one
    obtain rfl := rv.int
    exact .inl ⟨_, rfl, fin_at ok fin (fun _ => R.i) h⟩
  · obtain ⟨v, rfl, rv⟩ := ro.one
    obtain rfl := rv.bl
    exact .inr ⟨_, rfl, fin_at ok fin (fun _ => R.i) h⟩
  · exact h.elim
/-- max(m, n), min(m, n) -/
def pMax2 (g : Int → Int → Int) : OpN := fun os k => match os with
  | [⟨.int i, _⟩, ⟨.int j, _⟩] => k (.v (.int (g i j)) .n)
  | _ => False
theorem calls_max2 {K : PySem.W.Frag} {g : Int → Int → Int} : CallS K (fun xs H Q => ∃ i j, xs = [.int i, .int j] ∧ Q (.int (g i j)) H) (pMax2 g) := by
  intro B σ Hs H ρ xs os k Q' ok hd ro h fin
  unfold pMax2 at h
  split at h
  · obtain ⟨v, u, rfl, rv, ru⟩ := ro.two
    obtain rfl := rv.int
    obtain rfl := ru.int
    exact ⟨_, _, rfl, fin_at ok fin (fun _ => R.i) h⟩
  · exact h.elim
section
variable {X : Cx} {e : Expr} {es : List Expr} {t : TL} {p pos : Pos} {x : Str}
theorem de_len (hm : X.mg "len" = none) (ha : DA X [e] t) (hg : Gl X "len" := by rfl) (he : starEach [e] X.env = (false, eval e X.env) :: starEach [] X.env := by rfl) (hpl : (backTo pos (starEach [] X.env)).any (·.1) = false := by rfl) : DE X (.Call (.Name "len" p) [e] [] pos) (dCB pLen t) :=
  de_callB call_len3 calls_len hm PySem.boot_len ha hg (by decide) (by decide) he hpl
theorem de_any (hc : X.calm = true) (hm : X.mg "any" = none) (ha : DA X [e] t) (hg : Gl X "any" := by rfl) (he : starEach [e] X.env = (false, eval e X.env) :: starEach [] X.env := by rfl) (hpl : (backTo pos (starEach [] X.env)).any (·.1) = false := by rfl) : DE X (.Call (.Name "any" p) [e] [] pos) (dCB (pAny fun bs => bs.any id) t) :=
  de_callB (cr_any hc) calls_any hm (by decide +kernel) ha hg (by decide) (by decide) he hpl
theorem de_all (hc : X.calm = true) (hm : X.mg "all" = none) (ha : DA X [e] t) (hg : Gl X "all" := by rfl) (he : starEach [e] X.env = (false, eval e X.env) :: starEach [] X.env := by rfl) (hpl : (backTo pos (starEach [] X.env)).any (·.1) = false := by rfl) : DE X (.Call (.Name "all" p) [e] [] pos) (dCB (pAny fun bs => bs.all id) t) :=
  de_callB (cr_all hc) calls_all hm (by decide +kernel) ha hg (by decide) (by decide) he hpl
theorem de_max (hc : X.calm = true) (hm : X.mg "max" = none) (ha : DA X [e] t) (hg : Gl X "max" := by rfl) (he : starEach [e] X.env = (false, eval e X.env) :: starEach [] X.env := by rfl) (hpl : (backTo pos (starEach [] X.env)).any (·.1) = false := by rfl) : DE X (.Call (.Name "max" p) [e] [] pos) (dCB (pMax fun y m => y ≤ m) t) :=
  de_callB (cr_max hc) calls_max hm (by decide +kernel) ha hg (by decide) (by decide) he hpl
theorem de_min (hc : X.calm = true) (hm : X.mg "min" = none) (ha : DA X [e] t) (hg : Gl X "min" := by rfl) (he : starEach [e] X.env = (false, eval e X.env) :: starEach [] X.env := by rfl) (hpl : (backTo pos (starEach [] X.env)).any (·.1) = false := by rfl) : DE X (.Call (.Name "min" p) [e] [] pos) (dCB (pMax fun y m => m ≤ y) t) :=
  de_callB (cr_min hc) calls_min hm (by decide +kernel) ha hg (by decide) (by decide) he hpl
theorem de_list (hm : X.mg "list" = none) (ha : DA X [e] t) (hg : Gl X "list" := by rfl) (he : starEach [e] X.env = (false, eval e X.env) :: starEach [] X.env := by rfl) (hpl : (backTo pos (starEach [] X.env)).any (·.1) = false := by rfl) : DE X (.Call (.Name "list" p) [e] [] pos) (dCB pList t) :=
  de_callTy call_list_of calls_list hm (by decide +kernel) ha hg (by decide) (by decide) he hpl
theorem de_tuple (hm : X.mg "tuple" = none) (ha : DA X [e] t) (hg : Gl X "tuple" := by rfl) (he : starEach [e] X.env = (false, eval e X.env) :: starEach [] X.env := by rfl) (hpl : (backTo pos (starEach [] X.env)).any (·.1) = false := by rfl) : DE X (.Call (.Name "tuple" p) [e] [] pos) (dCB pTuple t) :=
  de_callTy call_tuple_of calls_tuple hm (by decide +kernel) ha hg (by decide) (by decide) he hpl
theorem de_int1 (hm : X.mg "int" = none) (ha : DA X [e] t) (hg : Gl X "int" := by rfl) (he : starEach [e] X.env = (false, eval e X.env) :: starEach [] X.env := by rfl) (hpl : (backTo pos (starEach [] X.env)).any (·.1) = false := by rfl) : DE X (.Call (.Name "int" p) [e] [] pos) (dCB pInt t) :=
  de_callTy call_int1 calls_int hm (by decide +kernel) ha hg (by decide) (by decide) he hpl
theorem de_min2 {e2 : Expr} (hc : X.calm = true) (hm : X.mg "min" = none) (ha : DA X [e, e2] t) (hg : Gl X "min" := by rfl) (he : starEach [e, e2] X.env = (false, eval e X.env) :: starEach [e2] X.env := by rfl) (hpl : (backTo pos (starEach [e2] X.env)).any (·.1) = false := by rfl) : DE X (.Call (.Name "min" p) [e, e2] [] pos) (dCB (pMax2 fun i j => if j < i then j else i) t) :=
  de_callB (call_min2 hc) calls_max2 hm (by decide +kernel) ha hg (by decide) (by decide) he hpl
theorem de_max2 {e2 : Expr} (hc : X.calm = true) (hm : X.mg "max" = none) (ha : DA X [e, e2] t) (hg : Gl X "max" := by rfl) (he : starEach [e, e2] X.env = (false, eval e X.env) :: starEach [e2] X.env := by rfl) (hpl : (backTo pos (starEach [e2] X.env)).any (·.1) = false := by rfl) : DE X (.Call (.Name "max" p) [e, e2] [] pos) (dCB (pMax2 fun i j => if j > i then j else i) t) :=
  de_callB (call_max2 hc) calls_max2 hm (by decide +kernel) ha hg (by decide) (by decide) he hpl
end

/-! ### slices -/
abbrev TO' := En → (Option Int → En → Prop) → Prop
def EvO (K : PySem.W.Frag) (te : TO) (t : TO') : Prop := ∀ (B : Bx) (σ : L2.St) (H : Hp) (ρ : En) (Q : Option Int → En → Prop) (Q' : Option Int → Hp → Prop), Ok K B H σ ρ → t ρ Q →
  (∀ o H' ρ', Ok K B H' σ ρ' → Stp σ H ρ H' ρ' → Kn ρ ρ' → Q o ρ' → Q' o H') → te σ H Q'
def DO (X : Cx) (e : Option Expr) (t : TO') : Prop := ∃ te, PO X e te ∧ EvO X.K te t
def dNoP : TO' := fun ρ Q => Q none ρ
def dPart (d : TD) : TO' := fun ρ Q => d ρ fun r ρ1 => ∃ i, (ob ρ1 r).d = .int i ∧ Q (some i) ρ1
theorem do_none {X : Cx} : DO X none dNoP := ⟨_, po_none, fun B σ H ρ Q Q' k q fin => fin none H ρ k Stp.refl Kn.refl q⟩
theorem do_some {X : Cx} {e : Expr} {d : TD} (h : DE X e d) : DO X (some e) (dPart d) :=
  let ⟨_, p, ev⟩ := h; ⟨_, po_some p, fun B σ H ρ Q Q' k q fin => ev B σ H ρ _ _ k q fun v H1 r ρ1 k1 s1 n1 e1 ⟨i, ei, q1⟩ => by
    have ro := obR k1 k.dom e1
    rw [ei] at ro
    exact ⟨i, ro.int, fin (some i) H1 ρ1 k1 s1 n1 q1⟩⟩
/-- the items of xs[lo:hi] -/
def cutD (xs : List D) (lo hi : Option Int) : List D := (xs.drop (HT.sIx xs.length 0 lo)).take (HT.sIx xs.length xs.length hi - HT.sIx xs.length 0 lo)
theorem Rs.cut {K : PySem.W.Frag} {G : Addr → Prop} {H : Hp} {ds : List D} {vs : List V} (h : Rs K G H ds vs) (lo hi : Option Int) : Rs K G H (cutD ds lo hi) (cutV vs lo hi) := by
  unfold cutD cutV
  rw [← h.len]
  exact (h.drop _).take _
def dSl (d : TD) (lo hi : TO') : TD := fun ρ Q => d ρ fun r ρ1 => lo ρ1 fun l ρ2 => hi ρ2 fun u ρ3 => match (ob ρ3 r).d with
  | .lst ds => Q (.nl (cutD ds l u) (ob ρ3 r).f) ρ3
  | .fz ds => Q (.nl (cutD ds l u) (ob ρ3 r).f) ρ3
  | .tup ds => ¬ (HT.sIx ds.length 0 l = 0 ∧ HT.sIx ds.length ds.length u = ds.length) ∧ Q (.v (.tup (cutD ds l u)) (ob ρ3 r).f) ρ3
  | _ => False
def rSl2 (K : PySem.W.Frag) : V → Option Int → Option Int → Hp → VK → Prop := fun x lo hi H Q => rSlL K x lo hi H Q ∨ rSlT K x lo hi H Q
theorem ev_sl {K : PySem.W.Frag} {te : TE} {tl th : TO} {d : TD} {lo hi : TO'} (he : Ev1 K te d) (hl : EvO K tl lo) (hh : EvO K th hi) : Ev1 K (tSl (rSl2 K) te tl th) (dSl d lo hi) := fun B σ H ρ Q Q' k q fin =>
  he B σ H ρ _ _ k q fun x H1 r ρ1 k1 s1 n1 e1 q1 => hl B σ H1 ρ1 _ _ k1 q1 fun l H2 ρ2 k2 s2 n2 q2 => hh B σ H2 ρ2 _ _ k2 q2 fun u H3 ρ3 k3 s3 n3 q3 => by
    have ro := Rg.ro k3 ((e1.rg k.dom).go (s2.trans s3) (n2.trans n3))
    have sd := ((s1.trans s2).trans s3)
    have nn := ((n1.trans n2).trans n3)
    generalize ob ρ3 r = o at ro q3
    obtain ⟨dd, f⟩ := o
    cases dd with
    | lst ds =>
      obtain ⟨p, vs, rfl, hp, rr⟩ := ro
      refine .inl ⟨p, vs, rfl, SqL.of hp, fun w hw => ?_⟩
      obtain ⟨o1, o2⟩ := new_nl k3 sd.dom hw (rr.cut l u)
      exact fin _ _ _ ρ3 o1 (sd.trans (All.new hw).step) nn o2 q3
    | fz ds =>
      obtain ⟨p, vs, rfl, hp, rr⟩ := ro.fz
      refine .inl ⟨p, vs, rfl, hp.seq, fun w hw => ?_⟩
      obtain ⟨o1, o2⟩ := new_nl k3 sd.dom hw (rr.cut l u)
      exact fin _ _ _ ρ3 o1 (sd.trans (All.new hw).step) nn o2 q3
    | tup ds =>
      obtain ⟨p, vs, rfl, hp, rr⟩ := ro.tup
      obtain ⟨hw0, q3⟩ := q3
      refine .inr ⟨p, vs, rfl, hp, by rw [← rr.len]; exact hw0, fun w hw => ?_⟩
      obtain ⟨o1, o2⟩ := new_tup (Hs := H) k3 hw (rr.cut l u)
      exact fin _ _ _ ρ3 o1 (sd.trans (All.new hw).step) nn o2 q3
    | _ => exact q3.elim
theorem de_slice {X : Cx} {e : Expr} {lo hi : Option Expr} {pos p2 : Pos} {d : TD} {l h : TO'} (he : DE X e d) (hl : DO X lo l) (hh : DO X hi h) : DE X (.Subscript e (.Slice lo hi none p2) pos) (dSl d l h) :=
  let ⟨_, p1, e1⟩ := he; let ⟨_, p3, e3⟩ := hl; let ⟨_, p4, e4⟩ := hh; ⟨_, pe_slice (sl_list.or sl_tup) p1 p3 p4, ev_sl e1 e3 e4⟩

/-! ### sep.join(texts) -/
def dJoin (d t : TD) : TD := fun ρ Q => d ρ fun r ρ1 => ∃ z : Str, (ob ρ1 r).d = .str z ∧ t ρ1 fun r2 ρ2 => ∃ ys : List Str, itemsOf (ob ρ2 r2).d = some (ys.map D.str) ∧ (ys.map (·.length)).sum + ys.length * z.length ≤ 16777216 ∧ Q (.v (.str (Txt.join z ys)) .n) ρ2
theorem de_join {X : Cx} {o e : Expr} {apos pos : Pos} {d t : TD} (ho : DE X o d) (he : DE X e t) (hs : starEach [e] X.env = [(false, eval e X.env)] := by rfl) (hbase : attributeBase o "join" X.env (eval o X.env) = eval o X.env := by rfl) (hline : (apos.endLine == pos.line) = true := by rfl) :
    DE X (.Call (.Attribute o "join" apos) [e] [] pos) (dJoin d t) := by
  obtain ⟨_, p1, e1⟩ := ho
  obtain ⟨_, p2, e2⟩ := he
  refine ⟨_, pe_join p1 p2 hs hbase hline, fun B σ H ρ Q Q' k q fin => ?_⟩
  refine e1 B σ H ρ _ _ k q fun x H1 r1 ρ1 k1 s1 n1 w1 ⟨z, ez, q1⟩ => ?_
  have ro := obR k1 k.dom w1
  rw [ez] at ro
  obtain rfl := ro.str
  refine ⟨⟨z, rfl⟩, e2 B σ H1 ρ1 _ _ k1 q1 fun y H2 r2 ρ2 k2 s2 n2 w2 ⟨ys, ey, hz, q2⟩ => ?_⟩
  have ro2 := obR k2 k1.dom w2
  obtain ⟨p, vs, rfl, hq, rs⟩ := ro2.items ey
  obtain rfl := rs.strs
  exact ⟨z, p, ys, rfl, rfl, hq, hz, fin _ H2 (.v (.str (Txt.join z ys)) .n) ρ2 k2 (s1.trans s2) (n1.trans n2) rel_s q2⟩
end DL

namespace DL
open PySem L2

/-! ### statements -/
structure SStp (σ : L2.St) (H : Hp) (ρ : En) (σ' : L2.St) (H' : Hp) (ρ' : En) : Prop where
  keep : Keep (fun a => ¬ mset σ ρ a) H H'
  dom : ∀ a, H a ≠ none → H' a ≠ none
  new : ∀ a, mset σ' ρ' a → mset σ ρ a ∨ H a = none
section
variable {K : PySem.W.Frag} {B : Bx} {H H' H1 H2 Hs : Hp} {σ σ' σ1 σ2 : L2.St} {ρ ρ' ρ1 ρ2 : En} {v : V} {r : Rv}
theorem SStp.refl : SStp σ H ρ σ H ρ := ⟨Keep.refl, fun _ h => h, fun _ h => .inl h⟩
theorem SStp.trans (a : SStp σ H ρ σ1 H1 ρ1) (b : SStp σ1 H1 ρ1 σ2 H2 ρ2) : SStp σ H ρ σ2 H2 ρ2 := by
  refine ⟨fun x o h q => ?_, fun x h => b.dom x (a.dom x h), fun x h => ?_⟩
  · refine b.keep x o (a.keep x o h q) (q.imp (fun z w => ?_) id)
    rcases a.new x w with u | u
    · exact z u
    · rw [h] at u; cases u
  · rcases b.new x h with u | u
    · exact a.new x u
    · by_cases e : H x = none
      · exact .inr e
      · exact absurd u (a.dom x e)
theorem Stp.s (a : Stp σ H ρ H1 ρ1) : SStp σ H ρ σ H1 ρ1 := ⟨a.keep, a.dom, fun x h => .inl (a.sub x h)⟩

theorem mset_set {i : Nat} {s : Sl} {w : Option V} {a : Addr} (h : mset (σ.set i w) (ρ.set i s) a) (hi : i < ρ.length) (hl : ρ.length = σ.length) : mset σ ρ a ∨ (s.isM = true ∧ w = some (.ref a)) := by
  obtain ⟨j, t, e, m, z⟩ := h
  by_cases hj : i = j
  · subst hj
    rw [List.getElem?_set_self hi] at e
    rw [List.getElem?_set_self (hl ▸ hi)] at z
    cases e
    exact .inr ⟨m, Option.some.inj z⟩
  · rw [List.getElem?_set_ne hj] at e z
    exact .inl ⟨j, t, e, m, z⟩
/-- a slot is stored to: what it holds now -/
theorem Ok.store {i : Nat} {s : Sl} {x : V} (k : Ok K B H σ ρ) (hi : i < ρ.length) (hs : SlOk K B H (σ.set i (some x)) (mset (σ.set i (some x)) (ρ.set i s)) i s)
    (g : ∀ (f : Fr) (a : Addr), H a ≠ none → GF B (mset σ ρ) B.H0 f a → s.isM = true → x = .ref a → (∃ j t, j ≠ i ∧ ρ[j]? = some t ∧ t.isM = false ∨ True) → False)
    (u : ∀ a, s.isM = true → x = .ref a → ¬ mset σ ρ a) : Ok K B H (σ.set i (some x)) (ρ.set i s) := by
  have gg : ∀ {f : Fr} (a : Addr), H a ≠ none → GF B (mset σ ρ) B.H0 f a → GF B (mset (σ.set i (some x)) (ρ.set i s)) B.H0 f a := fun {f} a ha q =>
    ⟨fun z => (mset_set z hi k.len).elim q.1 fun ⟨m, e⟩ => g f a ha q m (Option.some.inj e) ⟨0, .no, .inr True.intro⟩, q.2⟩
  refine ⟨by rw [List.length_set, List.length_set]; exact k.len, k.dom, k.av, k.ext, fun j t e => ?_, fun j1 j2 s1 s2 a e1 m1 e2 m2 z1 z2 => ?_⟩
  · by_cases hj : i = j
    · subst hj
      rw [List.getElem?_set_self hi] at e
      cases e
      exact hs
    · rw [List.getElem?_set_ne hj] at e
      have q := k.sl j t e
      have ne : (σ.set i (some x))[j]? = σ[j]? := List.getElem?_set_ne hj
      cases t with
      | no => exact True.intro
      | val d f => obtain ⟨v, e1, e2⟩ := q; exact ⟨v, ne.trans e1, e2.mono Keep.refl gg⟩
      | ml ds f => obtain ⟨p, vs, e1, e2, e3, e4⟩ := q; exact ⟨p, vs, ne.trans e1, e2, e3.mono Keep.refl gg, e4⟩
      | mp n ds => obtain ⟨p, vs, e1, e2⟩ := q; exact ⟨p, vs, ne.trans e1, e2⟩
      | md ks ds f => obtain ⟨p, vs, e1, e2, e0, e3, e4⟩ := q; exact ⟨p, vs, ne.trans e1, e2, e0, e3.mono Keep.refl gg, e4⟩
      | mt ks ds f => obtain ⟨p, vs, e1, e2, e0, e3, e4⟩ := q; exact ⟨p, vs, ne.trans e1, e2, e0, e3.mono Keep.refl gg, e4⟩
  · have cs : ∀ {j : Nat} {t : Sl}, (ρ.set i s)[j]? = some t → t.isM = true → (σ.set i (some x))[j]? = some (some (.ref a)) → (j = i ∧ s.isM = true ∧ x = .ref a) ∨ (j ≠ i ∧ ρ[j]? = some t ∧ σ[j]? = some (some (.ref a))) := fun {j t} e m z => by
      by_cases hj : i = j
      · subst hj
        rw [List.getElem?_set_self hi] at e
        rw [List.getElem?_set_self (k.len ▸ hi)] at z
        cases e
        exact .inl ⟨rfl, m, Option.some.inj (Option.some.inj z)⟩
      · rw [List.getElem?_set_ne hj] at e z
        exact .inr ⟨fun q => hj q.symm, e, z⟩
    rcases cs e1 m1 z1 with ⟨q1, m, e⟩ | ⟨q1, p1, w1⟩
    · rcases cs e2 m2 z2 with ⟨q2, _⟩ | ⟨q2, p2, w2⟩
      · rw [q1, q2]
      · exact absurd ⟨j2, s2, p2, m2, w2⟩ (u a m e)
    · rcases cs e2 m2 z2 with ⟨q2, m, e⟩ | ⟨q2, p2, w2⟩
      · exact absurd ⟨j1, s1, p1, m1, w1⟩ (u a m e)
      · exact k.inj j1 j2 s1 s2 a p1 m1 p2 m2 w1 w2
/-- name = a thing that stands still -/
theorem Ok.asg {i : Nat} {d : D} {f : Fr} {x : V} (k : Ok K B H σ ρ) (hi : i < ρ.length) (h : R K (GF B (mset σ ρ) Hs f) H d x) :
    Ok K B H (σ.set i (some x)) (ρ.set i (.val d f)) ∧ SStp σ H ρ (σ.set i (some x)) H (ρ.set i (.val d f)) := by
  have sub : ∀ a, mset (σ.set i (some x)) (ρ.set i (.val d f)) a → mset σ ρ a := fun a z => (mset_set z hi k.len).elim id fun ⟨m, _⟩ => nomatch m
  refine ⟨k.store hi ⟨x, List.getElem?_set_self (k.len ▸ hi), h.mono Keep.refl fun a _ g => ⟨fun z => g.1 (sub a z), g.2.1, g.2.2.1, fun z => g.2.2.1 (by rw [z]; decide)⟩⟩ (fun _ _ _ _ m => nomatch m) (fun _ m => nomatch m), ⟨Keep.refl, fun _ h => h, fun a z => .inl (sub a z)⟩⟩
theorem fresh0 (hd : ∀ a, B.H0 a ≠ none → Hs a ≠ none) {p : Addr} (h : Hs p = none) : B.H0 p = none := by
  cases q : B.H0 p with
  | none => rfl
  | some o => exact absurd h (hd p (by rw [q]; exact Option.some_ne_none _))
/-- name = a new list, dict -/
theorem Ok.asgN {i : Nat} {s : Sl} {p : Addr} (k : Ok K (B.add p) H σ ρ) (hi : i < ρ.length) (hm : s.isM = true) (np : ¬ mset σ ρ p)
    (hs : (∀ a, H a ≠ none → ¬ mset σ ρ a → a ≠ p → ¬ mset (σ.set i (some (.ref p))) (ρ.set i s) a) → SlOk K B H (σ.set i (some (.ref p))) (mset (σ.set i (some (.ref p))) (ρ.set i s)) i s) :
    Ok K B H (σ.set i (some (.ref p))) (ρ.set i s) := by
  have cl : ∀ a, H a ≠ none → ¬ mset σ ρ a → a ≠ p → ¬ mset (σ.set i (some (.ref p))) (ρ.set i s) a := fun a _ n1 n2 z =>
    (mset_set z hi k.len).elim n1 fun ⟨_, e⟩ => n2 (by cases e; rfl)
  have gg : ∀ {f : Fr} (a : Addr), H a ≠ none → GF (B.add p) (mset σ ρ) B.H0 f a → GF B (mset (σ.set i (some (.ref p))) (ρ.set i s)) B.H0 f a := fun {f} a ha q =>
    ⟨cl a ha q.1 fun z => q.2.1 (by rw [z]; exact List.mem_cons_self), fun z => q.2.1 (List.mem_cons_of_mem _ z), q.2.2⟩
  have av : ∀ {a : Addr}, a ∉ (B.add p).Av → a ∉ B.Av := fun {a} q z => q (List.mem_cons_of_mem _ z)
  refine ⟨by rw [List.length_set, List.length_set]; exact k.len, k.dom, fun a h => k.av a (List.mem_cons_of_mem _ h), k.ext, fun j t e => ?_, fun j1 j2 s1 s2 a e1 m1 e2 m2 z1 z2 => ?_⟩
  · by_cases hj : i = j
    · subst hj
      rw [List.getElem?_set_self hi] at e
      cases e
      exact hs cl
    · rw [List.getElem?_set_ne hj] at e
      have q := k.sl j t e
      have ne : (σ.set i (some (V.ref p)))[j]? = σ[j]? := List.getElem?_set_ne hj
      cases t with
      | no => exact True.intro
      | val d f => obtain ⟨v, e1, e2⟩ := q; exact ⟨v, ne.trans e1, e2.mono Keep.refl gg⟩
      | ml ds f => obtain ⟨p, vs, e1, e2, e3, e4, e5⟩ := q; exact ⟨p, vs, ne.trans e1, e2, e3.mono Keep.refl gg, e4, av e5⟩
      | mp n ds => obtain ⟨p, vs, e1, e2, e3, e4, e5⟩ := q; exact ⟨p, vs, ne.trans e1, e2, e3, e4, av e5⟩
      | md ks ds f => obtain ⟨p, vs, e1, e2, e0, e3, e4, e5⟩ := q; exact ⟨p, vs, ne.trans e1, e2, e0, e3.mono Keep.refl gg, e4, av e5⟩
      | mt ks ds f => obtain ⟨p, vs, e1, e2, e0, e3, e4, e5⟩ := q; exact ⟨p, vs, ne.trans e1, e2, e0, e3.mono Keep.refl gg, e4, av e5⟩
  · have cs : ∀ {j : Nat} {t : Sl}, (ρ.set i s)[j]? = some t → t.isM = true → (σ.set i (some (.ref p)))[j]? = some (some (.ref a)) → (j = i ∧ p = a) ∨ (j ≠ i ∧ ρ[j]? = some t ∧ σ[j]? = some (some (.ref a))) := fun {j t} e m z => by
      by_cases hj : i = j
      · subst hj
        rw [List.getElem?_set_self (k.len ▸ hi)] at z
        cases z
        exact .inl ⟨rfl, rfl⟩
      · rw [List.getElem?_set_ne hj] at e z
        exact .inr ⟨fun q => hj q.symm, e, z⟩
    rcases cs e1 m1 z1 with ⟨q1, e⟩ | ⟨q1, p1, w1⟩
    · rcases cs e2 m2 z2 with ⟨q2, _⟩ | ⟨q2, p2, w2⟩
      · rw [q1, q2]
      · exact absurd ⟨j2, s2, p2, m2, e ▸ w2⟩ np
    · rcases cs e2 m2 z2 with ⟨q2, e⟩ | ⟨q2, p2, w2⟩
      · exact absurd ⟨j1, s1, p1, m1, e ▸ w1⟩ np
      · exact k.inj j1 j2 s1 s2 a p1 m1 p2 m2 w1 w2
end

/-- what is wanted behind a statement, on data -/
structure ED where
  nx : En → Prop
  rt : D → En → Prop
  bk : En → Prop := fun _ => False
  ct : En → Prop := fun _ => False
abbrev TSD := ED → En → Prop
structure Lk (K : PySem.W.Frag) (B : Bx) (σ : L2.St) (H : Hp) (ρ : En) (E : ED) (D' : Ends) : Prop where
  nx : ∀ σ' H' ρ', Ok K B H' σ' ρ' → SStp σ H ρ σ' H' ρ' → E.nx ρ' → D'.nx σ' H'
  rt : ∀ v H' σ' ρ' d, Ok K B H' σ' ρ' → SStp σ H ρ σ' H' ρ' → R K (fun a => B.H0 a = none) H' d v → E.rt d ρ' → D'.rt v H'
  bk : ∀ σ' H' ρ', Ok K B H' σ' ρ' → SStp σ H ρ σ' H' ρ' → E.bk ρ' → D'.bk σ' H'
  ct : ∀ σ' H' ρ', Ok K B H' σ' ρ' → SStp σ H ρ σ' H' ρ' → E.ct ρ' → D'.ct σ' H'
def EvS (K : PySem.W.Frag) (ts : TS) (t : TSD) : Prop := ∀ (B : Bx) (σ : L2.St) (H : Hp) (ρ : En) (E : ED) (D' : Ends), Ok K B H σ ρ → t E ρ → Lk K B σ H ρ E D' → ts D' σ H
def DS (X : Cx) (st : Stmt) (t : TSD) : Prop := ∃ ts, PS X st ts ∧ EvS X.K ts t
def DSs (X : Cx) (st : List Stmt) (t : TSD) : Prop := ∃ ts, PSs X st ts ∧ EvS X.K ts t
section
variable {K : PySem.W.Frag} {B : Bx} {H H1 : Hp} {σ σ1 : L2.St} {ρ ρ1 : En} {E : ED} {D' : Ends}
theorem Lk.go (l : Lk K B σ H ρ E D') (s : SStp σ H ρ σ1 H1 ρ1) : Lk K B σ1 H1 ρ1 E D' :=
  ⟨fun σ' H' ρ' k t q => l.nx σ' H' ρ' k (s.trans t) q, fun v H' σ' ρ' d k t r q => l.rt v H' σ' ρ' d k (s.trans t) r q, fun σ' H' ρ' k t q => l.bk σ' H' ρ' k (s.trans t) q, fun σ' H' ρ' k t q => l.ct σ' H' ρ' k (s.trans t) q⟩
/-- the same with another end ahead -/
theorem Lk.nxt {N : En → Prop} {N' : L2.St → Hp → Prop} (l : Lk K B σ H ρ E D') (h : ∀ σ' H' ρ', Ok K B H' σ' ρ' → SStp σ H ρ σ' H' ρ' → N ρ' → N' σ' H') : Lk K B σ H ρ { E with nx := N } { D' with nx := N' } := ⟨h, l.rt, l.bk, l.ct⟩
end

def dNext : TSD := fun E ρ => E.nx ρ
def dSeq (t u : TSD) : TSD := fun E ρ => t { E with nx := u E } ρ
def dBreak : TSD := fun E ρ => E.bk ρ
def dCont : TSD := fun E ρ => E.ct ρ
def dIf (t : TB) (a b : TSD) : TSD := fun E ρ => t ρ fun c ρ1 => (c = true → a E ρ1) ∧ (c = false → b E ρ1)
/-- how new a slot's thing is -/
def dAsg (d : TD) (i : Nat) : TSD := fun E ρ => d ρ fun r ρ1 => i < ρ1.length ∧ match r with
  | .v x f => E.nx (ρ1.set i (.val x f))
  | .nl ds f => E.nx (ρ1.set i (.ml ds f))
  | .nd ks ds f => E.nx (ρ1.set i (.md ks ds f))
  | .nt ks ds f => E.nx (ρ1.set i (.mt ks ds f))
  | .m _ => False
def frOk (f : Fr) (d : D) : Bool := f != .o || nol d
def dRet (d : TD) : TSD := fun E ρ => d ρ fun r ρ1 => ∃ o, stoD r = some o ∧ frOk o.f o.d = true ∧ E.rt o.d ρ1
def dRetN : TSD := fun E ρ => E.rt .non ρ
def dDrop (d : TD) : TSD := fun E ρ => d ρ fun _ ρ1 => E.nx ρ1

section
variable {K : PySem.W.Frag}
theorem evs_next : EvS K tNext dNext := fun B σ H ρ E D' k q l => l.nx σ H ρ k SStp.refl q
theorem evs_break : EvS K tBreak dBreak := fun B σ H ρ E D' k q l => l.bk σ H ρ k SStp.refl q
theorem evs_cont : EvS K tCont dCont := fun B σ H ρ E D' k q l => l.ct σ H ρ k SStp.refl q
theorem evs_seq {t u : TS} {dt du : TSD} (h1 : EvS K t dt) (h2 : EvS K u du) : EvS K (tSeq t u) (dSeq dt du) := fun B σ H ρ E D' k q l =>
  h1 B σ H ρ _ _ k q (l.nxt fun σ1 H1 ρ1 k1 s1 q1 => h2 B σ1 H1 ρ1 E D' k1 q1 (l.go s1))
theorem evs_if {c : TT} {dc : TB} {t u : TS} {dt du : TSD} (hc : EvT K c dc) (h1 : EvS K t dt) (h2 : EvS K u du) : EvS K (tIfS c t u) (dIf dc dt du) := fun B σ H ρ E D' k q l =>
  hc B σ H ρ _ _ k q fun b H1 ρ1 k1 s1 n1 q1 => by
    cases b with
    | true => exact iteT (h1 B σ H1 ρ1 E D' k1 (q1.1 rfl) (l.go s1.s))
    | false => exact iteF (h2 B σ H1 ρ1 E D' k1 (q1.2 rfl) (l.go s1.s))
theorem evs_asg {te : TE} {d : TD} {i : Nat} (h : Ev1 K te d) : EvS K (tAsg te (gName i)) (dAsg d i) := fun B σ H ρ E D' k q l =>
  h B σ H ρ _ _ k q fun v H1 r ρ1 k1 s1 n1 e1 ⟨hi, q1⟩ => by
    show D'.nx (σ.set i (some v)) H1
    cases r with
    | v x f =>
      obtain ⟨o1, o2⟩ := k1.asg hi e1
      exact l.nx _ _ _ o1 (s1.s.trans o2) q1
    | nl ds f =>
      obtain ⟨p, vs, rfl, hp, h0, nm, nav, ka, rs⟩ := e1
      have hσ : (σ.set i (some (V.ref p)))[i]? = some (some (V.ref p)) := List.getElem?_set_self (k1.len ▸ hi)
      refine l.nx _ _ _ (ka.asgN hi (s := .ml ds f) rfl nm fun cl => ⟨p, vs, hσ, hp, rs.mono Keep.refl fun a ha g => ⟨cl a ha g.1 fun z => g.2.1 (by rw [z]; exact List.mem_cons_self), fun z => g.2.1 (List.mem_cons_of_mem _ z), g.2.2.1, fun z => g.2.2.1 (by rw [z]; decide)⟩, fresh0 k.dom h0, nav⟩) ⟨s1.keep, s1.dom, fun a z => ?_⟩ q1
      exact (mset_set z hi k1.len).elim (fun z => .inl (s1.sub a z)) fun ⟨_, e⟩ => .inr (by cases e; exact h0)
    | nd ks ds f =>
      obtain ⟨p, vs, rfl, hp, hl, h0, nm, nav, ka, rs⟩ := e1
      have hσ : (σ.set i (some (V.ref p)))[i]? = some (some (V.ref p)) := List.getElem?_set_self (k1.len ▸ hi)
      refine l.nx _ _ _ (ka.asgN hi (s := .md ks ds f) rfl nm fun cl => ⟨p, vs, hσ, hp, hl, rs.mono Keep.refl fun a ha g => ⟨cl a ha g.1 fun z => g.2.1 (by rw [z]; exact List.mem_cons_self), fun z => g.2.1 (List.mem_cons_of_mem _ z), g.2.2.1, fun z => g.2.2.1 (by rw [z]; decide)⟩, fresh0 k.dom h0, nav⟩) ⟨s1.keep, s1.dom, fun a z => ?_⟩ q1
      exact (mset_set z hi k1.len).elim (fun z => .inl (s1.sub a z)) fun ⟨_, e⟩ => .inr (by cases e; exact h0)
    | nt ks ds f =>
      obtain ⟨p, vs, rfl, hp, hl, h0, nm, nav, ka, rs⟩ := e1
      have hσ : (σ.set i (some (V.ref p)))[i]? = some (some (V.ref p)) := List.getElem?_set_self (k1.len ▸ hi)
      refine l.nx _ _ _ (ka.asgN hi (s := .mt ks ds f) rfl nm fun cl => ⟨p, vs, hσ, hp, hl, rs.mono Keep.refl fun a ha g => ⟨cl a ha g.1 fun z => g.2.1 (by rw [z]; exact List.mem_cons_self), fun z => g.2.1 (List.mem_cons_of_mem _ z), g.2.2.1, fun z => g.2.2.1 (by rw [z]; decide)⟩, fresh0 k.dom h0, nav⟩) ⟨s1.keep, s1.dom, fun a z => ?_⟩ q1
      exact (mset_set z hi k1.len).elim (fun z => .inl (s1.sub a z)) fun ⟨_, e⟩ => .inr (by cases e; exact h0)
    | m j => exact q1.elim
theorem stoR {B : Bx} {H H1 : Hp} {σ : L2.St} {ρ1 : En} {v : V} {r : Rv} {o : Ob} (hd : ∀ a, B.H0 a ≠ none → H a ≠ none) (h : RelR K B H H1 σ ρ1 v r) (e : stoD r = some o) (f : frOk o.f o.d = true) : R K (fun a => B.H0 a = none) H1 o.d v := by
  have q := (h.rg hd).sto e
  unfold frOk at f
  rw [Bool.or_eq_true] at f
  rcases f with f | f
  · exact q.mono Keep.refl fun a _ g => g.2.2.1 (by intro z; rw [z] at f; exact absurd f (by decide))
  · exact R.nol f q
theorem evs_ret {te : TE} {d : TD} (h : Ev1 K te d) : EvS K (tRet te) (dRet d) := fun B σ H ρ E D' k q l =>
  h B σ H ρ _ _ k q fun v H1 r ρ1 k1 s1 n1 e1 ⟨o, eo, fo, q1⟩ => l.rt v H1 σ ρ1 o.d k1 s1.s (stoR k.dom e1 eo fo) q1
theorem evs_retN : EvS K tRetN dRetN := fun B σ H ρ E D' k q l => l.rt .non H σ ρ .non k SStp.refl R.n q
theorem evs_drop {te : TE} {d : TD} (h : Ev1 K te d) : EvS K (tDrop te) (dDrop d) := fun B σ H ρ E D' k q l =>
  h B σ H ρ _ _ k q fun v H1 r ρ1 k1 s1 n1 e1 q1 => l.nx σ H1 ρ1 k1 s1.s q1
end
section
variable {X : Cx} {st : Stmt} {rest a b : List Stmt} {t u ta tb : TSD} {e c : Expr} {d : TD} {dc : TB} {pos : Pos}
theorem dss_nil : DSs X [] dNext := ⟨_, pss_nil, evs_next⟩
theorem dss_one (h : DS X st t) : DSs X [st] t := let ⟨_, p, ev⟩ := h; ⟨_, pss_one p, ev⟩
theorem dss_cons (h : DS X st t) (r : DSs X rest u) : DSs X (st :: rest) (dSeq t u) := let ⟨_, p, ev⟩ := h; let ⟨_, p2, ev2⟩ := r; ⟨_, pss_cons p p2, evs_seq ev ev2⟩
theorem ds_pass : DS X (.Pass pos) dNext := ⟨_, ps_pass, evs_next⟩
theorem ds_break : DS X (.Break pos) dBreak := ⟨_, ps_break, evs_break⟩
theorem ds_continue : DS X (.Continue pos) dCont := ⟨_, ps_continue, evs_cont⟩
theorem ds_if (hc : DT X c dc) (ha : DSs X a ta) (hb : DSs X b tb) : DS X (.If c a b pos) (dIf dc ta tb) := let ⟨_, p, ev⟩ := hc; let ⟨_, p1, e1⟩ := ha; let ⟨_, p2, e2⟩ := hb; ⟨_, ps_if p p1 p2, evs_if ev e1 e2⟩
theorem ds_set {i : Nat} {x : Str} {pos' : Pos} (he : DE X e d) (hN : X.N.Nodup) (hi : X.N[i]? = some x := by rfl) (hx : Loc X.env.scope x := by first | exact .inl rfl | exact .inr rfl) (hs : swapsWith e (some (.Name x pos')) pos.line X.env = pure false := by rfl) (hf : X.fn x = true ∨ X.env.scope.names.lookup x = some .local := by first | exact .inl rfl | exact .inr rfl | assumption) :
    DS X (.Assign [.Name x pos'] e pos) (dAsg d i) := let ⟨_, p, ev⟩ := he; ⟨_, ps_set hN hi hx p hs hf, evs_asg ev⟩
theorem ds_ret (he : DE X e d) : DS X (.Return (some e) pos) (dRet d) := let ⟨_, p, ev⟩ := he; ⟨_, ps_ret p, evs_ret ev⟩
theorem ds_retN : DS X (.Return none pos) dRetN := ⟨_, ps_retN, evs_retN⟩
theorem ds_expr (he : DE X e d) (hs : swapsWith e none pos.line X.env = pure false := by rfl) : DS X (.Expr e pos) (dDrop d) := let ⟨_, p, ev⟩ := he; ⟨_, ps_expr p hs, evs_drop ev⟩
theorem ds_doc {x j pos pos'} : DS X (.Expr (.Constant (.str x) j pos) pos') dNext := ⟨_, ps_doc, evs_next⟩
end

/-! ### stores into a list, a dict that may be changed -/
/-- a slot's list is another one now; all else is kept -/
theorem Ok.updG {K : PySem.W.Frag} {B : Bx} {H H' : Hp} {σ : L2.St} {ρ : En} {i : Nat} {t s : Sl} {p : Addr} (k : Ok K B H σ ρ) (e : ρ[i]? = some t) (m : t.isM = true) (ms : s.isM = true) (ep : σ[i]? = some (some (.ref p)))
    (hp : p ∈ B.Mp ∨ B.H0 p = none) (kp : Keep (fun a => a ≠ p) H H') (dm : ∀ a, H a ≠ none → H' a ≠ none)
    (hs : SlOk K B H' σ (mset σ ρ) i s) : Ok K B H' σ (ρ.set i s) ∧ Stp σ H ρ H' (ρ.set i s) := by
  have hi : i < ρ.length := (List.getElem?_eq_some_iff.mp e).1
  have mm : mset σ (ρ.set i s) = mset σ ρ := by
    funext a
    refine propext ⟨fun ⟨j, u, ej, mj, z⟩ => ?_, fun ⟨j, u, ej, mj, z⟩ => ?_⟩
    · by_cases hj : i = j
      · subst hj; exact ⟨i, t, e, m, z⟩
      · rw [List.getElem?_set_ne hj] at ej; exact ⟨j, u, ej, mj, z⟩
    · by_cases hj : i = j
      · subst hj; exact ⟨i, s, List.getElem?_set_self hi, ms, z⟩
      · exact ⟨j, u, by rw [List.getElem?_set_ne hj]; exact ej, mj, z⟩
  have pm : mset σ ρ p := ⟨i, t, e, m, ep⟩
  have kk : Keep (fun a => ¬ mset σ ρ a) H H' := kp.weak fun a h z => h (z ▸ pm)
  have rs : ∀ {f : Fr} {ds : List D} {vs : List V}, Rs K (GF B (mset σ ρ) B.H0 f) H ds vs → Rs K (GF B (mset σ ρ) B.H0 f) H' ds vs := fun h => h.mono (kk.weak fun _ g => g.1) fun _ _ g => g
  have r1 : ∀ {f : Fr} {d : D} {v : V}, R K (GF B (mset σ ρ) B.H0 f) H d v → R K (GF B (mset σ ρ) B.H0 f) H' d v := fun h => h.mono (kk.weak fun _ g => g.1) fun _ _ g => g
  refine ⟨⟨by rw [List.length_set]; exact k.len, fun a h => dm a (k.dom a h), fun a h => dm a (k.av a h), fun a u h q => ?_, fun j u ej => ?_, fun j1 j2 s1 s2 a e1 m1 e2 m2 z1 z2 => ?_⟩, ⟨kk, dm, fun a z => by rw [mm] at z; exact z⟩⟩
  · have z : a ≠ p := fun z => by
      subst z
      rcases hp with hp | hp
      · exact q hp
      · rw [h] at hp; cases hp
    exact kp a u (k.ext a u h q) (.inl z)
  · rw [mm]
    by_cases hj : i = j
    · subst hj
      rw [List.getElem?_set_self hi] at ej
      cases ej
      exact hs
    · rw [List.getElem?_set_ne hj] at ej
      have q := k.sl j u ej
      have ap : ∀ {p' : Addr}, σ[j]? = some (some (.ref p')) → u.isM = true → p' ≠ p := fun {p'} z w y => by subst y; exact hj (k.inj i j t u p' e m ej w ep z)
      cases u with
      | no => exact True.intro
      | val d f => obtain ⟨v, e1, e2⟩ := q; exact ⟨v, e1, r1 e2⟩
      | ml ds f => obtain ⟨p', vs, e1, e2, e3, e4⟩ := q; exact ⟨p', vs, e1, kp _ _ e2 (.inl (ap e1 rfl)), rs e3, e4⟩
      | mp n ds => obtain ⟨p', vs, e1, e2, e3, e4⟩ := q; exact ⟨p', vs, e1, kp _ _ e2 (.inl (ap e1 rfl)), e3.mono (kk.weak fun _ g => g.elim) fun _ _ g => g, e4⟩
      | md ks ds f => obtain ⟨p', vs, e1, e2, e0, e3, e4⟩ := q; exact ⟨p', vs, e1, kp _ _ e2 (.inl (ap e1 rfl)), e0, rs e3, e4⟩
      | mt ks ds f => obtain ⟨p', vs, e1, e2, e0, e3, e4⟩ := q; exact ⟨p', vs, e1, kp _ _ e2 (.inl (ap e1 rfl)), e0, rs e3, e4⟩
  · have f : ∀ {j : Nat} {u : Sl}, (ρ.set i s)[j]? = some u → u.isM = true → ∃ w : Sl, ρ[j]? = some w ∧ w.isM = true := fun {j u} ej mj => by
      by_cases hj : i = j
      · subst hj; exact ⟨t, e, m⟩
      · rw [List.getElem?_set_ne hj] at ej; exact ⟨u, ej, mj⟩
    obtain ⟨u1, q1, w1⟩ := f e1 m1
    obtain ⟨u2, q2, w2⟩ := f e2 m2
    exact k.inj j1 j2 u1 u2 a q1 w1 q2 w2 z1 z2
theorem Ok.mut {K : PySem.W.Frag} {B : Bx} {H : Hp} {σ : L2.St} {ρ : En} {i : Nat} {t : Sl} {p : Addr} {o : HO} (k : Ok K B H σ ρ) (e : ρ[i]? = some t) (m : t.isM = true) (ep : σ[i]? = some (some (.ref p))) (ho : H p = some o) : ¬ Im o := fun z => by
  have q := k.sl i t e
  cases t with
  | no => cases m
  | val d f => cases m
  | ml ds f => obtain ⟨p', vs, e1, e2, _⟩ := q; rw [ep] at e1; cases e1; rw [ho] at e2; cases e2; exact z
  | mp n ds => obtain ⟨p', vs, e1, e2, _⟩ := q; rw [ep] at e1; cases e1; rw [ho] at e2; cases e2; exact z
  | md ks ds f => obtain ⟨p', vs, e1, e2, _⟩ := q; rw [ep] at e1; cases e1; rw [ho] at e2; cases e2; exact z
  | mt ks ds f => obtain ⟨p', vs, e1, e2, _⟩ := q; rw [ep] at e1; cases e1; rw [ho] at e2; cases e2; exact z
theorem Ok.upd {K : PySem.W.Frag} {B : Bx} {H : Hp} {σ : L2.St} {ρ : En} {i : Nat} {t s : Sl} {p : Addr} {o : HO} (k : Ok K B H σ ρ) (e : ρ[i]? = some t) (m : t.isM = true) (ms : s.isM = true) (ep : σ[i]? = some (some (.ref p)))
    (hp : p ∈ B.Mp ∨ B.H0 p = none)
    (hs : Keep (fun a => a ≠ p) H (upd H p o) → SlOk K B (upd H p o) σ (mset σ ρ) i s) : Ok K B (upd H p o) σ (ρ.set i s) ∧ Stp σ H ρ (upd H p o) (ρ.set i s) := by
  have kp : Keep (fun a => a ≠ p) H (L2.upd H p o) := fun a o' h q => by
    by_cases z : a = p
    · subst z
      rcases q with q | q
      · exact absurd rfl q
      · exact absurd q (k.mut e m ep h)
    · rw [upd_ne z]; exact h
  have dm : ∀ a, H a ≠ none → L2.upd H p o a ≠ none := fun a h => by
    by_cases z : a = p
    · subst z; rw [upd_same]; exact Option.some_ne_none _
    · rw [upd_ne z]; exact h
  exact k.updG e m ms ep hp kp dm (hs kp)
theorem GF.slot {B : Bx} {M : Addr → Prop} {Hs : Hp} {f g : Fr} {a : Addr} (h : GF B M Hs g a) : GF B M B.H0 (fmin f g) a :=
  let q := GF.minR (f := f) h; ⟨q.1, q.2.1, q.2.2.1, fun z => q.2.2.1 (by rw [z]; decide)⟩
def isML : Sl → Bool
  | .ml _ _ => true
  | .mp _ _ => true
  | _ => false
/-- xs.append(e) at the slot m -/
def dApp (m : Nat) (d : TD) : TSD := fun E ρ => isML (ρ.getD m .no) = true ∧ d ρ fun r ρ1 => ∃ o, stoD r = some o ∧ match ρ1.getD m .no with
  | .ml ds f => ds.length < sizeLine ∧ E.nx (ρ1.set m (.ml (ds ++ [o.d]) (fmin f (fup o.f o.d))))
  | .mp n ds => ds.length < sizeLine ∧ nol o.d = true ∧ E.nx (ρ1.set m (.mp n (ds ++ [o.d])))
  | _ => False
/-- xs[i] = e at the slot m -/
def dSetI (m : Nat) (d di : TD) : TSD := fun E ρ => d ρ fun r ρ1 => isML (ρ1.getD m .no) = true ∧ ∃ o, stoD r = some o ∧ di ρ1 fun ri ρ2 => ∃ i, (ob ρ2 ri).d = .int i ∧ match ρ2.getD m .no with
  | .ml ds f => ∃ j, ixN ds.length i = some j ∧ E.nx (ρ2.set m (.ml (ds.set j o.d) (fmin f (fup o.f o.d))))
  | .mp n ds => ∃ j, ixN ds.length i = some j ∧ nol o.d = true ∧ E.nx (ρ2.set m (.mp n (ds.set j o.d)))
  | _ => False
section
variable {K : PySem.W.Frag}
theorem mslot {B : Bx} {H : Hp} {σ : L2.St} {ρ : En} {m : Nat} (k : Ok K B H σ ρ) (h : isML (ρ.getD m .no) = true) : ∃ p vs, σ[m]? = some (some (.ref p)) ∧ H p = some (.lst vs) := by
  cases es : ρ.getD m .no with
  | ml ds f => obtain ⟨p, vs, e1, e2, _⟩ := k.sl m _ (getD_some es (by simp)); exact ⟨p, vs, e1, e2⟩
  | mp n ds => obtain ⟨p, vs, e1, e2, _⟩ := k.sl m _ (getD_some es (by simp)); exact ⟨p, vs, e1, e2⟩
  | no => rw [es] at h; cases h
  | val d f => rw [es] at h; cases h
  | md ks ds f => rw [es] at h; cases h
  | mt ks ds f => rw [es] at h; cases h
theorem evs_app {m : Nat} {te : TE} {d : TD} (h : Ev1 K te d) : EvS K (tDrop (tBM K "list" rAppend (tVar m) (tCons te tNil))) (dApp m d) := fun B σ H ρ E D' k ⟨hm, q⟩ l => by
  obtain ⟨p, vs0, ep, hp0⟩ := mslot k hm
  refine (?_ : tDrop (tBM K "list" rAppend (tVar m) (tCons te tNil)) D' σ H)
  exact ⟨.ref p, ep, Or.inl ⟨rfl, vs0, SqL.of hp0⟩, h B σ H ρ _ _ k q fun v H1 r ρ1 k1 s1 n1 e1 ⟨o, eo, q1⟩ => by
      have ro := (e1.rg k.dom).sto eo
      cases es : ρ1.getD m .no with
      | ml ds f =>
        rw [es] at q1
        have e' := getD_some es (by simp)
        obtain ⟨p', vs, ep', hp, rs, h0, av⟩ := k1.sl m _ e'
        rw [ep] at ep'; cases ep'
        obtain ⟨hz, q1⟩ := q1
        obtain ⟨o1, o2⟩ := k1.upd (o := .lst (vs ++ [v])) (s := .ml (ds ++ [o.d]) (fmin f (fup o.f o.d))) e' rfl rfl ep (.inr h0) fun kp =>
          ⟨p, _, ep, upd_same, (rs.mono (kp.weak fun a g z => g.1 (z ▸ ⟨m, _, e', rfl, ep⟩)) fun _ _ g => g.minL).snoc (ro.up.mono (kp.weak fun a g z => g.1 (z ▸ ⟨m, _, e', rfl, ep⟩)) fun _ _ g => g.slot), h0, av⟩
        exact ⟨p, vs, v, rfl, rfl, hp, by rw [← rs.len]; exact hz, l.nx _ _ _ o1 (s1.trans o2).s q1⟩
      | mp n ds =>
        rw [es] at q1
        have e' := getD_some es (by simp)
        obtain ⟨p', vs, ep', hp, rs, h0, av⟩ := k1.sl m _ e'
        rw [ep] at ep'; cases ep'
        obtain ⟨hz, hn, q1⟩ := q1
        obtain ⟨o1, o2⟩ := k1.upd (o := .lst (vs ++ [v])) (s := .mp n (ds ++ [o.d])) e' rfl rfl ep (.inl (List.mem_of_getElem? h0)) fun kp =>
          ⟨p, _, ep, upd_same, (rs.mono (kp.weak fun a g => g.elim) fun _ _ g => g).snoc ((R.nol hn ro).mono (G := fun _ => False) (kp.weak fun a g => g.elim) fun _ _ g => g), h0, av⟩
        exact ⟨p, vs, v, rfl, rfl, hp, by rw [← rs.len]; exact hz, l.nx _ _ _ o1 (s1.trans o2).s q1⟩
      | no => rw [es] at q1; exact q1.elim
      | val d f => rw [es] at q1; exact q1.elim
      | md ks ds f => rw [es] at q1; exact q1.elim
      | mt ks ds f => rw [es] at q1; exact q1.elim⟩
theorem evs_setI {m : Nat} {te ti : TE} {d di : TD} (h : Ev1 K te d) (hi : Ev1 K ti di) : EvS K (tAsg te (gSub (tVar m) ti rSetL)) (dSetI m d di) := fun B σ H ρ E D' k q l =>
  h B σ H ρ _ _ k q fun v H1 r ρ1 k1 s1 n1 e1 ⟨hm, o, eo, q1⟩ => by
    obtain ⟨p, vs0, ep, hp0⟩ := mslot k1 hm
    refine ⟨.ref p, ep, hi B σ H1 ρ1 _ _ k1 q1 fun y H2 r2 ρ2 k2 s2 n2 e2 ⟨i, ei, q2⟩ => ?_⟩
    have ry := obR k2 k1.dom e2
    rw [ei] at ry
    obtain rfl := ry.int
    have ro := ((e1.rg k.dom).go s2 n2).sto eo
    cases es : ρ2.getD m .no with
    | ml ds f =>
      rw [es] at q2
      have e' := getD_some es (by simp)
      obtain ⟨p', vs, ep', hp, rs, h0, av⟩ := k2.sl m _ e'
      rw [ep] at ep'; cases ep'
      obtain ⟨j, ej, q2⟩ := q2
      obtain ⟨o1, o2⟩ := k2.upd (o := .lst (vs.set j v)) (s := .ml (ds.set j o.d) (fmin f (fup o.f o.d))) e' rfl rfl ep (.inr h0) fun kp =>
        ⟨p, _, ep, upd_same, (rs.mono (kp.weak fun a g z => g.1 (z ▸ ⟨m, _, e', rfl, ep⟩)) fun _ _ g => g.minL).set j (ro.up.mono (kp.weak fun a g z => g.1 (z ▸ ⟨m, _, e', rfl, ep⟩)) fun _ _ g => g.slot), h0, av⟩
      exact ⟨p, vs, i, j, rfl, rfl, hp, by rw [← rs.len]; exact ej, l.nx _ _ _ o1 ((s1.trans s2).trans o2).s q2⟩
    | mp n ds =>
      rw [es] at q2
      have e' := getD_some es (by simp)
      obtain ⟨p', vs, ep', hp, rs, h0, av⟩ := k2.sl m _ e'
      rw [ep] at ep'; cases ep'
      obtain ⟨j, ej, hn, q2⟩ := q2
      obtain ⟨o1, o2⟩ := k2.upd (o := .lst (vs.set j v)) (s := .mp n (ds.set j o.d)) e' rfl rfl ep (.inl (List.mem_of_getElem? h0)) fun kp =>
        ⟨p, _, ep, upd_same, (rs.mono (kp.weak fun a g => g.elim) fun _ _ g => g).set j ((R.nol hn ro).mono (G := fun _ => False) (kp.weak fun a g => g.elim) fun _ _ g => g), h0, av⟩
      exact ⟨p, vs, i, j, rfl, rfl, hp, by rw [← rs.len]; exact ej, l.nx _ _ _ o1 ((s1.trans s2).trans o2).s q2⟩
    | no => rw [es] at q2; exact q2.elim
    | val d f => rw [es] at q2; exact q2.elim
    | md ks ds f => rw [es] at q2; exact q2.elim
    | mt ks ds f => rw [es] at q2; exact q2.elim
end
section
variable {X : Cx} {e i : Expr} {d di : TD} {pos pos' apos p1 : Pos}
theorem ds_app {m : Nat} {x : Str} (he : DE X e d) (hN : X.N[m]? = some x := by rfl) (hv : Vis X.env.scope x := by first | exact Or.inl rfl | exact Or.inr (Or.inl rfl) | exact Or.inr (Or.inr rfl)) (hd : (x == ("__debug__" : Str)) = false := by decide) (hcd : (x == ("__classdict__" : Str)) = false := by decide)
    (hpe : ∀ {to : TE} {ta : TA}, PE X (.Name x p1) to → PA X [e] ta → PE X (.Call (.Attribute (.Name x p1) "append" apos) [e] [] pos) (tBM X.K "list" rAppend to ta) := by intro _ _ h1 h2; exact pe_bm PySem.F.plainAttrs_list PySem.F.slot_list_append PySem.F.type_list_append mt_append h1 h2)
    (hs1 : starEach [e] X.env = (false, eval e X.env) :: starEach [] X.env := by rfl) (hs : swapsWith (.Call (.Attribute (.Name x p1) "append" apos) [e] [] pos) none pos'.line X.env = pure false := by rfl) :
    DS X (.Expr (.Call (.Attribute (.Name x p1) "append" apos) [e] [] pos) pos') (dApp m d) :=
  let ⟨_, p, ev⟩ := he; ⟨_, ps_expr (hpe (pe_var hN hv hd hcd) (pa_cons p pa_nil hs1)) hs, evs_app ev⟩
theorem ds_setI {m : Nat} {x : Str} (he : DE X e d) (hi : DE X i di) (hN : X.N[m]? = some x := by rfl) (hv : Vis X.env.scope x := by first | exact Or.inl rfl | exact Or.inr (Or.inl rfl) | exact Or.inr (Or.inr rfl)) (hd : (x == ("__debug__" : Str)) = false := by decide) (hcd : (x == ("__classdict__" : Str)) = false := by decide)
    (hps : ∀ {te : TE} {g : TG}, PE X e te → PG X (.Subscript (.Name x p1) i apos) g → PS X (.Assign [.Subscript (.Name x p1) i apos] e pos) (tAsg te g) := by intro _ _ h1 h2; exact ps_asg h1 h2)
    (hpg : ∀ {to ti : TE}, PE X (.Name x p1) to → PE X i ti → PG X (.Subscript (.Name x p1) i apos) (gSub to ti rSetL) := by intro _ _ h1 h2; exact pg_sub h1 h2 set_list) :
    DS X (.Assign [.Subscript (.Name x p1) i apos] e pos) (dSetI m d di) :=
  let ⟨_, p, ev⟩ := he; let ⟨_, p2, ev2⟩ := hi; ⟨_, hps p (hpg (pe_var hN hv hd hcd) p2), evs_setI ev ev2⟩
end
end DL

namespace DL
open PySem L2

/-! ### what a def promises, on data -/
abbrev SpD := List D → (D → Prop) → Prop
/-- a def that changes nothing: its answer is new, or has no list in it -/
def spP (K : PySem.W.Frag) (sp : SpD) : Sp := fun vs H Q _ => ∃ (ds : List D) (P : D → Prop), Rs K (fun _ => True) H ds vs ∧ sp ds P ∧ ∀ d v H', P d → All H H' → R K (fun a => H a = none) H' d v → Q v H'
/-- a def that changes the list (of atoms) at its j-th parameter -/
abbrev SpT := List D → List D → (D → List D → Prop) → Prop
def spT (K : PySem.W.Frag) (j : Nat) (sp : SpT) : Sp := fun vs H Q _ => ∃ (p : Addr) (ws : List V) (es ds : List D) (P : D → List D → Prop), vs[j]? = some (.ref p) ∧ H p = some (.lst ws) ∧ Rs K (fun _ => False) H es ws ∧ Rs K (fun a => a ≠ p) H ds (vs.eraseIdx j) ∧
  sp ds es P ∧ ∀ d out v H' ws', P d out → Keep (fun a => a ≠ p) H H' → (∀ a, H a ≠ none → H' a ≠ none) → H' p = some (.lst ws') → Rs K (fun _ => False) H' out ws' → R K (fun a => H a = none) H' d v → Q v H'
/-- the def that the module's name x holds -/
structure Cal (P : Program) (w : World) (K : PySem.W.Frag) (mg : Str → Option Value) (base : Heap) (x : Str) (k : Nat) (sp : Sp) : Prop where
  ex : ∃ f fd ps, FnOk P w K mg base CX0 k f fd ps sp ∧ mg x = some (.ref f) ∧ PySem.W.keepIn K (.ref f) = true ∧ Binds K fd ps []
def dCall (sp : SpD) (t : TL) : TD := fun ρ Q => t ρ fun rs ρ1 => sp (rs.map fun r => (ob ρ1 r).d) fun d => Q (.v d .n) ρ1
def isMi (i : Nat) : Rv → Bool
  | .m j => i == j
  | _ => false
def dCallT (j : Nat) (sp : SpT) (t : TL) : TD := fun ρ Q => t ρ fun rs ρ1 => match rs.getD j (.v .non .n) with
  | .m i => (rs.eraseIdx j).all (fun r => !isMi i r) = true ∧ match ρ1.getD i .no with
    | .ml es f => nols es = true ∧ sp ((rs.eraseIdx j).map fun r => (ob ρ1 r).d) es fun d out => Q (.v d .n) (ρ1.set i (.ml out f))
    | .mp n es => sp ((rs.eraseIdx j).map fun r => (ob ρ1 r).d) es fun d out => Q (.v d .n) (ρ1.set i (.mp n out))
    | _ => False
  | _ => False
section
variable {K : PySem.W.Frag} {B : Bx} {H H' H1 Hs : Hp} {σ : L2.St} {ρ ρ' ρ1 : En} {v : V} {r : Rv}
theorem RgL.all (k : Ok K B H σ ρ) : ∀ {vs : List V} {rs : List Rv}, RgL K B Hs H σ ρ vs rs → Rs K (fun _ => True) H (rs.map fun r => (ob ρ r).d) vs
  | _, _, .nil => Rs.nil
  | _, _, .cons h t => Rs.cons (h.ro k).all (RgL.all k t)
theorem RgL.erase : ∀ {vs : List V} {rs : List Rv} (j : Nat), RgL K B Hs H σ ρ vs rs → RgL K B Hs H σ ρ (vs.eraseIdx j) (rs.eraseIdx j)
  | _, _, _, .nil => .nil
  | _, _, 0, .cons h t => t
  | _, _, j + 1, .cons h t => .cons h (RgL.erase j t)
theorem RgL.get : ∀ {vs : List V} {rs : List Rv} {j : Nat} {r : Rv}, RgL K B Hs H σ ρ vs rs → rs[j]? = some r → ∃ v, vs[j]? = some v ∧ Rg K B Hs H σ ρ v r
  | _, _, _, _, .nil, e => by simp at e
  | _, _, 0, _, .cons h t, e => by simp at e; subst e; exact ⟨_, rfl, h⟩
  | _, _, j + 1, _, .cons h t, e => by
    obtain ⟨v, h1, h2⟩ := RgL.get (j := j) t (by simpa using e)
    exact ⟨v, by simpa using h1, h2⟩
/-- away from the list of the slot i -/
theorem Rg.off {i : Nat} {s : Sl} {p : Addr} (k : Ok K B H σ ρ) (e : ρ[i]? = some s) (m : s.isM = true) (ep : σ[i]? = some (some (.ref p))) (h : Rg K B Hs H σ ρ v r) (n : isMi i r = false) : R K (fun a => a ≠ p) H (ob ρ r).d v := by
  have pm : mset σ ρ p := ⟨i, s, e, m, ep⟩
  have g : ∀ {f : Fr} {Hs : Hp} (a : Addr), H a ≠ none → GF B (mset σ ρ) Hs f a → a ≠ p := fun a _ g z => g.1 (z ▸ pm)
  cases r with
  | v d f => exact R.mono Keep.refl g h
  | nl ds f => exact R.mono Keep.refl g (show R K _ H (.lst ds) v from h)
  | nd ks ds f => exact R.mono Keep.refl g (show R K _ H (.dic ks ds) v from h)
  | nt ks ds f => exact R.mono Keep.refl g (show R K _ H (.dit ks ds) v from h)
  | m j =>
    have hij : i ≠ j := fun z => by unfold isMi at n; rw [z] at n; simp at n
    obtain ⟨ev, t, et, nt⟩ := h
    have eo : ob ρ (.m j) = obS t := by show obS (ρ.getD j .no) = _; rw [List.getD_eq_getElem?_getD, et]; rfl
    rw [eo]
    have q := k.sl j t et
    have ne : ∀ {p' : Addr}, σ[j]? = some (some (.ref p')) → t.isM = true → p' ≠ p := fun z w y => by subst y; exact hij (k.inj i j s t _ e m et w ep z)
    cases t with
    | no => exact absurd rfl nt
    | val d f => obtain ⟨w, e1, e2⟩ := q; rw [ev] at e1; cases e1; exact R.mono Keep.refl g e2
    | ml ds f => obtain ⟨p', vs, e1, e2, e3, _⟩ := q; rw [ev] at e1; cases e1; show R K _ H (.lst ds) _; unfold R; exact ⟨p', vs, rfl, e2, ne ev rfl, e3.mono Keep.refl g⟩
    | mp n ds => obtain ⟨p', vs, e1, e2, e3, _⟩ := q; rw [ev] at e1; cases e1; show R K _ H (.lst ds) _; unfold R; exact ⟨p', vs, rfl, e2, ne ev rfl, e3.mono Keep.refl fun _ _ g => g.elim⟩
    | md ks ds f => obtain ⟨p', vs, e1, e2, l, e3, _⟩ := q; rw [ev] at e1; cases e1; show R K _ H (.dic ks ds) _; unfold R; exact ⟨p', vs, rfl, e2, l, ne ev rfl, e3.mono Keep.refl g⟩
    | mt ks ds f => obtain ⟨p', vs, e1, e2, l, e3, _⟩ := q; rw [ev] at e1; cases e1; show R K _ H (.dit ks ds) _; unfold R; exact ⟨p', vs, rfl, e2, l, ne ev rfl, e3.mono Keep.refl g⟩
theorem RgL.off {i : Nat} {s : Sl} {p : Addr} (k : Ok K B H σ ρ) (e : ρ[i]? = some s) (m : s.isM = true) (ep : σ[i]? = some (some (.ref p))) : ∀ {vs : List V} {rs : List Rv}, RgL K B Hs H σ ρ vs rs → rs.all (fun r => !isMi i r) = true → Rs K (fun a => a ≠ p) H (rs.map fun r => (ob ρ r).d) vs
  | _, _, .nil, _ => Rs.nil
  | _, _, .cons h t, q => by
    rw [List.all_cons, Bool.and_eq_true] at q
    exact Rs.cons (h.off k e m ep (by simpa using q.1)) (RgL.off k e m ep t q.2)
/-- behind a call: what the callee made is new -/
theorem fresh_gf {M : Addr → Prop} {f : Fr} {a : Addr} (hd : ∀ a, B.H0 a ≠ none → Hs a ≠ none) (hh : ∀ a, Hs a ≠ none → H a ≠ none) (hm : ∀ a, M a → H a ≠ none) (hav : ∀ a ∈ B.Av, H a ≠ none) (h : H a = none) : GF B M Hs f a :=
  ⟨fun z => hm a z h, fun z => hav a z h, fun _ => fresh0 hd (none_back hh h), fun _ => none_back hh h⟩
theorem ev_call {sp : SpD} {E : XK} {ta : TA} {da : TL} (ha : EvL K ta da) : Ev1 K (tCall (spP K sp) [] E ta) (dCall sp da) := fun B σ H ρ Q Q' k q fin =>
  ha B σ H ρ _ _ k q fun vs H1 rs ρ1 k1 s1 n1 e1 q1 => by
    show spP K sp (vs ++ []) H1 Q' E
    rw [List.append_nil]
    refine ⟨_, _, e1.all k1, q1, fun d v H2 p A r => fin v H2 (.v d .n) ρ1 (k1.all A) (s1.trans A.step) n1 ?_ p⟩
    exact r.mono Keep.refl fun a _ g => fresh_gf k.dom s1.dom (fun _ m => k1.mdom m) k1.av g
theorem getD_rs {rs : List Rv} {j : Nat} {i : Nat} (h : rs.getD j (.v .non .n) = .m i) : rs[j]? = some (.m i) := by
  rw [List.getD_eq_getElem?_getD] at h
  cases e : rs[j]? with
  | none => rw [e] at h; cases h
  | some t => rw [e] at h; exact congrArg some h
theorem ev_callT {j : Nat} {sp : SpT} {E : XK} {ta : TA} {da : TL} (ha : EvL K ta da) : Ev1 K (tCall (spT K j sp) [] E ta) (dCallT j sp da) := fun B σ H ρ Q Q' k q fin =>
  ha B σ H ρ _ _ k q fun vs H1 rs ρ1 k1 s1 n1 e1 q1 => by
    show spT K j sp (vs ++ []) H1 Q' E
    rw [List.append_nil]
    cases ei : rs.getD j (.v .non .n) with
    | m i =>
      rw [ei] at q1
      obtain ⟨u, eu, ⟨eσ, s, es, ns⟩⟩ := e1.get (getD_rs ei)
      obtain ⟨hoff, q1⟩ := q1
      cases e2 : ρ1.getD i .no with
      | ml xs f =>
        rw [e2] at q1
        have e' := getD_some e2 (by simp)
        obtain ⟨p, ws, ep, hp, rw', h0, av⟩ := k1.sl i _ e'
        rw [eσ] at ep; cases ep
        have pm : mset σ ρ1 p := ⟨i, _, e', rfl, eσ⟩
        refine ⟨p, ws, xs, _, _, eu, hp, Rs.nol q1.1 rw', RgL.off k1 e' rfl eσ (e1.erase j) hoff, q1.2, fun d out v H2 ws' P kp dm hp2 ro rv => ?_⟩
        obtain ⟨o1, o2⟩ := k1.updG (s := .ml out f) e' rfl rfl eσ (.inr h0) kp dm ⟨p, ws', eσ, hp2, ro.mono Keep.refl fun _ _ g => g.elim, h0, av⟩
        exact fin v H2 (.v d .n) _ o1 (s1.trans o2) (n1.trans fun l ⟨t, et, nt⟩ => by
          by_cases hl : i = l
          · subst hl; exact ⟨_, List.getElem?_set_self (List.getElem?_eq_some_iff.mp e').1, by simp⟩
          · exact ⟨t, by rw [List.getElem?_set_ne hl]; exact et, nt⟩) (rv.mono Keep.refl fun a _ g => fresh_gf k.dom s1.dom (fun x m => k1.mdom (o2.sub x m)) k1.av g) P
      | mp n xs =>
        rw [e2] at q1
        have e' := getD_some e2 (by simp)
        obtain ⟨p, ws, ep, hp, rw', h0, av⟩ := k1.sl i _ e'
        rw [eσ] at ep; cases ep
        have pm : mset σ ρ1 p := ⟨i, _, e', rfl, eσ⟩
        refine ⟨p, ws, xs, _, _, eu, hp, rw', RgL.off k1 e' rfl eσ (e1.erase j) hoff, q1, fun d out v H2 ws' P kp dm hp2 ro rv => ?_⟩
        obtain ⟨o1, o2⟩ := k1.updG (s := .mp n out) e' rfl rfl eσ (.inl (List.mem_of_getElem? h0)) kp dm ⟨p, ws', eσ, hp2, ro, h0, av⟩
        exact fin v H2 (.v d .n) _ o1 (s1.trans o2) (n1.trans fun l ⟨t, et, nt⟩ => by
          by_cases hl : i = l
          · subst hl; exact ⟨_, List.getElem?_set_self (List.getElem?_eq_some_iff.mp e').1, by simp⟩
          · exact ⟨t, by rw [List.getElem?_set_ne hl]; exact et, nt⟩) (rv.mono Keep.refl fun a _ g => fresh_gf k.dom s1.dom (fun x m => k1.mdom (o2.sub x m)) k1.av g) P
      | no => rw [e2] at q1; exact q1.elim
      | val d f => rw [e2] at q1; exact q1.elim
      | md ks ds f => rw [e2] at q1; exact q1.elim
      | mt ks ds f => rw [e2] at q1; exact q1.elim
    | v d f => rw [ei] at q1; exact q1.elim
    | nl ds f => rw [ei] at q1; exact q1.elim
    | nd ks ds f => rw [ei] at q1; exact q1.elim
    | nt ks ds f => rw [ei] at q1; exact q1.elim
end
section
variable {X : Cx} {e : Expr} {es : List Expr} {t : TL} {x : Str} {p pos : Pos} {j k : Nat}
theorem de_call {sp : SpD} (C : Cal X.prog X.w X.K X.mg X.base x j (spP X.K sp)) (hr : Room k X.A) (hjk : j ≤ k) (ha : DA X (e :: es) t) (hg : Gl X x := by rfl) (hdb : (x == ("__debug__" : Str)) = false := by decide)
    (he : starEach (e :: es) X.env = (false, eval e X.env) :: starEach es X.env := by rfl) (hpl : (backTo pos (starEach es X.env)).any (·.1) = false := by rfl) : DE X (.Call (.Name x p) (e :: es) [] pos) (dCall sp t) := by
  obtain ⟨f, fd, ps, F, hm, hk, hb⟩ := C.ex
  obtain ⟨_, pa, ev⟩ := ha
  exact ⟨_, pe_call F (hr.mono hjk) hg hm hk hb .nil pass0 pa hdb he hpl, ev_call ev⟩
theorem de_callT {i : Nat} {sp : SpT} (C : Cal X.prog X.w X.K X.mg X.base x j (spT X.K i sp)) (hr : Room k X.A) (hjk : j ≤ k) (ha : DA X (e :: es) t) (hg : Gl X x := by rfl) (hdb : (x == ("__debug__" : Str)) = false := by decide)
    (he : starEach (e :: es) X.env = (false, eval e X.env) :: starEach es X.env := by rfl) (hpl : (backTo pos (starEach es X.env)).any (·.1) = false := by rfl) : DE X (.Call (.Name x p) (e :: es) [] pos) (dCallT i sp t) := by
  obtain ⟨f, fd, ps, F, hm, hk, hb⟩ := C.ex
  obtain ⟨_, pa, ev⟩ := ha
  exact ⟨_, pe_call F (hr.mono hjk) hg hm hk hb .nil pass0 pa hdb he hpl, ev_callT ev⟩
end

/-! ### THE RULE for a def -/
def ini (n : Nat) (ds : List D) : En := ds.map (fun d => Sl.val d .o) ++ List.replicate (n - ds.length) .no
/-- with the changed list at the place j -/
def iniT (n j : Nat) (ds es : List D) : En := (ds.map (fun d => Sl.val d .o)).take j ++ Sl.mp 0 es :: ((ds.map (fun d => Sl.val d .o)).drop j ++ List.replicate (n - ds.length - 1) .no)
section
variable {P : Program} {w : World} {K : PySem.W.Frag} {mg : Str → Option Value} {base : Heap}
theorem start_at {N : List Str} {vs : List V} {i : Nat} {v : V} (h : vs[i]? = some v) : (L2.start N vs)[i]? = some (some v) := by
  unfold L2.start
  have hi := (List.getElem?_eq_some_iff.mp h).1
  rw [List.getElem?_append_left (by rw [List.length_map]; exact hi), List.getElem?_map, h]
  rfl
theorem ini_at {n : Nat} {ds : List D} {i : Nat} {s : Sl} (h : (ini n ds)[i]? = some s) : s = .no ∨ ∃ d, ds[i]? = some d ∧ s = .val d .o := by
  unfold ini at h
  by_cases hi : i < (ds.map (fun d => Sl.val d .o)).length
  · rw [List.getElem?_append_left hi, List.getElem?_map] at h
    cases e : ds[i]? with
    | none => rw [e] at h; cases h
    | some d => rw [e] at h; exact .inr ⟨d, rfl, (Option.some.inj h).symm⟩
  · rw [List.getElem?_append_right (by omega)] at h
    exact .inl (List.eq_of_mem_replicate (List.mem_of_getElem? h))
theorem ok_ini {N : List Str} {vs : List V} {ds : List D} {H : Hp} (hn : vs.length ≤ N.length) (r : Rs K (fun _ => True) H ds vs) : Ok K ⟨H, [], []⟩ H (L2.start N vs) (ini N.length ds) := by
  have hl := r.len
  have nom : ∀ (i : Nat) (s : Sl), (ini N.length ds)[i]? = some s → s.isM = true → False := fun i s h m => by
    rcases ini_at h with rfl | ⟨d, _, rfl⟩ <;> cases m
  refine ⟨?_, fun _ h => h, fun a h => absurd h (by simp), fun _ _ h _ => h, fun i s h => ?_, fun i j s t a e1 m1 _ _ _ _ => (nom i s e1 m1).elim⟩
  · unfold ini L2.start
    rw [List.length_append, List.length_append, List.length_map, List.length_map, List.length_replicate, List.length_replicate, hl]
  · rcases ini_at h with rfl | ⟨d, e, rfl⟩
    · exact True.intro
    · obtain ⟨v, ev, rv⟩ := r.get e
      refine ⟨v, start_at ev, rv.mono Keep.refl fun a _ _ => ⟨?_, ?_, ?_, ?_⟩⟩
      · intro ⟨i, s, e, m, _⟩; exact nom i s e m
      · simp
      · intro z; exact absurd rfl z
      · intro z; cases z
theorem dfn {x qual : Str} {st : Stmt} {f : Addr} {fd : FuncData} {N ps : List Str} {k : Nat} {sp : SpD} {t : TSD} (F : Fun K x qual st f fd) (S : FnScope N ps (defScope st)) (hN : ps.length ≤ N.length) (len : ∀ ds Q, sp ds Q → ds.length = ps.length)
    (hbody : ∀ (cdv : Value) (A : Around) (outer : List Env) (s : Shared) (H : Hp) (E : XK), Room k (A.deeper (PyProof.Rows.envOfC qual (defScope st) s.heap.objs.size f cdv)) → DSs (cxOf CX0 P w K mg base N qual (defScope st) f cdv A outer s H E).nox (defBody st) t)
    (hrd : ∀ ds Q, sp ds Q → t ⟨fun _ => Q .non, fun d _ => Q d, fun _ => False, fun _ => False⟩ (ini N.length ds)) : FnOk P w K mg base CX0 (k + 1) f fd ps (spP K sp) := by
  refine F.ok S (fun vs H Q E ⟨ds, Pd, r, h, _⟩ => by rw [← r.len]; exact len ds Pd h) fun cdv A outer s H vs Q E hr ⟨ds, Pd, r, h, fin⟩ => ?_
  obtain ⟨ts, hp, ev⟩ := hbody cdv A outer s H E hr
  have hvl : vs.length = ps.length := by rw [← r.len]; exact len ds Pd h
  refine ⟨ts, hp, ev ⟨H, [], []⟩ _ _ _ _ _ (ok_ini (by omega) r) (hrd ds Pd h) ⟨fun σ' H' ρ' k s q => ?_, fun v H' σ' ρ' d k s r q => ?_, fun _ _ _ _ _ q => q, fun _ _ _ _ _ q => q⟩⟩
  · exact fin .non .non H' q (fun a o ho => k.ext a o ho (by simp)) R.n
  · exact fin d v H' q (fun a o ho => k.ext a o ho (by simp)) r
end
end DL

namespace DL
open PySem L2

/-! ### THE RULE for a def that changes the list at its place j -/
section
variable {P : Program} {w : World} {K : PySem.W.Frag} {mg : Str → Option Value} {base : Heap}
theorem iniT_at {n j : Nat} {ds es : List D} {i : Nat} {s : Sl} (hj : j ≤ ds.length) (h : (iniT n j ds es)[i]? = some s) : (i = j ∧ s = .mp 0 es) ∨ s = .no ∨ ∃ i' d, ds[i']? = some d ∧ s = .val d .o ∧ ((i' = i ∧ i < j) ∨ (i' + 1 = i ∧ j < i)) := by
  unfold iniT at h
  have ht : ((ds.map (fun d => Sl.val d .o)).take j).length = j := by rw [List.length_take, List.length_map]; omega
  by_cases h1 : i < j
  · rw [List.getElem?_append_left (by omega), List.getElem?_take_of_lt h1, List.getElem?_map] at h
    cases e : ds[i]? with
    | none => rw [e] at h; cases h
    | some d => rw [e] at h; exact .inr (.inr ⟨i, d, e, (Option.some.inj h).symm, .inl ⟨rfl, h1⟩⟩)
  · rw [List.getElem?_append_right (by omega), ht] at h
    by_cases h2 : i = j
    · subst h2
      rw [Nat.sub_self] at h
      exact .inl ⟨rfl, (Option.some.inj h).symm⟩
    · obtain ⟨m, hm⟩ : ∃ m, i - j = m + 1 := ⟨i - j - 1, by omega⟩
      rw [hm, List.getElem?_cons_succ] at h
      by_cases h3 : m < ((ds.map (fun d => Sl.val d .o)).drop j).length
      · rw [List.getElem?_append_left h3, List.getElem?_drop, List.getElem?_map] at h
        cases e : ds[j + m]? with
        | none => rw [e] at h; cases h
        | some d => rw [e] at h; exact .inr (.inr ⟨j + m, d, e, (Option.some.inj h).symm, .inr ⟨by omega, by omega⟩⟩)
      · rw [List.getElem?_append_right (by omega)] at h
        exact .inr (.inl (List.eq_of_mem_replicate (List.mem_of_getElem? h)))
theorem iniT_len {n j : Nat} {ds es : List D} (hj : j ≤ ds.length) (hn : ds.length + 1 ≤ n) : (iniT n j ds es).length = n := by
  unfold iniT
  rw [List.length_append, List.length_cons, List.length_append, List.length_take, List.length_drop, List.length_map, List.length_replicate]
  omega
theorem ok_iniT {N : List Str} {vs ws : List V} {ds es : List D} {H : Hp} {p : Addr} {j : Nat} (hn : vs.length ≤ N.length) (hp : vs[j]? = some (.ref p)) (hw : H p = some (.lst ws)) (re : Rs K (fun _ => False) H es ws) (r : Rs K (fun a => a ≠ p) H ds (vs.eraseIdx j)) :
    Ok K ⟨H, [p], []⟩ H (L2.start N vs) (iniT N.length j ds es) := by
  have hl := r.len
  have hjv : j < vs.length := (List.getElem?_eq_some_iff.mp hp).1
  rw [List.length_eraseIdx_of_lt hjv] at hl
  have hj : j ≤ ds.length := by omega
  have ism : ∀ (i : Nat) (s : Sl), (iniT N.length j ds es)[i]? = some s → s.isM = true → i = j := fun i s h m => by
    rcases iniT_at hj h with ⟨e, _⟩ | rfl | ⟨_, d, _, rfl, _⟩
    · exact e
    · cases m
    · cases m
  have hσ : (L2.start N vs)[j]? = some (some (.ref p)) := start_at hp
  have mp : ∀ a, mset (L2.start N vs) (iniT N.length j ds es) a → a = p := fun a ⟨i, s, e, m, z⟩ => by
    have := ism i s e m
    subst this
    rw [hσ] at z; cases z; rfl
  refine ⟨?_, fun _ h => h, fun a h => absurd h (by simp), fun _ _ h _ => h, fun i s h => ?_, fun i i' s t a e1 m1 e2 m2 _ _ => (ism i s e1 m1).trans (ism i' t e2 m2).symm⟩
  · rw [iniT_len hj (by omega)]
    unfold L2.start
    rw [List.length_append, List.length_map, List.length_replicate]; omega
  · rcases iniT_at hj h with ⟨rfl, rfl⟩ | rfl | ⟨i', d, e, rfl, hi⟩
    · exact ⟨p, ws, hσ, hw, re, rfl, by simp⟩
    · exact True.intro
    · obtain ⟨v, ev, rv⟩ := r.get e
      rw [List.getElem?_eraseIdx] at ev
      refine ⟨v, start_at ?_, rv.mono Keep.refl fun a _ g => ⟨?_, ?_, ?_, ?_⟩⟩
      · rcases hi with ⟨rfl, h1⟩ | ⟨rfl, h1⟩
        · rw [if_pos h1] at ev; exact ev
        · rw [if_neg (by omega)] at ev; exact ev
      · intro m; exact g (mp a m)
      · simp
      · intro z; exact absurd rfl z
      · intro z; cases z
theorem dfnT {x qual : Str} {st : Stmt} {f : Addr} {fd : FuncData} {N ps : List Str} {k j : Nat} {sp : SpT} {t : TSD} (F : Fun K x qual st f fd) (S : FnScope N ps (defScope st)) (hN : ps.length ≤ N.length) (hj : j < ps.length) (len : ∀ ds es Q, sp ds es Q → ds.length + 1 = ps.length)
    (hbody : ∀ (cdv : Value) (A : Around) (outer : List Env) (s : Shared) (H : Hp) (E : XK), Room k (A.deeper (PyProof.Rows.envOfC qual (defScope st) s.heap.objs.size f cdv)) → DSs (cxOf CX0 P w K mg base N qual (defScope st) f cdv A outer s H E).nox (defBody st) t)
    (hrd : ∀ ds es Q, sp ds es Q → t ⟨fun ρ => ∃ out, ρ[j]? = some (.mp 0 out) ∧ Q .non out, fun d ρ => ∃ out, ρ[j]? = some (.mp 0 out) ∧ Q d out, fun _ => False, fun _ => False⟩ (iniT N.length j ds es)) : FnOk P w K mg base CX0 (k + 1) f fd ps (spT K j sp) := by
  have hlen : ∀ {vs : List V} {H : Hp} {p : Addr} {ds es : List D} {Pd : D → List D → Prop}, vs[j]? = some (.ref p) → Rs K (fun a => a ≠ p) H ds (vs.eraseIdx j) → sp ds es Pd → vs.length = ps.length := fun {vs H p ds es Pd} hp r h => by
    have hl := r.len
    rw [List.length_eraseIdx_of_lt (List.getElem?_eq_some_iff.mp hp).1] at hl
    have h2 := len ds es Pd h
    have h3 := (List.getElem?_eq_some_iff.mp hp).1
    omega
  refine F.ok S (fun vs H Q E ⟨p, ws, es, ds, Pd, hp, hw, re, r, h, _⟩ => hlen hp r h) fun cdv A outer s H vs Q E hr ⟨p, ws, es, ds, Pd, hp, hw, re, r, h, fin⟩ => ?_
  obtain ⟨ts, hps, ev⟩ := hbody cdv A outer s H E hr
  have hvl := hlen hp r h
  have back : ∀ {σ' H' ρ'} {d : D} {v : V}, Ok K ⟨H, [p], []⟩ H' σ' ρ' → R K (fun a => H a = none) H' d v → (∃ out, ρ'[j]? = some (.mp 0 out) ∧ Pd d out) → Q v H' := fun {σ' H' ρ' d v} k rv ⟨out, eo, q⟩ => by
    obtain ⟨p', ws', _, hp', ro, hmp, _⟩ := k.sl j _ eo
    have : p' = p := by simpa using hmp.symm
    subst this
    refine fin d out v H' ws' q (fun a o ho g => ?_) (fun a ha => k.dom a ha) hp' ro rv
    refine k.ext a o ho fun z => ?_
    have z : a = p' := by simpa using z
    subst z
    rcases g with g | g
    · exact g rfl
    · rw [hw] at ho; cases ho; exact g
  refine ⟨ts, hps, ev ⟨H, [p], []⟩ _ _ _ _ _ (ok_iniT (by omega) hp hw re r) (hrd ds es Pd h) ⟨fun σ' H' ρ' k s q => ?_, fun v H' σ' ρ' d k s r q => ?_, fun _ _ _ _ _ q => q, fun _ _ _ _ _ q => q⟩⟩
  · exact back k R.n q
  · exact back k r q
end

/-! ### what is walked -/
def DJ (K : PySem.W.Frag) (B : Bx) (Hs H1 : Hp) (M1 : Addr → Prop) (J : It) (ds : List D) (f : Fr) : Prop :=
  ∀ H, Keep (fun a => ¬ M1 a) H1 H → ∀ i, (i < ds.length → J.go i H ∧ ∀ x H', J.yld i H x H' → All H H' ∧ ∃ d, ds[i]? = some d ∧ R K (fun a => GF B M1 Hs f a ∧ H1 a ≠ none) H' d x) ∧ (ds.length ≤ i → J.stop i H)
abbrev TID := En → (List D → Fr → En → Prop) → Prop
def EvI (K : PySem.W.Frag) (wi : TI) (t : TID) : Prop := ∀ (B : Bx) (σ : L2.St) (H : Hp) (ρ : En) (Q : List D → Fr → En → Prop) (R' : It → Hp → Prop), Ok K B H σ ρ → t ρ Q →
  (∀ J H' ds f ρ', Ok K B H' σ ρ' → Stp σ H ρ H' ρ' → Kn ρ ρ' → DJ K B H H' (mset σ ρ') J ds f → Q ds f ρ' → R' J H') → wi σ H R'
def DI (X : Cx) (tg iter : Expr) (t : TID) : Prop := ∃ wi, PI X tg iter wi ∧ EvI X.K wi t
section
variable {X : Cx} {tg e : Expr} {wi wi' : TI}
theorem PI.or (h : PI X tg e wi) (h' : PI X tg e wi') : PI X tg e (fun σ H R => wi σ H R ∨ wi' σ H R) := ⟨fun pins s σ H R I q => q.elim (h.run pins s σ H R I) (h'.run pins s σ H R I)⟩
end
/-- the signs of a text -/
def signs (z : Str) : List D := z.cps.toList.map fun c => .str ⟨#[c]⟩
section
variable {K : PySem.W.Frag} {B : Bx} {H H' H1 Hs : Hp} {σ : L2.St} {ρ : En} {M1 : Addr → Prop}
theorem Rs.there {G : Addr → Prop} {H : Hp} {ds : List D} {vs : List V} (h : Rs K G H ds vs) : Rs K (fun a => G a ∧ H a ≠ none) H ds vs := h.mono Keep.refl fun _ h g => ⟨g, h⟩
theorem Rs.later {f : Fr} {ds : List D} {vs : List V} (kp : Keep (fun a => ¬ M1 a) H1 H) (h : Rs K (GF B M1 Hs f) H1 ds vs) : Rs K (fun a => GF B M1 Hs f a ∧ H1 a ≠ none) H ds vs := h.there.mono (kp.weak fun _ g => g.1.1) fun _ _ g => g
theorem R.later {f : Fr} {d : D} {v : V} (kp : Keep (fun a => ¬ M1 a) H1 H) (h : R K (GF B M1 Hs f) H1 d v) : R K (fun a => GF B M1 Hs f a ∧ H1 a ≠ none) H d v := (h.mono (G' := fun a => GF B M1 Hs f a ∧ H1 a ≠ none) Keep.refl fun _ h g => ⟨g, h⟩).mono (kp.weak fun _ g => g.1.1) fun _ _ g => g
/-- items that stand at an address that stays -/
theorem dj_of {a : Addr} {vs : List V} {ds : List D} {f : Fr} (J : It) (rs : Rs K (GF B M1 Hs f) H1 ds vs)
    (hgo : ∀ H, Keep (fun a => ¬ M1 a) H1 H → ∀ i v, vs[i]? = some v → J.go i H ∧ ∀ x H', J.yld i H x H' → H' = H ∧ x = v) (hst : ∀ H, Keep (fun a => ¬ M1 a) H1 H → ∀ i, vs.length ≤ i → J.stop i H) : DJ K B Hs H1 M1 J ds f := fun H kp i => by
  refine ⟨fun hi => ?_, fun hi => hst H kp i (by rw [← rs.len]; exact hi)⟩
  have hd : ds[i]? = some ds[i] := List.getElem?_eq_getElem hi
  obtain ⟨v, ev, rv⟩ := (rs.later kp).get hd
  obtain ⟨g1, g2⟩ := hgo H kp i v ev
  refine ⟨g1, fun x H' y => ?_⟩
  obtain ⟨rfl, rfl⟩ := g2 x H' y
  exact ⟨All.refl, _, hd, rv⟩
def listOf : D → Option (List D)
  | .lst ds => some ds
  | .fz ds => some ds
  | _ => none
/-- over a list -/
def dItL (d : TD) : TID := fun ρ Q => d ρ fun r ρ1 => match stoD r with
  | some ⟨.lst ds, f⟩ => Q ds f ρ1
  | some ⟨.fz ds, f⟩ => Q ds f ρ1
  | _ => False
theorem ev_itL {te : TE} {d : TD} (h : Ev1 K te d) : EvI K (iList K te) (dItL d) := fun B σ H ρ Q R' k q fin =>
  h B σ H ρ _ _ k q fun v H1 r ρ1 k1 s1 n1 e1 q1 => by
    have go : ∀ (a : Addr) (vs : List V) (ds : List D) (f : Fr), (∀ H, Keep (fun a => ¬ mset σ ρ1 a) H1 H → SqL K H a vs) → Rs K (GF B (mset σ ρ1) H f) H1 ds vs → Q ds f ρ1 → ∃ a', V.ref a = .ref a' ∧ (∃ xs, SqL K H1 a' xs) ∧ R' (Itl K a') H1 := fun a vs ds f sq rs q2 => by
      refine ⟨a, rfl, ⟨vs, sq H1 Keep.refl⟩, fin (Itl K a) H1 ds f ρ1 k1 s1 n1 (dj_of (a := a) _ rs (fun H2 kp i v ev => ⟨⟨vs, v, sq H2 kp, ev⟩, fun x H' ⟨e1, e2⟩ => ⟨e1, ?_⟩⟩) (fun H2 kp i hi => ⟨vs, sq H2 kp, hi⟩)) q2⟩
      have := e2 vs (sq H2 kp)
      rw [ev] at this
      exact (Option.some.inj this).symm
    cases es : stoD r with
    | none => rw [es] at q1; exact q1.elim
    | some o =>
      obtain ⟨dd, f⟩ := o
      have ro := (e1.rg k.dom).sto es
      cases dd with
      | lst ds =>
        rw [es] at q1
        unfold R at ro
        obtain ⟨a, vs, rfl, ha, ga, rs⟩ := ro
        exact go a vs ds f (fun H2 kp => SqL.of (kp a _ ha (.inl ga.1))) rs q1
      | fz ds =>
        rw [es] at q1
        unfold R at ro
        obtain ⟨a, vs, rfl, ha, rs⟩ := ro
        exact go a vs ds f (fun H2 kp => (kp.nm ha).seq) rs q1
      | _ => rw [es] at q1; exact q1.elim
/-- over a tuple -/
def dItT (d : TD) : TID := fun ρ Q => d ρ fun r ρ1 => match stoD r with
  | some ⟨.tup ds, f⟩ => Q ds f ρ1
  | _ => False
theorem ev_itT {te : TE} {d : TD} (h : Ev1 K te d) : EvI K (iTup K te) (dItT d) := fun B σ H ρ Q R' k q fin =>
  h B σ H ρ _ _ k q fun v H1 r ρ1 k1 s1 n1 e1 q1 => by
    cases es : stoD r with
    | none => rw [es] at q1; exact q1.elim
    | some o =>
      obtain ⟨dd, f⟩ := o
      have ro := (e1.rg k.dom).sto es
      cases dd with
      | tup ds =>
        rw [es] at q1
        unfold R at ro
        obtain ⟨a, vs, rfl, ha, rs⟩ := ro
        refine ⟨a, rfl, ⟨vs, ha⟩, fin (Itt K a) H1 ds f ρ1 k1 s1 n1 (dj_of (a := a) _ rs (fun H2 kp i v ev => ⟨⟨vs, v, kp.tup ha, ev⟩, fun x H' ⟨e1, e2⟩ => ⟨e1, ?_⟩⟩) (fun H2 kp i hi => ⟨vs, kp.tup ha, hi⟩)) q1⟩
        have := e2 vs (kp.tup ha)
        rw [ev] at this
        exact (Option.some.inj this).symm
      | _ => rw [es] at q1; exact q1.elim
/-- over the signs of a text -/
def dItS (d : TD) : TID := fun ρ Q => d ρ fun r ρ1 => match (ob ρ1 r).d with
  | .str z => Q (signs z) .n ρ1
  | _ => False
theorem signs_rs (z : Str) {G : Addr → Prop} {H : Hp} : Rs K G H (signs z) (z.cps.toList.map fun c => V.str ⟨#[c]⟩) := by
  unfold signs
  generalize z.cps.toList = l
  induction l with
  | nil => exact Rs.nil
  | cons c r ih => exact Rs.cons R.s ih
theorem ev_itS {te : TE} {d : TD} (h : Ev1 K te d) : EvI K (iStr te) (dItS d) := fun B σ H ρ Q R' k q fin =>
  h B σ H ρ _ _ k q fun v H1 r ρ1 k1 s1 n1 e1 q1 => by
    have ro := obR k1 k.dom e1
    cases ez : (ob ρ1 r).d with
    | str z =>
      rw [ez] at ro q1
      obtain rfl := ro.str
      refine ⟨z, rfl, fin (Its z) H1 (signs z) .n ρ1 k1 s1 n1 (dj_of (a := 0) _ (signs_rs z) (fun H2 kp i v ev => ?_) (fun H2 kp i hi => ?_)) q1⟩
      · rw [List.getElem?_map] at ev
        cases ec : z.cps.toList[i]? with
        | none => rw [ec] at ev; cases ev
        | some c =>
          rw [ec] at ev
          have hi : i < z.cps.size := by have := (List.getElem?_eq_some_iff.mp ec).1; simpa using this
          refine ⟨hi, fun x H' ⟨e1, c', e2, e3⟩ => ⟨e1, ?_⟩⟩
          rw [Array.getElem?_toList] at ec
          rw [e2] at ec
          cases ec
          rw [e3]
          exact Option.some.inj ev
      · have hi : z.cps.toList.length ≤ i := by simpa using hi
        show z.cps.size ≤ i
        simpa using hi
    | _ => rw [ez] at q1; exact q1.elim
/-- range(n), range(a, b), range(a, b, c) -/
def upto (lo : Int) (n : Nat) : List D := (List.range n).map fun i => .int (lo + (i : Nat))
def dItR1 (t : TL) : TID := fun ρ Q => t ρ fun rs ρ1 => ∃ n : Int, (rs.map fun r => (ob ρ1 r).d) = [.int n] ∧ (-(2 ^ 62) ≤ n ∧ n < 2 ^ 62) ∧ Q (upto 0 n.toNat) .n ρ1
def dItR2 (t : TL) : TID := fun ρ Q => t ρ fun rs ρ1 => ∃ i j : Int, (rs.map fun r => (ob ρ1 r).d) = [.int i, .int j] ∧ (-(2 ^ 62) ≤ i ∧ i < 2 ^ 62 ∧ -(2 ^ 62) ≤ j ∧ j < 2 ^ 62) ∧ Q (upto i (j - i).toNat) .n ρ1
def steps (lo c : Int) (n : Nat) : List D := (List.range n).map fun i => .int (lo + (i : Nat) * c)
def dItR3 (t : TL) : TID := fun ρ Q => t ρ fun rs ρ1 => ∃ (i j c : Int) (n : Nat), (rs.map fun r => (ob ρ1 r).d) = [.int i, .int j, .int c] ∧ RgC i j c n ∧ Q (steps i c n) .n ρ1
theorem map_rs {G : Addr → Prop} {H : Hp} (g : Nat → Int) : ∀ l : List Nat, Rs K G H (l.map fun i => D.int (g i)) (l.map fun i => V.int (g i))
  | [] => Rs.nil
  | _ :: r => Rs.cons R.i (map_rs g r)
theorem range_map {α : Type} {g : Nat → α} {n i : Nat} {v : α} (h : ((List.range n).map g)[i]? = some v) : i < n ∧ v = g i := by
  rw [List.getElem?_map] at h
  cases e : (List.range n)[i]? with
  | none => rw [e] at h; cases h
  | some m =>
    rw [e] at h
    obtain ⟨h1, h2⟩ := List.getElem?_eq_some_iff.mp e
    rw [List.getElem_range] at h2
    rw [List.length_range] at h1
    subst h2
    exact ⟨h1, (Option.some.inj h).symm⟩
theorem ints1 {vs : List V} {n : Int} (h : Rs K (fun _ => True) H [.int n] vs) : vs = [.int n] := Rs.ints (ns := [n]) h
theorem ev_itR1 {ta : TA} {t : TL} (h : EvL K ta t) : EvI K (iRng1 ta) (dItR1 t) := fun B σ H ρ Q R' k q fin =>
  h B σ H ρ _ _ k q fun vs H1 rs ρ1 k1 s1 n1 e1 ⟨n, en, ⟨h1, h2⟩, q1⟩ => by
    have ra := e1.all k1
    rw [en] at ra
    refine ⟨n, Rs.ints (ns := [n]) ra, h1, h2, fin _ H1 _ .n ρ1 k1 s1 n1 (dj_of (a := 0) _ (map_rs (fun i => (0 : Int) + (i : Nat)) _) (fun H2 kp i v ev => ?_) (fun H2 kp i hi => ?_)) q1⟩
    · obtain ⟨e1, e2⟩ := range_map ev
      exact ⟨e1, fun x H' ⟨a, b⟩ => ⟨a, by rw [e2, b]⟩⟩
    · rw [List.length_map, List.length_range] at hi; exact hi
theorem ev_itR2 {ta : TA} {t : TL} (h : EvL K ta t) : EvI K (iRng2 ta) (dItR2 t) := fun B σ H ρ Q R' k q fin =>
  h B σ H ρ _ _ k q fun vs H1 rs ρ1 k1 s1 n1 e1 ⟨i0, j0, en, hb, q1⟩ => by
    have ra := e1.all k1
    rw [en] at ra
    refine ⟨i0, j0, Rs.ints (ns := [i0, j0]) ra, hb, fin _ H1 _ .n ρ1 k1 s1 n1 (dj_of (a := 0) _ (map_rs (fun i => i0 + (i : Nat)) _) (fun H2 kp i v ev => ?_) (fun H2 kp i hi => ?_)) q1⟩
    · obtain ⟨e1, e2⟩ := range_map ev
      exact ⟨e1, fun x H' ⟨a, b⟩ => ⟨a, by rw [e2, b]⟩⟩
    · rw [List.length_map, List.length_range] at hi; exact hi
theorem ev_itR3 {ta : TA} {t : TL} (h : EvL K ta t) : EvI K (iRng3 ta) (dItR3 t) := fun B σ H ρ Q R' k q fin =>
  h B σ H ρ _ _ k q fun vs H1 rs ρ1 k1 s1 n1 e1 ⟨i0, j0, c, m, en, hb, q1⟩ => by
    have ra := e1.all k1
    rw [en] at ra
    refine ⟨i0, j0, c, m, Rs.ints (ns := [i0, j0, c]) ra, hb, fin _ H1 _ .n ρ1 k1 s1 n1 (dj_of (a := 0) _ (map_rs (fun i => i0 + (i : Nat) * c) _) (fun H2 kp i v ev => ?_) (fun H2 kp i hi => ?_)) q1⟩
    · obtain ⟨e1, e2⟩ := range_map ev
      exact ⟨e1, fun x H' ⟨a, b⟩ => ⟨a, by rw [e2, b]⟩⟩
    · rw [List.length_map, List.length_range] at hi; exact hi
/-- reversed(a list) -/
def dItV (t : TL) : TID := fun ρ Q => t ρ fun rs ρ1 => match rs with
  | [r] => match stoD r with
    | some ⟨.lst ds, f⟩ => Q ds.reverse f ρ1
    | _ => False
  | _ => False
theorem Rs.rev {G : Addr → Prop} : ∀ {ds : List D} {vs : List V}, Rs K G H ds vs → Rs K G H ds.reverse vs.reverse
  | [], _, h => by unfold Rs at h; subst h; exact Rs.nil
  | d :: ds, _, h => by
    unfold Rs at h
    obtain ⟨v, r, rfl, h1, h2⟩ := h
    rw [List.reverse_cons, List.reverse_cons]
    exact (Rs.rev h2).snoc h1
end
end DL

namespace DL
open PySem L2
section
variable {K : PySem.W.Frag} {B : Bx} {H H' H1 Hs : Hp} {σ : L2.St} {ρ : En} {M1 : Addr → Prop}
theorem ev_itV {ta : TA} {t : TL} (h : EvL K ta t) : EvI K (iRev K ta) (dItV t) := fun B σ H ρ Q R' k q fin =>
  h B σ H ρ _ _ k q fun vs H1 rs ρ1 k1 s1 n1 e1 q1 => by
    unfold dItV at q
    cases e1 with
    | nil => exact q1.elim
    | @cons v vs r rs h1 t1 =>
      cases t1 with
      | cons _ _ => exact q1.elim
      | nil =>
        cases es : stoD r with
        | none => dsimp only at q1; rw [es] at q1; exact q1.elim
        | some o =>
          obtain ⟨dd, f⟩ := o
          have ro := h1.sto es
          cases dd with
          | lst ds =>
            dsimp only at q1
            rw [es] at q1
            unfold R at ro
            obtain ⟨a, ws, rfl, ha, ga, rs⟩ := ro
            have sq : ∀ H, Keep (fun a => ¬ mset σ ρ1 a) H1 H → SqL K H a ws := fun H2 kp => SqL.of (kp a _ ha (.inl ga.1))
            refine ⟨a, ws, rfl, SqL.of ha, fin _ H1 ds.reverse f ρ1 k1 s1 n1 (dj_of (a := a) _ rs.rev (fun H2 kp i v ev => ?_) (fun H2 kp i hi => by rw [List.length_reverse] at hi; exact hi)) q1⟩
            have hi : i < ws.length := by have := (List.getElem?_eq_some_iff.mp ev).1; rwa [List.length_reverse] at this
            rw [List.getElem?_reverse hi] at ev
            refine ⟨⟨hi, ws, v, sq H2 kp, ev⟩, fun x H' ⟨a1, a2⟩ => ⟨a1, ?_⟩⟩
            have := a2 ws (sq H2 kp)
            rw [ev] at this
            exact (Option.some.inj this).symm
          | _ => dsimp only at q1; rw [es] at q1; exact q1.elim
end
section
variable {X : Cx} {tg e a b c : Expr} {d : TD} {t : TL} {p pos : Pos}
theorem di_list (h : DE X e d) : DI X tg e (dItL d) := let ⟨_, p, ev⟩ := h; ⟨_, pi_list p, ev_itL ev⟩
theorem di_tup (h : DE X e d) : DI X tg e (dItT d) := let ⟨_, p, ev⟩ := h; ⟨_, pi_tup p, ev_itT ev⟩
theorem di_str (h : DE X e d) : DI X tg e (dItS d) := let ⟨_, p, ev⟩ := h; ⟨_, pi_str p, ev_itS ev⟩
theorem di_range1 (hm : X.mg "range" = none) (ha : DA X [a] t) (hg : Gl X "range" := by rfl) (hs : starEach [a] X.env = [(false, eval a X.env)] := by rfl) : DI X tg (.Call (.Name "range" p) [a] [] pos) (dItR1 t) := let ⟨_, pa, ev⟩ := ha; ⟨_, pi_range1 hg hm pa hs, ev_itR1 ev⟩
theorem di_range2 (hm : X.mg "range" = none) (ha : DA X [a, b] t) (hg : Gl X "range" := by rfl) (hs : starEach [a, b] X.env = [(false, eval a X.env), (false, eval b X.env)] := by rfl) (hs2 : starEach [b] X.env = [(false, eval b X.env)] := by rfl) : DI X tg (.Call (.Name "range" p) [a, b] [] pos) (dItR2 t) := let ⟨_, pa, ev⟩ := ha; ⟨_, pi_range2 hg hm pa hs hs2, ev_itR2 ev⟩
theorem di_range3 (hm : X.mg "range" = none) (ha : DA X [a, b, c] t) (hp : ∀ {ta : TA}, PA X [a, b, c] ta → PI X tg (.Call (.Name "range" p) [a, b, c] [] pos) (iRng3 ta)) : DI X tg (.Call (.Name "range" p) [a, b, c] [] pos) (dItR3 t) := let ⟨_, pa, ev⟩ := ha; ⟨_, hp pa, ev_itR3 ev⟩
theorem di_rev (hm : X.mg "reversed" = none) (ha : DA X [e] t) (hg : Gl X "reversed" := by rfl) (hs : starEach [e] X.env = [(false, eval e X.env)] := by rfl) : DI X tg (.Call (.Name "reversed" p) [e] [] pos) (dItV t) := let ⟨_, pa, ev⟩ := ha; ⟨_, pi_reversed hg hm pa hs, ev_itV ev⟩
end

/-! ### targets -/
inductive Tgt where
  | one (i : Nat)
  | tup (is : List Nat)
def gTs : List Nat → TGs
  | [] => gNil
  | i :: is => gCons (gName i) (gTs is)
def gOf (K : PySem.W.Frag) : Tgt → TG
  | .one i => gName i
  | .tup is => gTup K is.length (gTs is)
def setTs : List Nat → List D → Fr → En → Option En
  | [], [], _, ρ => some ρ
  | i :: is, d :: ds, f, ρ => if i < ρ.length then setTs is ds f (ρ.set i (.val d f)) else none
  | _, _, _, _ => none
def setT : Tgt → D → Fr → En → Option En
  | .one i, d, f, ρ => if i < ρ.length then some (ρ.set i (.val d f)) else none
  | .tup is, .tup ds, f, ρ => setTs is ds f ρ
  | _, _, _, _ => none
section
variable {K : PySem.W.Frag} {B : Bx} {H H' H1 Hs : Hp} {σ : L2.St} {ρ ρ' : En}
theorem setTs_ok : ∀ (is : List Nat) (ds : List D) (f : Fr) (σ : L2.St) (ρ ρ' : En) (vs : List V) (Q' : L2.St → Hp → Prop), Ok K B H σ ρ → Rs K (GF B (mset σ ρ) Hs f) H ds vs → setTs is ds f ρ = some ρ' →
    (∀ σ', Ok K B H σ' ρ' → SStp σ H ρ σ' H ρ' → Q' σ' H) → gTs is vs σ H Q'
  | [], [], f, σ, ρ, ρ', vs, Q', k, r, e, fin => by
    unfold Rs at r; subst r; cases e
    exact ⟨rfl, fin σ k SStp.refl⟩
  | i :: is, d :: ds, f, σ, ρ, ρ', vs, Q', k, r, e, fin => by
    unfold Rs at r
    obtain ⟨v, w, rfl, h1, h2⟩ := r
    unfold setTs at e
    by_cases hi : i < ρ.length
    · rw [if_pos hi] at e
      obtain ⟨k2, s2⟩ := k.asg hi h1
      refine ⟨v, w, rfl, ?_⟩
      refine setTs_ok is ds f _ _ ρ' w Q' k2 (h2.mono Keep.refl fun a ha g => ⟨fun z => ?_, g.2⟩) e fun σ' k3 s3 => fin σ' k3 (s2.trans s3)
      rcases s2.new a z with z | z
      · exact g.1 z
      · exact ha z
    · rw [if_neg hi] at e; cases e
  | [], _ :: _, _, _, _, _, _, _, _, _, e, _ => by cases e
  | _ :: _, [], _, _, _, _, _, _, _, _, e, _ => by cases e
theorem setT_ok {tg : Tgt} {d : D} {f : Fr} {v : V} {Q' : L2.St → Hp → Prop} (k : Ok K B H σ ρ) (r : R K (GF B (mset σ ρ) Hs f) H d v) (e : setT tg d f ρ = some ρ') (fin : ∀ σ', Ok K B H σ' ρ' → SStp σ H ρ σ' H ρ' → Q' σ' H) : gOf K tg v σ H Q' := by
  cases tg with
  | one i =>
    replace e : (if i < ρ.length then some (ρ.set i (.val d f)) else none) = some ρ' := e
    by_cases hi : i < ρ.length
    · rw [if_pos hi] at e
      cases e
      obtain ⟨k2, s2⟩ := k.asg hi r
      exact fin _ k2 s2
    · rw [if_neg hi] at e; cases e
  | tup is =>
    cases d with
    | tup ds =>
      unfold R at r
      obtain ⟨a, vs, rfl, ha, rs⟩ := r
      have hl : is.length = ds.length := by
        have : ∀ (is : List Nat) (ds : List D) (ρ : En), setTs is ds f ρ = some ρ' → is.length = ds.length := fun is => by
          induction is with
          | nil => intro ds ρ e; cases ds with
            | nil => rfl
            | cons _ _ => cases e
          | cons i is ih => intro ds ρ e; cases ds with
            | nil => cases e
            | cons d ds =>
              unfold setTs at e
              by_cases hi : i < ρ.length
              · rw [if_pos hi] at e; rw [List.length_cons, List.length_cons, ih ds _ e]
              · rw [if_neg hi] at e; cases e
        exact this is ds ρ e
      exact ⟨a, vs, rfl, ha, by rw [hl, rs.len], setTs_ok is ds f σ ρ ρ' vs Q' k rs e fin⟩
    | _ => cases e
end
section
variable {X : Cx} {pos : Pos}
def DG (X : Cx) (tg : Expr) (t : Tgt) : Prop := PG X tg (gOf X.K t)
def DGs (X : Cx) (tgs : List Expr) (is : List Nat) : Prop := PGs X tgs (gTs is)
theorem dg_name {i : Nat} {x : Str} (hN : X.N.Nodup) (hi : X.N[i]? = some x := by rfl) (hx : Loc X.env.scope x := by first | exact .inl rfl | exact .inr rfl) (hf : X.fn x = true ∨ X.env.scope.names.lookup x = some .local := by first | exact .inl rfl | exact .inr rfl | assumption) : DG X (.Name x pos) (.one i) := pg_name hN hi hx hf
theorem dgs_nil : DGs X [] [] := pgs_nil
theorem dgs_cons {i : Nat} {x : Str} {es : List Expr} {is : List Nat} (hN : X.N.Nodup) (hr : DGs X es is) (hi : X.N[i]? = some x := by rfl) (hx : Loc X.env.scope x := by first | exact .inl rfl | exact .inr rfl) (hf : X.fn x = true ∨ X.env.scope.names.lookup x = some .local := by first | exact .inl rfl | exact .inr rfl | assumption) : DGs X (.Name x pos :: es) (i :: is) := pgs_cons (pg_name hN hi hx hf) hr
theorem dg_tup {es : List Expr} {k : Nat} {is : List Nat} (hc : X.calm = true) (h : DGs X es is) (hp : ∀ {t : TGs}, PGs X es t → PG X (.Tuple es k pos) (gTup X.K is.length t)) : DG X (.Tuple es k pos) (.tup is) := hp h
end

/-! ### for, while -/
/-- the invariant I by the turn -/
def dFor (it : TID) (tg : Tgt) (b : TSD) : TSD := fun E ρ => it ρ fun ds f ρ1 => ∃ I : Nat → En → Prop, I 0 ρ1 ∧
  (∀ i d ρ2, ds[i]? = some d → I i ρ2 → ∃ ρ3, setT tg d (if f = .n then .h else f) ρ2 = some ρ3 ∧ b { E with nx := I (i + 1), ct := I (i + 1), bk := E.nx } ρ3) ∧ ∀ ρ2, I ds.length ρ2 → E.nx ρ2
def dWhile (t : TB) (b : TSD) : TSD := fun E ρ => ∃ I : Nat → En → Prop, (∃ m, I m ρ) ∧ ∀ m ρ1, I m ρ1 → t ρ1 fun c ρ2 => (c = true → b { E with nx := fun ρ' => ∃ m', m' < m ∧ I m' ρ', ct := fun ρ' => ∃ m', m' < m ∧ I m' ρ', bk := E.nx } ρ2) ∧ (c = false → E.nx ρ2)
section
variable {K : PySem.W.Frag} {B : Bx} {H H' H1 Hs : Hp} {σ : L2.St} {ρ ρ' : En}
theorem evs_for {wi : TI} {it : TID} {tg : Tgt} {ts : TS} {b : TSD} (hi : EvI K wi it) (hb : EvS K ts b) : EvS K (tFor wi (gOf K tg) ts) (dFor it tg b) := fun B σ H ρ E D' k q l =>
  hi B σ H ρ _ _ k q fun J H1 ds f ρ1 k1 s1 n1 dj ⟨I, h0, hs, hd⟩ => by
    have l1 : Lk K B σ H1 ρ1 E D' := l.go s1.s
    -- what holds between two turns
    refine ⟨fun i m σ2 H2 => m = ds.length - i ∧ i ≤ ds.length ∧ ∃ ρ2, Ok K B H2 σ2 ρ2 ∧ SStp σ H1 ρ1 σ2 H2 ρ2 ∧ I i ρ2, ⟨ds.length, by simp, Nat.zero_le _, ρ1, k1, SStp.refl, h0⟩, ?_⟩
    rintro i m σ2 H2 ⟨rfl, hil, ρ2, k2, s2, hI⟩
    obtain ⟨g1, g2⟩ := dj H2 s2.keep i
    by_cases hlt : i < ds.length
    · obtain ⟨jg, jy⟩ := g1 hlt
      refine .inr ⟨jg, fun σ' H' => i < ds.length ∧ ∃ ρ', Ok K B H' σ' ρ' ∧ SStp σ H1 ρ1 σ' H' ρ' ∧ I (i + 1) ρ', fun σ' H' ⟨_, ρ', a, b, c⟩ => ⟨ds.length - (i + 1), by omega, rfl, hlt, ρ', a, b, c⟩, fun x H3 y => ?_⟩
      obtain ⟨al, d, ed, rd⟩ := jy x H3 y
      obtain ⟨ρ3, e3, q3⟩ := hs i d ρ2 ed hI
      have k3 := k2.all al
      have a3 : SStp σ2 H2 ρ2 σ2 H3 ρ2 := (Stp.s al.step)
      have s3 := s2.trans a3
      have rd' : R K (GF B (mset σ2 ρ2) B.H0 (if f = .n then .h else f)) H3 d x := rd.mono Keep.refl fun a ha ⟨g, h1⟩ => by
        refine ⟨fun z => ?_, g.2.1, fun z => g.2.2.1 fun e => ?_, fun z => ?_⟩
        · rcases s2.new a z with z | z
          · exact g.1 z
          · exact h1 z
        · subst e; exact z rfl
        · by_cases e : f = .n
          · rw [if_pos e] at z; cases z
          · rw [if_neg e] at z; exact absurd z e
      refine setT_ok k3 rd' e3 fun σ4 k4 s4 => ?_
      have s5 := s3.trans s4
      refine hb B σ4 H3 ρ3 _ _ k4 q3 ⟨fun σ' H' ρ' k' s' q' => ⟨hlt, ρ', k', s5.trans s', q'⟩, fun v H' σ' ρ' d' k' s' r q' => l1.rt v H' σ' ρ' d' k' (s5.trans s') r q', fun σ' H' ρ' k' s' q' => l1.nx σ' H' ρ' k' (s5.trans s') q', fun σ' H' ρ' k' s' q' => ⟨hlt, ρ', k', s5.trans s', q'⟩⟩
    · have e : i = ds.length := by omega
      subst e
      exact .inl ⟨g2 (Nat.le_refl _), l1.nx σ2 H2 ρ2 k2 s2 (hd ρ2 hI)⟩
theorem evs_while {c : TT} {t : TB} {ts : TS} {b : TSD} (hc : EvT K c t) (hb : EvS K ts b) : EvS K (tWhile c ts) (dWhile t b) := fun B σ H ρ E D' k ⟨I, ⟨m0, h0⟩, hs⟩ l => by
  refine ⟨fun m σ2 H2 => ∃ ρ2, Ok K B H2 σ2 ρ2 ∧ SStp σ H ρ σ2 H2 ρ2 ∧ I m ρ2, ⟨m0, ρ, k, SStp.refl, h0⟩, ?_⟩
  rintro m σ2 H2 ⟨ρ2, k2, s2, hI⟩
  refine hc B σ2 H2 ρ2 _ _ k2 (hs m ρ2 hI) fun bb H3 ρ3 k3 s3 n3 q3 => ?_
  have s4 := s2.trans s3.s
  cases bb with
  | true =>
    refine iteT ⟨fun σ' H' => ∃ m', m' < m ∧ ∃ ρ', Ok K B H' σ' ρ' ∧ SStp σ H ρ σ' H' ρ' ∧ I m' ρ', fun σ' H' ⟨m', hm, w⟩ => ⟨m', hm, w⟩, ?_⟩
    exact hb B σ2 H3 ρ3 _ _ k3 (q3.1 rfl) ⟨fun σ' H' ρ' k' s' ⟨m', hm, q'⟩ => ⟨m', hm, ρ', k', s4.trans s', q'⟩, fun v H' σ' ρ' d' k' s' r q' => l.rt v H' σ' ρ' d' k' (s4.trans s') r q', fun σ' H' ρ' k' s' q' => l.nx σ' H' ρ' k' (s4.trans s') q', fun σ' H' ρ' k' s' ⟨m', hm, q'⟩ => ⟨m', hm, ρ', k', s4.trans s', q'⟩⟩
  | false => exact iteF (l.nx σ2 H3 ρ3 k3 s4 (q3.2 rfl))
/-- a, b = e (a tuple) -/
def dUnp (d : TD) (is : List Nat) : TSD := fun E ρ => d ρ fun r ρ1 => ∃ o ρ2, stoD r = some o ∧ setT (.tup is) o.d o.f ρ1 = some ρ2 ∧ E.nx ρ2
theorem evs_unp {te : TE} {d : TD} {is : List Nat} (h : Ev1 K te d) : EvS K (tAsg te (gOf K (.tup is))) (dUnp d is) := fun B σ H ρ E D' k q l =>
  h B σ H ρ _ _ k q fun v H1 r ρ1 k1 s1 n1 e1 ⟨o, ρ2, eo, e2, q1⟩ => setT_ok k1 ((e1.rg k.dom).sto eo) e2 fun σ' k2 s2 => l.nx σ' H1 ρ2 k2 (s1.s.trans s2) q1
end
section
variable {X : Cx} {tg iter c e : Expr} {body : List Stmt} {it : TID} {g : Tgt} {b : TSD} {t : TB} {d : TD} {pos : Pos}
theorem ds_for (hi : DI X tg iter it) (hg : DG X tg g) (hb : DSs X body b) (hf : ∀ {wi : TI} {tb : TS}, PG X tg (gOf X.K g) → PI X tg iter wi → PSs X body tb → PS X (.For tg iter body [] pos) (tFor wi (gOf X.K g) tb)) : DS X (.For tg iter body [] pos) (dFor it g b) := let ⟨_, p, ev⟩ := hi; let ⟨_, p2, ev2⟩ := hb; ⟨_, hf hg p p2, evs_for ev ev2⟩
theorem ds_while (hc : DT X c t) (hb : DSs X body b) (hf : ∀ {tc : TT} {tb : TS}, PT X c tc → PSs X body tb → PS X (.While c body [] pos) (tWhile tc tb)) : DS X (.While c body [] pos) (dWhile t b) := let ⟨_, p, ev⟩ := hc; let ⟨_, p2, ev2⟩ := hb; ⟨_, hf p p2, evs_while ev ev2⟩
theorem ds_unp {is : List Nat} (he : DE X e d) (hg : DG X tg (.tup is)) (hp : ∀ {te : TE}, PE X e te → PG X tg (gOf X.K (.tup is)) → PS X (.Assign [tg] e pos) (tAsg te (gOf X.K (.tup is))) := by intro _ h1 h2; exact ps_asg h1 h2) : DS X (.Assign [tg] e pos) (dUnp d is) := let ⟨_, p, ev⟩ := he; ⟨_, hp p hg, evs_unp ev⟩
end
end DL

namespace DL
open PySem L2

def wipeE (ρ : En) : List Nat → En
  | [] => ρ
  | v :: vs => (wipeE ρ vs).set v .no
def mergeE (ρ1 ρ2 : En) : List Nat → En
  | [] => ρ2
  | v :: vs => (mergeE ρ1 ρ2 vs).set v (ρ1.getD v .no)
section
variable {K : PySem.W.Frag} {B : Bx} {H H' H1 Hs : Hp} {σ σ' : L2.St} {ρ ρ' ρ1 ρ2 : En}
theorem set_get {α : Type} {l : List α} {i j : Nat} {x : α} : (l.set i x)[j]? = if i = j ∧ j < l.length then some x else l[j]? := by
  by_cases h : i = j
  · subst h
    by_cases hl : i < l.length
    · rw [if_pos ⟨rfl, hl⟩, List.getElem?_set_self hl]
    · rw [if_neg (fun z => hl z.2), List.getElem?_eq_none (by rw [List.length_set]; omega), List.getElem?_eq_none (by omega)]
  · rw [if_neg (fun z => h z.1), List.getElem?_set_ne h]
theorem wipeE_len : ∀ vs : List Nat, (wipeE ρ vs).length = ρ.length
  | [] => rfl
  | v :: vs => by unfold wipeE; rw [List.length_set, wipeE_len vs]
theorem wipe_get (j : Nat) : ∀ vs : List Nat, (wipe σ vs)[j]? = if j ∈ vs ∧ j < σ.length then some none else σ[j]?
  | [] => by rw [if_neg (fun z => by cases z.1)]; rfl
  | v :: vs => by
    unfold wipe
    rw [set_get, wipe_length, wipe_get j vs]
    by_cases h : v = j
    · subst h
      by_cases hl : v < σ.length
      · rw [if_pos ⟨rfl, hl⟩, if_pos ⟨List.mem_cons_self, hl⟩]
      · rw [if_neg (fun z => hl z.2), if_neg (fun z => hl z.2), if_neg (fun z => hl z.2)]
    · rw [if_neg (fun z => h z.1)]
      by_cases hm : j ∈ vs ∧ j < σ.length
      · rw [if_pos hm, if_pos ⟨List.mem_cons_of_mem _ hm.1, hm.2⟩]
      · rw [if_neg hm, if_neg (fun z => hm ⟨(List.mem_cons.mp z.1).resolve_left (fun e => h e.symm), z.2⟩)]
theorem wipeE_get (j : Nat) : ∀ vs : List Nat, (wipeE ρ vs)[j]? = if j ∈ vs ∧ j < ρ.length then some .no else ρ[j]?
  | [] => by rw [if_neg (fun z => by cases z.1)]; rfl
  | v :: vs => by
    unfold wipeE
    rw [set_get, wipeE_len, wipeE_get j vs]
    by_cases h : v = j
    · subst h
      by_cases hl : v < ρ.length
      · rw [if_pos ⟨rfl, hl⟩, if_pos ⟨List.mem_cons_self, hl⟩]
      · rw [if_neg (fun z => hl z.2), if_neg (fun z => hl z.2), if_neg (fun z => hl z.2)]
    · rw [if_neg (fun z => h z.1)]
      by_cases hm : j ∈ vs ∧ j < ρ.length
      · rw [if_pos hm, if_pos ⟨List.mem_cons_of_mem _ hm.1, hm.2⟩]
      · rw [if_neg hm, if_neg (fun z => hm ⟨(List.mem_cons.mp z.1).resolve_left (fun e => h e.symm), z.2⟩)]
theorem mergeE_len : ∀ vs : List Nat, (mergeE ρ1 ρ2 vs).length = ρ2.length
  | [] => rfl
  | v :: vs => by unfold mergeE; rw [List.length_set, mergeE_len vs]
theorem mergeE_get (j : Nat) : ∀ vs : List Nat, (mergeE ρ1 ρ2 vs)[j]? = if j ∈ vs ∧ j < ρ2.length then some (ρ1.getD j .no) else ρ2[j]?
  | [] => by rw [if_neg (fun z => by cases z.1)]; rfl
  | v :: vs => by
    unfold mergeE
    rw [set_get, mergeE_len, mergeE_get j vs]
    by_cases h : v = j
    · subst h
      by_cases hl : v < ρ2.length
      · rw [if_pos ⟨rfl, hl⟩, if_pos ⟨List.mem_cons_self, hl⟩]
      · rw [if_neg (fun z => hl z.2), if_neg (fun z => hl z.2), if_neg (fun z => hl z.2)]
    · rw [if_neg (fun z => h z.1)]
      by_cases hm : j ∈ vs ∧ j < ρ2.length
      · rw [if_pos hm, if_pos ⟨List.mem_cons_of_mem _ hm.1, hm.2⟩]
      · rw [if_neg hm, if_neg (fun z => hm ⟨(List.mem_cons.mp z.1).resolve_left (fun e => h e.symm), z.2⟩)]
theorem wipe_wipe (vs : List Nat) : wipe (wipe σ vs) vs = wipe σ vs := by
  refine List.ext_getElem? fun j => ?_
  rw [wipe_get, wipe_get, wipe_length]
  by_cases h : j ∈ vs ∧ j < σ.length
  · rw [if_pos h, if_pos h]
  · rw [if_neg h]
theorem wipe_set {i : Nat} {x : Option V} {vs : List Nat} (h : i ∈ vs) : wipe (σ.set i x) vs = wipe σ vs := by
  refine List.ext_getElem? fun j => ?_
  rw [wipe_get, wipe_get, List.length_set]
  by_cases hm : j ∈ vs ∧ j < σ.length
  · rw [if_pos hm, if_pos hm]
  · rw [if_neg hm, if_neg hm]
    by_cases e : i = j
    · subst e
      have hl : ¬ i < σ.length := fun z => hm ⟨h, z⟩
      rw [List.getElem?_eq_none (by rw [List.length_set]; omega), List.getElem?_eq_none (by omega)]
    · rw [List.getElem?_set_ne e]

/-- slots forgotten -/
theorem Ok.wipe (k : Ok K B H σ ρ) (vs : List Nat) : Ok K B H (L2.wipe σ vs) (wipeE ρ vs) ∧ ∀ a, mset (L2.wipe σ vs) (wipeE ρ vs) a → mset σ ρ a := by
  have at_ : ∀ {i : Nat} {s : Sl}, (wipeE ρ vs)[i]? = some s → s ≠ .no → ρ[i]? = some s ∧ (L2.wipe σ vs)[i]? = σ[i]? := fun {i s} e n => by
    rw [wipeE_get] at e
    by_cases h : i ∈ vs ∧ i < ρ.length
    · rw [if_pos h] at e; cases e; exact absurd rfl n
    · rw [if_neg h] at e
      rw [wipe_get, ← k.len, if_neg h]
      exact ⟨e, rfl⟩
  have sub : ∀ a, mset (L2.wipe σ vs) (wipeE ρ vs) a → mset σ ρ a := fun a ⟨i, s, e, m, z⟩ => by
    obtain ⟨e1, e2⟩ := at_ e (by intro z; rw [z] at m; cases m)
    rw [e2] at z
    exact ⟨i, s, e1, m, z⟩
  have g : ∀ {f : Fr} (a : Addr), H a ≠ none → GF B (mset σ ρ) B.H0 f a → GF B (mset (L2.wipe σ vs) (wipeE ρ vs)) B.H0 f a := fun {f} a _ q => ⟨fun z => q.1 (sub a z), q.2⟩
  refine ⟨⟨by rw [wipeE_len, wipe_length]; exact k.len, k.dom, k.av, k.ext, fun i s e => ?_, fun i j s t a e1 m1 e2 m2 z1 z2 => ?_⟩, sub⟩
  · cases s with
    | no => exact True.intro
    | val d f =>
      obtain ⟨e1, e2⟩ := at_ e (by simp)
      obtain ⟨v, q1, q2⟩ := k.sl i _ e1
      exact ⟨v, e2.trans q1, q2.mono Keep.refl g⟩
    | ml ds f =>
      obtain ⟨e1, e2⟩ := at_ e (by simp)
      obtain ⟨p, vs, q1, q2, q3, q4⟩ := k.sl i _ e1
      exact ⟨p, vs, e2.trans q1, q2, q3.mono Keep.refl g, q4⟩
    | mp n ds =>
      obtain ⟨e1, e2⟩ := at_ e (by simp)
      obtain ⟨p, vs, q1, q2⟩ := k.sl i _ e1
      exact ⟨p, vs, e2.trans q1, q2⟩
    | md ks ds f =>
      obtain ⟨e1, e2⟩ := at_ e (by simp)
      obtain ⟨p, vs, q1, q2, l, q3, q4⟩ := k.sl i _ e1
      exact ⟨p, vs, e2.trans q1, q2, l, q3.mono Keep.refl g, q4⟩
    | mt ks ds f =>
      obtain ⟨e1, e2⟩ := at_ e (by simp)
      obtain ⟨p, vs, q1, q2, l, q3, q4⟩ := k.sl i _ e1
      exact ⟨p, vs, e2.trans q1, q2, l, q3.mono Keep.refl g, q4⟩
  · obtain ⟨e3, e4⟩ := at_ e1 (by intro z; rw [z] at m1; cases m1)
    obtain ⟨e5, e6⟩ := at_ e2 (by intro z; rw [z] at m2; cases m2)
    rw [e4] at z1
    rw [e6] at z2
    exact k.inj i j s t a e3 m1 e5 m2 z1 z2
/-- what is kept clear of is written -/
theorem Ok.updAv2 {p : Addr} {o u : HO} (k : Ok K B H σ ρ) (pav : p ∈ B.Av) (hp : H p = some u) (mu : ¬ Im u) (h0 : B.H0 p = none) : Ok K B (L2.upd H p o) σ ρ := by
  have kp : Keep (fun a => a ≠ p) H (L2.upd H p o) := fun a o' h q => by
    by_cases z : a = p
    · subst z
      rcases q with q | q
      · exact absurd rfl q
      · rw [hp] at h; cases h; exact absurd q mu
    · rw [upd_ne z]; exact h
  have dm : ∀ a, H a ≠ none → L2.upd H p o a ≠ none := fun a h => by
    by_cases z : a = p
    · subst z; rw [upd_same]; exact Option.some_ne_none _
    · rw [upd_ne z]; exact h
  have gp : ∀ {f : Fr} {Hs : Hp} (a : Addr), GF B (mset σ ρ) Hs f a → a ≠ p := fun a g z => g.2.1 (z ▸ pav)
  refine ⟨k.len, fun a h => dm a (k.dom a h), fun a h => dm a (k.av a h), fun a w h q => kp a w (k.ext a w h q) (.inl fun z => ?_), fun i s e => ?_, k.inj⟩
  · subst z
    have h : B.H0 a = some w := h
    rw [h] at h0; cases h0
  · have q := k.sl i s e
    have ne : ∀ {p' : Addr}, p' ∉ B.Av → p' ≠ p := fun h z => h (z ▸ pav)
    cases s with
    | no => exact True.intro
    | val d f => obtain ⟨v, e1, e2⟩ := q; exact ⟨v, e1, e2.mono (kp.weak gp) fun _ _ g => g⟩
    | ml ds f => obtain ⟨p', vs, e1, e2, e3, e4, e5⟩ := q; exact ⟨p', vs, e1, by rw [upd_ne (ne e5)]; exact e2, e3.mono (kp.weak gp) fun _ _ g => g, e4, e5⟩
    | mp n ds => obtain ⟨p', vs, e1, e2, e3, e4, e5⟩ := q; exact ⟨p', vs, e1, by rw [upd_ne (ne e5)]; exact e2, e3.mono (kp.weak fun _ g => g.elim) fun _ _ g => g, e4, e5⟩
    | md ks ds f => obtain ⟨p', vs, e1, e2, l, e3, e4, e5⟩ := q; exact ⟨p', vs, e1, by rw [upd_ne (ne e5)]; exact e2, l, e3.mono (kp.weak gp) fun _ _ g => g, e4, e5⟩
    | mt ks ds f => obtain ⟨p', vs, e1, e2, l, e3, e4, e5⟩ := q; exact ⟨p', vs, e1, by rw [upd_ne (ne e5)]; exact e2, l, e3.mono (kp.weak gp) fun _ _ g => g, e4, e5⟩
theorem Ok.updAv {p : Addr} {o u : HO} (k : Ok K (B.add p) H σ ρ) (hp : H p = some u) (mu : ¬ Im u) (h0 : B.H0 p = none) : Ok K (B.add p) (L2.upd H p o) σ ρ := k.updAv2 List.mem_cons_self hp mu h0
/-- behind a comprehension: its own names are as they were -/
theorem Ok.merge {B1 : Bx} {vs : List Nat} (k1 : Ok K B1 H1 σ ρ1) (hB0 : B1.H0 = B.H0) (hav : ∀ a, H1 a ≠ none → a ∉ B1.Av → a ∉ B.Av) (hv : ∀ i ∈ vs, ∀ s : Sl, ρ1[i]? = some s → s.isM = false) (k2 : Ok K B H (L2.wipe σ vs) ρ2) (kp : Keep (fun a => ¬ mset σ ρ1 a) H1 H) (sub : ∀ a, mset (L2.wipe σ vs) ρ2 a → mset σ ρ1 a) :
    Ok K B H σ (mergeE ρ1 ρ2 vs) ∧ ∀ a, mset σ (mergeE ρ1 ρ2 vs) a → mset (L2.wipe σ vs) ρ2 a := by
  have hl2 : ρ2.length = σ.length := by rw [k2.len, wipe_length]
  have hl1 := k1.len
  have cs : ∀ {i : Nat} {s : Sl}, (mergeE ρ1 ρ2 vs)[i]? = some s → (i ∈ vs ∧ ρ1[i]? = some s) ∨ (¬ (i ∈ vs) ∧ ρ2[i]? = some s ∧ (L2.wipe σ vs)[i]? = σ[i]?) := fun {i s} e => by
    rw [mergeE_get] at e
    by_cases h : i ∈ vs ∧ i < ρ2.length
    · rw [if_pos h] at e
      refine .inl ⟨h.1, ?_⟩
      rw [List.getD_eq_getElem?_getD] at e
      have : i < ρ1.length := by omega
      rw [List.getElem?_eq_getElem this] at e ⊢
      exact e
    · rw [if_neg h] at e
      have hi : i < ρ2.length := (List.getElem?_eq_some_iff.mp e).1
      refine .inr ⟨fun z => h ⟨z, hi⟩, e, ?_⟩
      rw [wipe_get, if_neg (fun z => h ⟨z.1, hi⟩)]
  have sub2 : ∀ a, mset σ (mergeE ρ1 ρ2 vs) a → mset (L2.wipe σ vs) ρ2 a := fun a ⟨i, s, e, m, z⟩ => by
    rcases cs e with ⟨hi, e1⟩ | ⟨hi, e1, e2⟩
    · rw [hv i hi s e1] at m; cases m
    · exact ⟨i, s, e1, m, e2.trans z⟩
  have g1 : ∀ {f : Fr} (a : Addr), H1 a ≠ none → GF B1 (mset σ ρ1) B1.H0 f a → GF B (mset σ (mergeE ρ1 ρ2 vs)) B.H0 f a := fun {f} a ha q => ⟨fun z => q.1 (sub a (sub2 a z)), hav a ha q.2.1, fun z => hB0 ▸ q.2.2.1 z, fun z => hB0 ▸ q.2.2.2 z⟩
  have g2 : ∀ {f : Fr} (a : Addr), H a ≠ none → GF B (mset (L2.wipe σ vs) ρ2) B.H0 f a → GF B (mset σ (mergeE ρ1 ρ2 vs)) B.H0 f a := fun {f} a _ q => ⟨fun z => q.1 (sub2 a z), q.2⟩
  refine ⟨⟨by rw [mergeE_len]; exact hl2, k2.dom, k2.av, k2.ext, fun i s e => ?_, fun i j s t a e1 m1 e2 m2 z1 z2 => ?_⟩, sub2⟩
  · rcases cs e with ⟨hi, e1⟩ | ⟨hi, e1, e2⟩
    · have q := k1.sl i s e1
      cases s with
      | no => exact True.intro
      | val d f => obtain ⟨v, q1, q2⟩ := q; exact ⟨v, q1, q2.mono (kp.weak fun _ g => g.1) g1⟩
      | ml ds f => have := hv i hi _ e1; cases this
      | mp n ds => have := hv i hi _ e1; cases this
      | md ks ds f => have := hv i hi _ e1; cases this
      | mt ks ds f => have := hv i hi _ e1; cases this
    · have q := k2.sl i s e1
      cases s with
      | no => exact True.intro
      | val d f => obtain ⟨v, q1, q2⟩ := q; exact ⟨v, e2.symm.trans q1, q2.mono Keep.refl g2⟩
      | ml ds f => obtain ⟨p, ws, q1, q2, q3, q4⟩ := q; exact ⟨p, ws, e2.symm.trans q1, q2, q3.mono Keep.refl g2, q4⟩
      | mp n ds => obtain ⟨p, ws, q1, q2⟩ := q; exact ⟨p, ws, e2.symm.trans q1, q2⟩
      | md ks ds f => obtain ⟨p, ws, q1, q2, l, q3, q4⟩ := q; exact ⟨p, ws, e2.symm.trans q1, q2, l, q3.mono Keep.refl g2, q4⟩
      | mt ks ds f => obtain ⟨p, ws, q1, q2, l, q3, q4⟩ := q; exact ⟨p, ws, e2.symm.trans q1, q2, l, q3.mono Keep.refl g2, q4⟩
  · have f : ∀ {i : Nat} {s : Sl}, (mergeE ρ1 ρ2 vs)[i]? = some s → s.isM = true → σ[i]? = some (some (.ref a)) → ρ2[i]? = some s ∧ (L2.wipe σ vs)[i]? = some (some (.ref a)) := fun {i s} e m z => by
      rcases cs e with ⟨hi, e1⟩ | ⟨hi, e1, e2⟩
      · rw [hv i hi s e1] at m; cases m
      · exact ⟨e1, e2.trans z⟩
    obtain ⟨a1, a2⟩ := f e1 m1 z1
    obtain ⟨b1, b2⟩ := f e2 m2 z2
    exact k2.inj i j s t a a1 m1 b1 m2 a2 b2
end
end DL

namespace DL
open PySem L2

def Tgt.ixs : Tgt → List Nat
  | .one i => [i]
  | .tup is => is
section
variable {K : PySem.W.Frag} {B : Bx} {H H' H1 Hs : Hp} {σ σ' : L2.St} {ρ ρ' ρ1 ρ2 : En}
theorem setTs_w {us : List Nat} : ∀ (is : List Nat) (ds : List D) (f : Fr) (σ : L2.St) (ρ ρ' : En) (vs : List V) (Q' : L2.St → Hp → Prop), (∀ i ∈ is, i ∈ us) → Ok K B H σ ρ → Rs K (GF B (mset σ ρ) Hs f) H ds vs → setTs is ds f ρ = some ρ' →
    (∀ σ', Ok K B H σ' ρ' → (∀ a, mset σ' ρ' a → mset σ ρ a) → wipe σ' us = wipe σ us → Q' σ' H) → gTs is vs σ H Q'
  | [], [], f, σ, ρ, ρ', vs, Q', _, k, r, e, fin => by
    unfold Rs at r; subst r; cases e
    exact ⟨rfl, fin σ k (fun _ h => h) rfl⟩
  | i :: is, d :: ds, f, σ, ρ, ρ', vs, Q', hu, k, r, e, fin => by
    unfold Rs at r
    obtain ⟨v, w, rfl, h1, h2⟩ := r
    unfold setTs at e
    by_cases hi : i < ρ.length
    · rw [if_pos hi] at e
      obtain ⟨k2, s2⟩ := k.asg hi h1
      have sub : ∀ a, mset (σ.set i (some v)) (ρ.set i (.val d f)) a → mset σ ρ a := fun a z => (s2.new a z).resolve_right (k2.mdom z)
      refine ⟨v, w, rfl, ?_⟩
      refine setTs_w is ds f _ _ ρ' w Q' (fun j hj => hu j (List.mem_cons_of_mem _ hj)) k2 (h2.mono Keep.refl fun a ha g => ⟨fun z => g.1 (sub a z), g.2⟩) e fun σ' k3 s3 w3 => fin σ' k3 (fun a z => sub a (s3 a z)) ?_
      rw [w3]
      exact wipe_set (hu i List.mem_cons_self)
    · rw [if_neg hi] at e; cases e
  | [], _ :: _, _, _, _, _, _, _, _, _, _, e, _ => by cases e
  | _ :: _, [], _, _, _, _, _, _, _, _, _, e, _ => by cases e
theorem setT_w {us : List Nat} {tg : Tgt} {d : D} {f : Fr} {v : V} {Q' : L2.St → Hp → Prop} (hu : ∀ i ∈ tg.ixs, i ∈ us) (k : Ok K B H σ ρ) (r : R K (GF B (mset σ ρ) Hs f) H d v) (e : setT tg d f ρ = some ρ')
    (fin : ∀ σ', Ok K B H σ' ρ' → (∀ a, mset σ' ρ' a → mset σ ρ a) → wipe σ' us = wipe σ us → Q' σ' H) : gOf K tg v σ H Q' := by
  cases tg with
  | one i =>
    replace e : (if i < ρ.length then some (ρ.set i (.val d f)) else none) = some ρ' := e
    by_cases hi : i < ρ.length
    · rw [if_pos hi] at e
      cases e
      obtain ⟨k2, s2⟩ := k.asg hi r
      exact fin _ k2 (fun a z => (s2.new a z).resolve_right (k2.mdom z)) (wipe_set (hu i (by simp [Tgt.ixs])))
    · rw [if_neg hi] at e; cases e
  | tup is =>
    cases d with
    | tup ds =>
      unfold R at r
      obtain ⟨a, vs, rfl, ha, rs⟩ := r
      have hl : is.length = ds.length := by
        have : ∀ (is : List Nat) (ds : List D) (ρ : En), setTs is ds f ρ = some ρ' → is.length = ds.length := fun is => by
          induction is with
          | nil => intro ds ρ e; cases ds with
            | nil => rfl
            | cons _ _ => cases e
          | cons i is ih => intro ds ρ e; cases ds with
            | nil => cases e
            | cons d ds =>
              unfold setTs at e
              by_cases hi : i < ρ.length
              · rw [if_pos hi] at e; rw [List.length_cons, List.length_cons, ih ds _ e]
              · rw [if_neg hi] at e; cases e
        exact this is ds ρ e
      exact ⟨a, vs, rfl, ha, by rw [hl, rs.len], setTs_w is ds f σ ρ ρ' vs Q' hu k rs e fin⟩
    | _ => cases e
end
def slotsOk (ρ : En) (vs : List Nat) : Bool := vs.all fun i => !(ρ.getD i .no).isM && i < ρ.length
def frLe (f g : Fr) (d : D) : Bool := fmin f g == f || nol d
/-- [elt for tg in it if test]: I by the turn, what is made so far; f: how new what is made is at least -/
def dLc (it : TID) (tg : Tgt) (tt : TB) (te : TD) (vs : List Nat) : TD := fun ρ Q => it ρ fun ds f0 ρ1 => slotsOk ρ1 vs = true ∧ ∃ (f : Fr) (I : Nat → List D → En → Prop), I 0 [] (wipeE ρ1 vs) ∧
  (∀ i d acc ρ2, ds[i]? = some d → I i acc ρ2 → ∃ ρ3, setT tg d f0 ρ2 = some ρ3 ∧ tt ρ3 fun b ρ4 => (b = true → te ρ4 fun r ρ5 => ∃ o, stoD r = some o ∧ frLe f o.f o.d = true ∧ acc.length < sizeLine ∧ I (i + 1) (acc ++ [o.d]) (wipeE ρ5 vs)) ∧ (b = false → I (i + 1) acc (wipeE ρ4 vs))) ∧
  ∀ acc ρ2, I ds.length acc ρ2 → Q (.nl acc f) (mergeE ρ1 ρ2 vs)
section
variable {K : PySem.W.Frag} {B : Bx} {H H' H1 Hs : Hp} {σ σ' : L2.St} {ρ ρ' ρ1 ρ2 : En}
theorem frLe_gf {M : Addr → Prop} {f g : Fr} {d : D} {v : V} (e : frLe f g d = true) (h : R K (GF B M Hs g) H d v) : R K (GF B M Hs f) H d v := by
  unfold frLe at e
  rw [Bool.or_eq_true] at e
  rcases e with e | e
  · have e : fmin f g = f := by simpa using e
    exact h.mono Keep.refl fun a _ q => e ▸ q.minR
  · exact R.nol e h
/-- a turn of a comprehension: what holds -/
structure LcAt (K : PySem.W.Frag) (B : Bx) (Hs H1 : Hp) (σ : L2.St) (ρ1 : En) (vs : List Nat) (Dl : Addr) (f : Fr) (acc : List D) (ρ2 : En) (H : Hp) : Prop where
  ok : Ok K (B.add Dl) H (L2.wipe σ vs) ρ2
  kp : Keep (fun a => ¬ mset σ ρ1 a) H1 H
  dm : ∀ a, H1 a ≠ none → H a ≠ none
  sub : ∀ a, mset (L2.wipe σ vs) ρ2 a → mset σ ρ1 a
  kn : ∀ i : Nat, i ∉ vs → (∃ s : Sl, ρ1[i]? = some s ∧ s ≠ .no) → ∃ s : Sl, ρ2[i]? = some s ∧ s ≠ .no
  li : ∃ vacc, H Dl = some (.lst vacc) ∧ Rs K (GF (B.add Dl) (mset (L2.wipe σ vs) ρ2) Hs f) H acc vacc
theorem ev_lc {wi : TI} {it : TID} {tg : Tgt} {ttt : TT} {tt : TB} {te : TE} {d : TD} {vs : List Nat} (hi : EvI K wi it) (htg : ∀ i ∈ tg.ixs, i ∈ vs) (ht : EvT K ttt tt) (he : Ev1 K te d) : Ev1 K (tLc wi (gOf K tg) ttt te vs) (dLc it tg tt d vs) := fun B σ H ρ Q Q' k q fin =>
  hi B σ H ρ _ _ k q fun J H1 ds f0 ρ1 k1 s1 n1 dj ⟨hso, f, I, h0, hs, hd⟩ => fun Dl hD => by
    have hv : ∀ i ∈ vs, ∀ s : Sl, ρ1[i]? = some s → s.isM = false := fun i hm s e => by
      have := List.all_eq_true.mp hso i hm
      rw [Bool.and_eq_true] at this
      have t := this.1
      rw [List.getD_eq_getElem?_getD, e] at t
      simpa using t
    have hDs : H Dl = none := none_back s1.dom hD
    have hD0 : B.H0 Dl = none := fresh0 k.dom hDs
    have hDne : ∀ {a : Addr}, H1 a ≠ none → a ≠ Dl := fun h z => h (z ▸ hD)
    have st0 : LcAt K B H H1 σ ρ1 vs Dl f [] (wipeE ρ1 vs) (upd H1 Dl (.lst [])) := by
      obtain ⟨w1, w2⟩ := (k1.clear (o := .lst []) hD).wipe vs
      refine ⟨w1, (All.new hD).keep, fun a h => (All.new hD).dom h, w2, fun i hni ⟨s, e, ns⟩ => ⟨s, ?_, ns⟩, [], upd_same, Rs.nil⟩
      rw [wipeE_get, if_neg (fun z => hni z.1)]; exact e
    refine ⟨fun i m H2 => m = ds.length - i ∧ i ≤ ds.length ∧ ∃ acc ρ2, LcAt K B H H1 σ ρ1 vs Dl f acc ρ2 H2 ∧ I i acc ρ2, ⟨ds.length, by simp, Nat.zero_le _, [], _, st0, h0⟩, ?_⟩
    rintro i m H2 ⟨rfl, hil, acc, ρ2, L, hI⟩
    obtain ⟨g1, g2⟩ := dj H2 L.kp i
    by_cases hlt : i < ds.length
    · obtain ⟨jg, jy⟩ := g1 hlt
      refine .inr ⟨jg, fun H' => i < ds.length ∧ ∃ acc ρ2, LcAt K B H H1 σ ρ1 vs Dl f acc ρ2 H' ∧ I (i + 1) acc ρ2, fun H' ⟨_, w⟩ => ⟨ds.length - (i + 1), by omega, rfl, hlt, w⟩, fun x H3 y => ?_⟩
      obtain ⟨al, dd, ed, rd⟩ := jy x H3 y
      obtain ⟨ρ3, e3, q3⟩ := hs i dd acc ρ2 ed hI
      have k3 := L.ok.all al
      have rd' : R K (GF (B.add Dl) (mset (L2.wipe σ vs) ρ2) H f0) H3 dd x := rd.mono Keep.refl fun a ha ⟨g, h1⟩ =>
        ⟨fun z => g.1 (L.sub a z), fun z => (List.mem_cons.mp z).elim (hDne h1) g.2.1, g.2.2⟩
      refine setT_w htg k3 rd' e3 fun σ4 k4 sub4 w4 => ?_
      rw [wipe_wipe] at w4
      refine ⟨w4, ht (B.add Dl) σ4 H3 ρ3 _ _ k4 q3 fun b H5 ρ4 k5 s5 n5 q5 => ?_⟩
      have dom15 : ∀ a, H1 a ≠ none → H5 a ≠ none := fun a h => s5.dom a (al.dom (L.dm a h))
      have keep15 : Keep (fun a => ¬ mset σ ρ1 a) H1 H5 := fun a o h g => by
        refine s5.keep a o (al a o (L.kp a o h g)) (g.imp (fun z w => z (L.sub a (sub4 a w))) id)
      have sub5 : ∀ a, mset σ4 ρ4 a → mset σ ρ1 a := fun a z => L.sub a (sub4 a (s5.sub a z))
      -- the list that is made, at H5
      obtain ⟨vacc, hDa, rsa⟩ := L.li
      have hDav : Dl ∈ (B.add Dl).Av := List.mem_cons_self
      have nmD : ¬ mset σ4 ρ3 Dl := fun z => k4.mav z hDav
      have hDa5 : H5 Dl = some (.lst vacc) := s5.keep Dl _ (al Dl _ hDa) (.inl nmD)
      have rs5 : Rs K (GF (B.add Dl) (mset σ4 ρ4) H f) H5 acc vacc := (rsa.all al).mono (s5.keep.weak fun a g z => g.1 (sub4 a z)) fun a _ g => ⟨fun z => g.1 (sub4 a (s5.sub a z)), g.2⟩
      have known : ∀ {ρ' : En}, Kn ρ3 ρ' → ∀ i : Nat, i ∉ vs → (∃ s : Sl, ρ1[i]? = some s ∧ s ≠ .no) → ∃ s : Sl, (wipeE ρ' vs)[i]? = some s ∧ s ≠ .no := fun {ρ'} n j hj w => by
        obtain ⟨s, e, ns⟩ := L.kn j hj w
        have e3' : ρ3[j]? = some s := by
          have gen : ∀ (is : List Nat) (ds : List D) (f : Fr) (ρ ρ' : En), (∀ i ∈ is, i ∈ vs) → setTs is ds f ρ = some ρ' → ρ'[j]? = ρ[j]? := fun is => by
            induction is with
            | nil => intro ds f ρ ρ' _ e; cases ds <;> cases e; rfl
            | cons i is ih =>
              intro ds f ρ ρ' hu e
              cases ds with
              | nil => cases e
              | cons d ds =>
                unfold setTs at e
                by_cases hi : i < ρ.length
                · rw [if_pos hi] at e
                  rw [ih ds f _ ρ' (fun l hl => hu l (List.mem_cons_of_mem _ hl)) e, List.getElem?_set_ne (fun (z : i = j) => hj (z ▸ hu i List.mem_cons_self))]
                · rw [if_neg hi] at e; cases e
          cases tg with
          | one i =>
            replace e3 : (if i < ρ2.length then some (ρ2.set i (.val dd f0)) else none) = some ρ3 := e3
            by_cases hi : i < ρ2.length
            · rw [if_pos hi] at e3
              cases e3
              rw [List.getElem?_set_ne (fun (z : i = j) => hj (z ▸ htg i (by simp [Tgt.ixs])))]; exact e
            · rw [if_neg hi] at e3; cases e3
          | tup is =>
            cases dd with
            | tup es => rw [gen is es f0 ρ2 ρ3 htg e3]; exact e
            | _ => cases e3
        obtain ⟨t, et, nt⟩ := n j ⟨s, e3', ns⟩
        exact ⟨t, by rw [wipeE_get, if_neg (fun z => hj z.1)]; exact et, nt⟩
      cases b with
      | false =>
        refine iteF ⟨hlt, acc, _, ?_, q5.2 rfl⟩
        obtain ⟨k6, sub6⟩ := k5.wipe vs
        rw [w4] at k6 sub6
        exact ⟨k6, keep15, dom15, fun a z => sub5 a (sub6 a z), known n5, vacc, hDa5, rs5.mono Keep.refl fun a _ g => ⟨fun z => g.1 (sub6 a z), g.2⟩⟩
      | true =>
        refine iteT (he (B.add Dl) σ4 H5 ρ4 _ _ k5 (q5.1 rfl) fun y H6 r ρ5 k6 s6 n6 e6 ⟨o, eo, fo, hz, q6⟩ => ?_)
        have dom16 : ∀ a, H1 a ≠ none → H6 a ≠ none := fun a h => s6.dom a (dom15 a h)
        have nmD5 : ¬ mset σ4 ρ4 Dl := fun z => k5.mav z hDav
        have hDa6 : H6 Dl = some (.lst vacc) := s6.keep Dl _ hDa5 (.inl nmD5)
        have hd5 : ∀ a, H a ≠ none → H5 a ≠ none := fun a h => dom15 a (s1.dom a h)
        have ro : R K (GF (B.add Dl) (mset σ4 ρ5) H f) H6 o.d y := frLe_gf fo ((RelR.rg (B := B.add Dl) (show ∀ a, (B.add Dl).H0 a ≠ none → H a ≠ none from k.dom) (e6.base hd5)).sto eo)
        have rs6 := Rs.step s6 rs5
        obtain ⟨k7, sub7⟩ := k6.wipe vs
        rw [w4] at k7 sub7
        have k8 := k7.updAv (o := .lst (vacc ++ [y])) hDa6 (fun z => z) hD0
        have kp8 : Keep (fun a => a ≠ Dl) H6 (upd H6 Dl (.lst (vacc ++ [y]))) := fun a u h g => by
          by_cases z : a = Dl
          · subst z
            rcases g with g | g
            · exact absurd rfl g
            · rw [hDa6] at h; cases h; exact g.elim
          · rw [upd_ne z]; exact h
        have ne : ∀ {M : Addr → Prop} {Hs : Hp} {f : Fr} (a : Addr), GF (B.add Dl) M Hs f a → a ≠ Dl := fun a g z => g.2.1 (z ▸ hDav)
        refine ⟨vacc, hDa6, by rw [← rsa.len]; exact hz, hlt, _, _, ⟨k8, ?_, ?_, fun a z => sub5 a (s6.sub a (sub7 a z)), known (n5.trans n6), vacc ++ [y], upd_same, ?_⟩, q6⟩
        · intro a u h g
          have hne : a ≠ Dl := hDne (by rw [h]; exact Option.some_ne_none _)
          rw [upd_ne hne]
          exact s6.keep a u (keep15 a u h g) (g.imp (fun z w => z (sub5 a w)) id)
        · intro a h
          rw [upd_ne (hDne h)]; exact dom16 a h
        · exact (rs6.mono (kp8.weak ne) fun a _ g => ⟨fun z => g.1 (sub7 a z), g.2⟩).snoc (ro.mono (kp8.weak ne) fun a _ g => ⟨fun z => g.1 (sub7 a z), g.2⟩)
    · have e : i = ds.length := by omega
      subst e
      refine .inl ⟨g2 (Nat.le_refl _), ?_⟩
      obtain ⟨vacc, hDa, rsa⟩ := L.li
      obtain ⟨m1, m2⟩ := k1.merge (B := B.add Dl) rfl (fun a ha g z => (List.mem_cons.mp z).elim (hDne ha) g) hv L.ok L.kp L.sub
      · have km : Ok K B H2 σ (mergeE ρ1 ρ2 vs) := m1.unclear
        have nm : ¬ mset σ (mergeE ρ1 ρ2 vs) Dl := fun z => m1.mav z List.mem_cons_self
        refine fin (.ref Dl) H2 (.nl acc f) _ km ⟨fun a o h g => L.kp a o (s1.keep a o h g) (g.imp (fun z w => z (s1.sub a w)) id), fun a h => L.dm a (s1.dom a h), fun a z => s1.sub a (L.sub a (m2 a z))⟩ (n1.trans fun j w => ?_) ?_ (hd acc ρ2 hI)
        · by_cases hj : j ∈ vs ∧ j < ρ2.length
          · obtain ⟨s, e, ns⟩ := w
            exact ⟨s, by rw [mergeE_get, if_pos hj, List.getD_eq_getElem?_getD, e]; rfl, ns⟩
          · rw [mergeE_get, if_neg hj]
            by_cases hjv : j ∈ vs
            · obtain ⟨s, e, ns⟩ := w
              have h1 := (List.getElem?_eq_some_iff.mp e).1
              have h2 : ρ2.length = ρ1.length := by rw [L.ok.len, wipe_length, k1.len]
              exact absurd ⟨hjv, by omega⟩ hj
            · exact L.kn j hjv w
        · exact ⟨Dl, vacc, rfl, hDa, hDs, nm, fun z => k1.av Dl z hD, m1, rsa.mono Keep.refl fun a _ g => ⟨fun z => g.1 (m2 a z), g.2⟩⟩
end
end DL

namespace DL
open PySem L2

def DTs (X : Cx) (ifs : List Expr) (t : TB) : Prop := ∃ tt, PTs X ifs tt ∧ EvT X.K tt t
def dYes : TB := fun ρ Q => Q true ρ
theorem dts_nil {X : Cx} : DTs X [] dYes := ⟨_, pts_nil, fun B σ H ρ Q Q' k q fin => fin true H ρ k Stp.refl Kn.refl q⟩
theorem dts_one {X : Cx} {c : Expr} {t : TB} (h : DT X c t) : DTs X [c] t := let ⟨_, p, ev⟩ := h; ⟨_, pts_one p, ev⟩
section
variable {ι : Type} {X : ι → Cx} {K : PySem.W.Frag} {e : Expr} {d : TD} {ifs : List Expr} {t : TB}
theorem DE.alls (h : ∀ i, ∃ te, PE (X i) e te ∧ Ev1 K te d) : ∃ te, (∀ i, PE (X i) e te) ∧ ((∃ _ : ι, True) → Ev1 K te d) :=
  ⟨fun σ H Q => ∀ i, Classical.choose (h i) σ H Q, fun i => ⟨fun pins s σ H Q I q => (Classical.choose_spec (h i)).1.run pins s σ H Q I (q i)⟩, fun _ B σ H ρ Q Q' k q fin i => (Classical.choose_spec (h i)).2 B σ H ρ Q Q' k q fin⟩
theorem DTs.alls (h : ∀ i, ∃ te, PTs (X i) ifs te ∧ EvT K te t) : ∃ te, (∀ i, PTs (X i) ifs te) ∧ ((∃ _ : ι, True) → EvT K te t) :=
  ⟨fun σ H Q => ∀ i, Classical.choose (h i) σ H Q, fun i => ⟨fun pins s σ H Q I q => (Classical.choose_spec (h i)).1.run pins s σ H Q I (q i)⟩, fun _ B σ H ρ Q Q' k q fin i => (Classical.choose_spec (h i)).2 B σ H ρ Q Q' k q fin⟩
end
/-- the contexts of a comprehension's block -/
structure Bk where
  s : Shared
  H : Hp
  C : Addr
  cl : List (Str × Addr)
  fp : List Addr
abbrev bk (X : Cx) (scope : Scope) (i : Bk) : Cx := X.blk i.s i.H scope (compEnvC scope i.cl i.C X.env) i.fp
section
variable {X : Cx} {elt tg iter : Expr} {ifs : List Expr} {scope : Scope} {own : List (Str × Nat)} {pos spos : Pos} {it : TID} {g : Tgt} {tt : TB} {d : TD}
theorem tests_K {X : Cx} {Y : Cx} {te : TE} {d : TD} (h : X.K = Y.K) (e : Ev1 X.K te d) : Ev1 Y.K te d := h ▸ e
theorem de_lc (hc : X.calm = true) (hN : X.N.Nodup) (hi : DI X tg iter it) (ok : BlkOk X.N X.env.scope scope own) (hix : ∀ i ∈ g.ixs, i ∈ own.map (·.2)) (hg : ∀ i, DG (bk X scope i) tg g) (ht : ∀ i, DTs (bk X scope i) ifs tt) (he : ∀ i, DE (bk X scope i) elt d)
    (hs : ∀ x, foldedSetIterable iter X.env x = pure x := by intro _; rfl) : DE X (.ListComp elt [⟨tg, iter, ifs, 0⟩] scope pos) (dLc it g tt d (own.map (·.2))) := by
  obtain ⟨wi, pi, ei⟩ := hi
  obtain ⟨te, p1, e1⟩ := DE.alls (X := bk X scope) (K := X.K) he
  obtain ⟨ttt, p2, e2⟩ := DTs.alls (X := bk X scope) (K := X.K) ht
  have w : ∃ _ : Bk, True := ⟨⟨X.s_0, fun _ => none, 0, [], []⟩, True.intro⟩
  exact ⟨_, pe_lc (g := gOf X.K g) hc hN pi ok (fun s H C cl fp => hg ⟨s, H, C, cl, fp⟩) (fun s H C cl fp => p2 ⟨s, H, C, cl, fp⟩) (fun s H C cl fp => p1 ⟨s, H, C, cl, fp⟩) hs, ev_lc ei hix (e2 w) (e1 w)⟩
theorem ds_setLc {i : Nat} {y : Str} {py : Pos} (hc : X.calm = true) (hN : X.N.Nodup) (hsw : swapsWith (.ListComp elt [⟨tg, iter, ifs, 0⟩] scope pos) (some (.Name y py)) spos.line X.env = pure true) (hi : DI X tg iter it) (ok : BlkOk X.N X.env.scope scope own) (hix : ∀ i ∈ g.ixs, i ∈ own.map (·.2)) (hg : ∀ i, DG (bk X scope i) tg g) (ht : ∀ i, DTs (bk X scope i) ifs tt) (he : ∀ i, DE (bk X scope i) elt d)
    (hy : X.N[i]? = some y := by rfl) (hyl : X.env.scope.names.lookup y = some .local := by rfl)
    (hs : ∀ x, foldedSetIterable iter X.env x = pure x := by intro _; rfl) : DS X (.Assign [.Name y py] (.ListComp elt [⟨tg, iter, ifs, 0⟩] scope pos) spos) (dAsg (dLc it g tt d (own.map (·.2))) i) := by
  obtain ⟨wi, pi, ei⟩ := hi
  obtain ⟨te, p1, e1⟩ := DE.alls (X := bk X scope) (K := X.K) he
  obtain ⟨ttt, p2, e2⟩ := DTs.alls (X := bk X scope) (K := X.K) ht
  have w : ∃ _ : Bk, True := ⟨⟨X.s_0, fun _ => none, 0, [], []⟩, True.intro⟩
  exact ⟨_, ps_setLc (g := gOf X.K g) hc hN hy hyl hsw pi ok (fun s H C cl fp => hg ⟨s, H, C, cl, fp⟩) (fun s H C cl fp => p2 ⟨s, H, C, cl, fp⟩) (fun s H C cl fp => p1 ⟨s, H, C, cl, fp⟩) hs, evs_asg (ev_lc ei hix (e2 w) (e1 w))⟩
end
end DL

namespace DL
open PySem PySem.Spec PyProof.Rows L2
section
variable {prog : Program} {w : World} {κ : Type} [DecidableEq κ] {knd : KeyKind prog w κ} {A : Around} {E : Value → Shared → Prop} {s : Shared}
/-- one pair is put into a dict -/
theorem put_ok {a : Addr} {ps : List (κ × Value)} {x : κ} {key v : Value} {Q : Unit → Shared → Prop} (hx : knd.is x key = true) (m : s.heap.DictOf knd a ps) (z : ps.length ≤ sizeLine)
    (q : ∀ h', h'.DictOf knd a (stored ps x v) → Heap.SameBut a s.heap h' → Q () { s with heap := h' }) : wpAny (model prog w) A (dictPut a (knd.hash x) key v) Q E s := by
  obtain ⟨ob, xs, n, hob, hex, hdat, hkeys, hps, hnd⟩ := m
  have hxs : xs.size ≤ sizeLine := by
    have l1 := hps.length
    rw [Array.length_toList] at l1
    omega
  have hfind : (xs.findIdx? fun e => knd.is x e.key) = ps.findIdx? fun kv => decide (kv.1 = x) := by
    rw [← hps.findIdx x]
    obtain ⟨l⟩ := xs
    simp
  unfold dictPut
  refine wpAny_bind (wpAny_dictFind_of hx hob hdat hkeys ?_)
  cases hi : xs.findIdx? fun e => knd.is x e.key with
  | some i =>
    have hany := any_of_findIdx_some (hfind ▸ hi)
    refine wpAny_updateDict hob hdat (q _ ⟨_, _, n, Heap.get?_update_self _ hob (Obj.isFreed_of_dict (Obj.data_mapDict hdat _)), hex.mapDict _, Obj.data_mapDict hdat _, hkeys.modify _ _, ?_, ?_⟩ (Heap.SameBut.update ..))
    · have hil : (xs.toList.findIdx? fun e => knd.is x e.key) = some i := by rw [← hi]; obtain ⟨l⟩ := xs; simp
      have hmod := hps.modify hnd hil v
      unfold stored
      rw [if_pos hany]
      obtain ⟨l⟩ := xs
      simpa using hmod
    · unfold stored
      rw [if_pos hany, keys_map_store]
      exact hnd
  | none =>
    have hmem : x ∉ ps.map (·.1) := not_mem_of_findIdx_none (hfind ▸ hi)
    have hany : ¬ (ps.any fun kv => decide (kv.1 = x)) = true := fun t => by
      obtain ⟨kv, h1, h2⟩ := List.any_eq_true.mp t
      exact hmem (List.mem_map.mpr ⟨kv, h1, of_decide_eq_true h2⟩)
    refine wpAny_updateDictKeys (hz := hxs) hob hdat (q _ ⟨_, _, n + 1, Heap.get?_update_self _ hob (Obj.isFreed_of_dict (Obj.data_mapDictKeys hdat _)), hex.mapDictKeys _, Obj.data_mapDictKeys hdat _, hkeys.push hx _, ?_, ?_⟩ (Heap.SameBut.update ..))
    · have happ := hps.append hx (knd.hash x) v
      unfold stored
      rw [if_neg hany]
      obtain ⟨l⟩ := xs
      simpa using happ
    · unfold stored
      rw [if_neg hany, List.map_append, List.nodup_append]
      exact ⟨hnd, by simp, fun b hb c hc e => hmem (by simp only [List.map_cons, List.map_nil, List.mem_singleton] at hc; rw [← hc, ← e]; exact hb)⟩
/-- all of another dict is put into a dict -/
theorem merge_ok {a b : Addr} {ps more : List (κ × Value)} {Q : Unit → Shared → Prop} (hne : a ≠ b) (hsys : (b == sysModules) = false) (hnr : ∀ (x : κ) (v : Value), knd.is x v = true → ∀ c, v ≠ .ref c)
    (ma : s.heap.DictOf knd a ps) (mb : s.heap.DictOf knd b more) (z : ps.length + more.length ≤ sizeLine)
    (q : ∀ h', h'.DictOf knd a (merged ps more) → Heap.SameBut a s.heap h' → Q () { s with heap := h' }) : wpAny (model prog w) A (mergeMapping a (.ref b) false) Q E s := by
  obtain ⟨oa, xa, na, hoa, hexa, hda, hka, hpa, hna⟩ := id ma
  obtain ⟨ob, xb, nb, hob, hexb, hdb, hkb, hpb, hnb⟩ := id mb
  have hlen : more.length = xb.size := by rw [← hpb.length, Array.length_toList]
  unfold mergeMapping
  refine wpAny_bind (wpAny_isInstance mb.typeIs isSubtype_dict_dict ?_)
  rw [if_pos rfl]
  refine wpAny_bind (wpAny_specialOf mb.typeIs F.slot_dict_iter.lookup ?_)
  have hq : (some (Value.builtin "dict.__iter__") == some (Value.builtin "dict.__iter__")) = true := by decide
  rw [hq]
  refine wpAny_bind (wpAny_pure ?_)
  dsimp only
  rw [if_neg (by rw [hsys]; exact Bool.false_ne_true)]
  simp only [Bool.false_eq_true, if_false]
  refine wpAny_bind (wpAny_dictEntries hoa hda ?_)
  -- the loop that puts the pairs
  have loop : wpAny (model prog w) A (do
      let es ← dictEntries b
      let ep ← dictEpoch b
      forIn (List.range es.size) PUnit.unit fun i (_ : PUnit) => (do
        let es' ← dictEntries b
        match es'[i]? with
          | some e => do
            holding [e.key, e.val] (dictPut a e.hash e.key e.val)
            let ep' ← dictEpoch b
            if (ep' != ep) = true then do
              (unsupported "dict.changed-during-merge" : Sem PUnit)
              pure (ForInStep.yield PUnit.unit)
            else pure (ForInStep.yield PUnit.unit)
          | _ => do
            (unsupported "dict.changed-during-merge" : Sem PUnit)
            pure (ForInStep.yield PUnit.unit) : Sem (ForInStep PUnit))
      pure ()) Q E s := by
    refine wpAny_bind (wpAny_dictEntries hob hdb (wpAny_bind (wpAny_dictEpoch hob hdb (wpAny_bind ?_))))
    refine wpAny_forIn_list _ (fun l _ s' => ∃ h' i, s' = { s with heap := h' } ∧ i ≤ xb.size ∧ l = (List.range xb.size).drop i ∧ h'.DictOf knd a (merged ps (more.take i)) ∧ h'.get? b = some ob ∧ Heap.SameBut a s.heap h') _ ?_ ?_ _ _
      ⟨s.heap, 0, rfl, Nat.zero_le _, rfl, ma, hob, Heap.SameBut.refl _ _⟩
    · rintro j l _ s' ⟨h', i, rfl, hi, hl, md, hb', sb⟩
      have hlt : i < xb.size := by
        refine Nat.lt_of_not_le fun t => ?_
        rw [List.drop_eq_nil_of_le (by rw [List.length_range]; exact t)] at hl
        cases hl
      have hdrop := List.drop_eq_getElem_cons (l := List.range xb.size) (i := i) (by rw [List.length_range]; exact hlt)
      rw [hdrop, List.getElem_range] at hl
      obtain ⟨rfl, rfl⟩ := List.cons.inj hl
      refine wpAny_bind (wpAny_dictEntries hb' hdb ?_)
      have hm : j < more.length := by rw [hlen]; exact hlt
      have hmj : more[j]? = some more[j] := List.getElem?_eq_getElem hm
      obtain ⟨c1, c2⟩ := hpb.get? (e := xb[j]) (by rw [Array.getElem?_toList]; exact Array.getElem?_eq_getElem hlt) hmj
      obtain ⟨x', c3, c4⟩ := hkb xb[j] (Array.getElem_mem hlt)
      have c5 : x' = more[j].1 := knd.inj _ _ _ c3 c1
      rw [Array.getElem?_eq_getElem hlt]
      dsimp only
      rw [c4, c5, c2]
      have hz : (merged ps (more.take j)).length ≤ sizeLine := by
        have l1 := merged_length_le ps (more.take j)
        have l2 : (more.take j).length ≤ more.length := by rw [List.length_take]; exact Nat.min_le_right _ _
        omega
      refine wpAny_bind (wpAny_holding (put_ok c1 md hz fun h2 md2 sb2 => ?_))
      have hb2 : h2.get? b = some ob := (sb2.2 b fun t => hne t.symm).trans hb'
      refine wpAny_bind (wpAny_dictEpoch hb2 hdb ?_)
      rw [if_neg (by simp)]
      refine wpAny_pure ⟨h2, j + 1, rfl, hlt, rfl, ?_, hb2, sb.trans sb2⟩
      rw [merged_take_succ ps more j more[j] hmj]
      exact md2
    · rintro _ s' ⟨h', i, rfl, hi, hl, md, hb', sb⟩
      have hge : xb.size ≤ i := by
        refine Nat.le_of_not_lt fun t => ?_
        have hdrop := List.drop_eq_getElem_cons (l := List.range xb.size) (i := i) (by rw [List.length_range]; exact t)
        rw [hdrop] at hl
        cases hl
      rw [List.take_of_length_le (by rw [hlen]; exact hge)] at md
      exact wpAny_pure (q h' md sb)
  split
  · refine wpAny_bind (wpAny_dictEntries hob hdb (wpAny_bind ?_))
    rw [← Array.forIn_toList]
    refine wpAny_forIn_list _ (fun l _ s' => s' = s ∧ ∀ e ∈ l, e ∈ xb.toList) _ ?_ ?_ _ _ ⟨rfl, fun _ h => h⟩
    · rintro e l _ s' ⟨rfl, hsub⟩
      obtain ⟨x', c3, _⟩ := hkb e (by simpa using hsub e List.mem_cons_self)
      have nr := hnr x' _ c3
      cases ek : e.key with
      | ref c => exact absurd ek (nr c)
      | _ => exact wpAny_pure ⟨rfl, fun y hy => hsub y (List.mem_cons_of_mem _ hy)⟩
    · rintro _ s' ⟨rfl, _⟩
      exact loop
  · exact loop
end

section
variable {X : Cx} {m k v : Expr} {pos : Pos} {tm tk tv : TE}
theorem kv_nodup {prog : Program} {w : World} {h : Heap} {a : Addr} {kvs : List (Key × V)} {vs : List (Key × Value)} (r : KV kvs vs) (d : h.DictOf (mixKind prog w) a vs) : (kvs.map (·.1)).Nodup := by
  obtain ⟨_, _, _, _, _, _, _, _, n⟩ := d
  rw [r.keys]; exact n
/-- {**m, k: v}: p the new dict, q the one that bears the pair alone -/
def tStar (tm tk tv : TE) : TE := fun σ H Q => ∀ p, H p = none → tm σ (upd H p (.dK [])) fun x H1 => H1 p = some (.dK []) ∧ ∃ a kvs, x = .ref a ∧ a ≠ p ∧ H1 a = some (.dK kvs) ∧ kvs.length ≤ 1000 ∧
  ∀ q, (upd H1 p (.dK kvs)) q = none → tPairs [(tk, tv)] σ (upd (upd H1 p (.dK kvs)) q (.dK [])) fun ps H2 => H2 p = some (.dK kvs) ∧ H2 q = some (.dK []) ∧ q ≠ p ∧ ∃ (k : Key) (v : V), ps = [(kV k, v)] ∧ Q (.ref p) (upd (upd H2 q (.dK [(k, v)])) p (.dK (putK kvs k v)))
theorem pe_star (hm : PE X m tm) (hk : PE X k tk) (hv : PE X v tv) : PE X (.Dict [none, some k] [m, v] pos) (tStar tm tk tv) := by
  refine ⟨fun pins s σ H Q I h => ?_⟩
  rw [arm_eval_Dict]
  refine wpAny_bind (wpAny_standAt ?_)
  show wpAny _ _ (dictDisplay [(none, do let x ← eval m X.env; standAt pos; pure x), (some (eval k X.env), do let x ← eval v X.env; standAt pos; pure x)]) _ _ _
  unfold dictDisplay
  dsimp only
  refine wpAny_bind ?_
  rw [List.forIn_cons]
  dsimp only
  rw [if_pos (by rfl : (([] : List (Sem Value × Sem Value)).isEmpty) = true)]
  refine wpAny_bind (wpAny_bind (wpAny_pure ?_))
  dsimp only
  refine wpAny_bind (wpAny_bind (wpAny_alloc (wpAny_pure ?_)))
  have hn := I.hok.fresh (Nat.le_refl s.heap.objs.size)
  have I1 := I.laid (a := s.heap.objs.size) (o := .dK []) (h' := s.heap.push { cls := .type "dict", data := .dict #[] }) (t' := s.toks) (fun _ _ q => Heap.get?_push_of_some _ q) (Nat.le_refl _) (dk_empty s.heap I.big)
  have h1 := h _ hn
  refine wpAny_bind (wpAny_holding (wpAny_bind (thn (hm.run pins _ σ _ _ I1 h1) fun u s1 ⟨x, H1, I2, rx, e1, a, kvs, ex, hap, e2, hz, h2⟩ => ?_)))
  subst ex
  obtain rfl : u = Value.ref a := rx
  refine wpAny_bind (wpAny_standAt (wpAny_pure ?_))
  have hne : s.heap.objs.size ≠ a := fun t => hap t.symm
  obtain ⟨zp, sp, vsp, relp, ddp⟩ := dk_of I2.hok e1
  obtain ⟨za, sa, vsa, rela, dda⟩ := dk_of I2.hok e2
  have evp : vsp = [] := by cases relp; rfl
  subst evp
  have nref : ∀ (y : Key) (u : Value), (mixKind X.prog X.w).is y u = true → ∀ c, u ≠ .ref c := fun y u hy c t => by
    subst t
    rcases keyIs_shape hy with ⟨_, _, _, t⟩ | ⟨_, _, _, t⟩ <;> cases t
  have hla := rela.length
  refine wpAny_bind (wpAny_onRaise (wpAny_tryCatch (wpAny_onRaise (wpAny_holding (merge_ok hne sa nref ddp dda (by show 0 + _ ≤ _; rw [← hla]; exact (by omega : 0 + kvs.length ≤ sizeLine)) fun h2' dd2 sb2 => ?_)))))
  rw [merged_nil_of_nodup _ (by rw [← rela.keys]; exact kv_nodup rela dda)] at dd2
  have I3 := d_write (ob := .dK kvs) (t' := s1.toks) I2 (by rw [e1]; exact True.intro) sb2 (let ⟨o, _, _, t, _⟩ := dd2; ⟨o, t⟩) (dk_new za sp rela dd2)
  refine wpAny_pure ?_
  dsimp only
  rw [List.forIn_cons]
  refine wpAny_bind ?_
  dsimp only
  rw [if_neg (by simp)]
  refine wpAny_pure ?_
  dsimp only
  rw [List.forIn_nil]
  refine wpAny_pure ?_
  dsimp only
  rw [if_neg (by simp)]
  refine wpAny_bind (wpAny_bind (wpAny_holding (wpAny_subDict (knd := mixKind X.prog X.w) (by simp) ?_)))
  have hq := I3.hok.fresh (Nat.le_refl h2'.objs.size)
  have I4 := I3.laid (a := h2'.objs.size) (o := .dK []) (h' := h2'.push { cls := .type "dict", data := .dict #[] }) (t' := s1.toks) (fun _ _ t => Heap.get?_push_of_some _ t) (Nat.le_refl _) (dk_empty h2' I3.big)
  refine thn ((pps_cons (pos := pos) hk hv pps_nil).run pins _ σ _ _ I4 (h2 _ hq)) fun ws s3 ⟨ps, H2, I5, rel, e3, e4, hqp, ky, vv, eps, qq⟩ => ?_
  subst eps
  cases rel with
  | @cons _ uz _ _ rk rt =>
    cases rt
    obtain ⟨u1, z1⟩ := uz
    obtain ⟨ru, rz⟩ := rk
    obtain ⟨zq, sq, vsq, relq, ddq⟩ := dk_of I5.hok e4
    have evq : vsq = [] := by cases relq; rfl
    subst evq
    refine ⟨[(ky, z1)], ⟨kV_is ru, rfl, True.intro⟩, ddq, fun h3 dd3 sb3 => ?_⟩
    have hkv1 : KV [(ky, vv)] [(ky, z1)] := .cons ⟨rfl, rz⟩ .nil
    have I6 := d_write (ob := .dK [(ky, vv)]) (t' := s3.toks + 1) I5 (by rw [e4]; exact True.intro) sb3 (let ⟨o, _, _, t, _⟩ := dd3; ⟨o, t⟩) (dk_new (by show 1 ≤ sizeLine; decide) sq hkv1 dd3)
    have e5 : (upd H2 h2'.objs.size (.dK [(ky, vv)])) s.heap.objs.size = some (.dK kvs) := by rw [upd_ne hqp.symm]; exact e3
    obtain ⟨zp6, sp6, vsp6, relp6, ddp6⟩ := dk_of I6.hok e5
    have hl6 := relp6.length
    refine wpAny_bind (wpAny_onRaise (wpAny_holding (merge_ok hqp.symm sq nref ddp6 dd3 (by show _ + 1 ≤ _; rw [← hl6, sizeLine_eq]; omega) fun h4 dd4 sb4 => ?_)))
    have I7 := d_write (ob := .dK (putK kvs ky vv)) (t' := s3.toks + 1) I6 (by rw [e5]; exact True.intro) sb4 (let ⟨o, _, _, t, _⟩ := dd4; ⟨o, t⟩) (dk_new (by
      have l1 := length_putK kvs ky vv
      rw [sizeLine_eq]; omega) sp6 (relp6.put ky rz) dd4)
    refine wpAny_pure ?_
    dsimp only
    exact wpAny_pure ⟨.ref s.heap.objs.size, _, I7, rfl, qq⟩
end
end DL

namespace DL
open PySem L2

/-! ### dicts whose keys are whole numbers and texts -/
def keyOf : D → Option Key
  | .int i => some (.inl i)
  | .str s => some (.inr s)
  | _ => none
def lookD {α : Type} : List Key → List α → Key → Option α
  | k :: ks, d :: ds, x => if k = x then some d else lookD ks ds x
  | _, _, _ => none
def putKs (ks : List Key) (x : Key) : List Key := if ks.any (fun k => decide (k = x)) = true then ks else ks ++ [x]
def putDs {α : Type} (ks : List Key) (ds : List α) (x : Key) (d : α) : List α := if ks.any (fun k => decide (k = x)) = true then List.zipWith (fun k y => if k = x then d else y) ks ds else ds ++ [d]
section
variable {K : PySem.W.Frag} {G : Addr → Prop} {H : Hp}
theorem keyOf_v {d : D} {v : V} {x : Key} (h : R K G H d v) (e : keyOf d = some x) : v = kV x := by
  cases d <;> cases e <;> (unfold R at h; subst h; rfl)
theorem look_v : ∀ {ks : List Key} {ds : List D} {vs : List V} {x : Key} {d : D}, Rs K G H ds vs → lookD ks ds x = some d → ∃ v, valV (ks.zip vs) x = some v ∧ R K G H d v
  | [], _, _, _, _, _, e => by cases e
  | _ :: _, [], _, _, _, _, e => by cases e
  | k :: ks, d :: ds, _, x, d', h, e => by
    unfold Rs at h
    obtain ⟨v, r, rfl, h1, h2⟩ := h
    unfold lookD at e
    by_cases hk : k = x
    · rw [if_pos hk] at e
      cases e
      exact ⟨v, by rw [List.zip_cons_cons]; exact valV_pos hk, h1⟩
    · rw [if_neg hk] at e
      obtain ⟨u, h3, h4⟩ := look_v h2 e
      exact ⟨u, by rw [List.zip_cons_cons, valV_neg hk]; exact h3, h4⟩
theorem look_none : ∀ {ks : List Key} {ds : List D} {vs : List V} {x : Key}, ks.length = vs.length → Rs K G H ds vs → lookD ks ds x = none → valV (ks.zip vs) x = none
  | [], _, _, _, _, _, _ => rfl
  | k :: ks, [], vs, _, hl, h, _ => by unfold Rs at h; subst h; cases hl
  | k :: ks, d :: ds, _, x, hl, h, e => by
    unfold Rs at h
    obtain ⟨v, r, rfl, h1, h2⟩ := h
    unfold lookD at e
    by_cases hk : k = x
    · rw [if_pos hk] at e; cases e
    · rw [if_neg hk] at e
      rw [List.zip_cons_cons, valV_neg hk]
      exact look_none (by simpa using hl) h2 e
theorem any_zip {β : Type} (x : Key) : ∀ {ks : List Key} {vs : List β}, ks.length = vs.length → ((ks.zip vs).any fun kv => decide (kv.1 = x)) = ks.any fun k => decide (k = x)
  | [], [], _ => rfl
  | k :: ks, v :: vs, h => by rw [List.zip_cons_cons, List.any_cons, List.any_cons, any_zip x (by simpa using h)]
  | [], _ :: _, h => by cases h
  | _ :: _, [], h => by cases h
theorem map_zip {β : Type} (x : Key) (y : β) : ∀ {ks : List Key} {vs : List β}, ks.length = vs.length → (ks.zip vs).map (fun kv => if kv.1 = x then (kv.1, y) else kv) = ks.zip (List.zipWith (fun k z => if k = x then y else z) ks vs)
  | [], [], _ => rfl
  | k :: ks, v :: vs, h => by
    rw [List.zip_cons_cons, List.map_cons, List.zipWith_cons_cons, List.zip_cons_cons, map_zip x y (by simpa using h)]
    by_cases hk : k = x
    · rw [if_pos hk, if_pos hk]
    · rw [if_neg hk, if_neg hk]
  | [], _ :: _, h => by cases h
  | _ :: _, [], h => by cases h
theorem put_zip {ks : List Key} {vs : List V} (x : Key) (y : V) (h : ks.length = vs.length) : putK (ks.zip vs) x y = (putKs ks x).zip (putDs ks vs x y) ∧ (putKs ks x).length = (putDs ks vs x y).length := by
  unfold putK putKs putDs
  rw [any_zip x h]
  by_cases hk : ks.any (fun k => decide (k = x)) = true
  · rw [if_pos hk, if_pos hk, if_pos hk, map_zip x y h]
    exact ⟨rfl, by rw [List.length_zipWith, h, Nat.min_self]⟩
  · rw [if_neg hk, if_neg hk, if_neg hk]
    refine ⟨?_, by rw [List.length_append, List.length_append, h] <;> rfl⟩
    rw [List.zip_append h]
    rfl
theorem put_rs {d : D} {v : V} {x : Key} (h1 : R K G H d v) : ∀ {ks : List Key} {ds : List D} {vs : List V}, Rs K G H ds vs → Rs K G H (putDs ks ds x d) (putDs ks vs x v) := by
  intro ks ds vs h
  unfold putDs
  by_cases hk : ks.any (fun k => decide (k = x)) = true
  · rw [if_pos hk, if_pos hk]
    clear hk
    induction ks generalizing ds vs with
    | nil => cases ds <;> cases vs <;> exact Rs.nil
    | cons k ks ih =>
      cases ds with
      | nil => unfold Rs at h; subst h; exact Rs.nil
      | cons e es =>
        unfold Rs at h
        obtain ⟨u, r, rfl, h2, h3⟩ := h
        rw [List.zipWith_cons_cons, List.zipWith_cons_cons]
        refine Rs.cons ?_ (ih h3)
        by_cases hk : k = x
        · rw [if_pos hk, if_pos hk]; exact h1
        · rw [if_neg hk, if_neg hk]; exact h2
  · rw [if_neg hk, if_neg hk]
    exact h.snoc h1
end
section
variable {K : PySem.W.Frag} {B : Bx} {H H' Hs : Hp} {σ : L2.St} {ρ ρ' : En} {v : V} {r : Rv}
/-- a dict that is seen: where it stands -/
theorem Rg.dic {ks : List Key} {ds : List D} (k : Ok K B H σ ρ) (h : Rg K B Hs H σ ρ v r) (e : (ob ρ r).d = .dic ks ds) : ∃ a vs, v = .ref a ∧ H a = some (.dK (ks.zip vs)) ∧ ks.length = vs.length ∧ a ∉ B.Av ∧ Rs K (GF B (mset σ ρ) Hs (ob ρ r).f) H ds vs := by
  cases r with
  | v d f =>
    have e : d = .dic ks ds := e
    subst e
    have h : R K (GF B (mset σ ρ) Hs f) H (.dic ks ds) v := h
    unfold R at h
    obtain ⟨a, vs, e1, e2, l, g, rs⟩ := h
    exact ⟨a, vs, e1, e2, l, g.2.1, rs⟩
  | nl _ _ => cases e
  | nt _ _ _ => cases e
  | nd ks' ds' f =>
    have e : D.dic ks' ds' = .dic ks ds := e
    cases e
    have h : R K (GF B (mset σ ρ) Hs f) H (.dic ks ds) v := h
    unfold R at h
    obtain ⟨a, vs, e1, e2, l, g, rs⟩ := h
    exact ⟨a, vs, e1, e2, l, g.2.1, rs⟩
  | m i =>
    obtain ⟨ev, s, es, ns⟩ := h
    have eo : ob ρ (.m i) = obS s := by show obS (ρ.getD i .no) = _; rw [List.getD_eq_getElem?_getD, es]; rfl
    rw [eo] at e ⊢
    have q := k.sl i s es
    cases s with
    | no => exact absurd rfl ns
    | val d f =>
      obtain ⟨w, e1, e2⟩ := q
      rw [ev] at e1; cases e1
      have e : d = .dic ks ds := e
      subst e
      unfold R at e2
      obtain ⟨a, vs, e1, e2, l, g, rs⟩ := e2
      exact ⟨a, vs, e1, e2, l, g.2.1, rs.mono Keep.refl fun _ _ g => g.fr⟩
    | ml _ _ => cases e
    | mp _ _ => cases e
    | mt _ _ _ => cases e
    | md ks' ds' f =>
      have e : D.dic ks' ds' = .dic ks ds := e
      cases e
      obtain ⟨p, vs, e1, e2, l, rs, _, av⟩ := q
      rw [ev] at e1; cases e1
      exact ⟨p, vs, rfl, e2, l, av, rs.mono Keep.refl fun _ _ g => g.fr⟩
def dDNew : TD := fun ρ Q => Q (.nd [] [] .n) ρ
theorem ev_dnew : Ev1 K tDNewK dDNew := fun B σ H ρ Q Q' k q fin => fun p hp => by
  obtain ⟨o1, o2⟩ := new_nd (f := .n) (ks := []) (ds := []) (vs := []) (Hs := H) k (fun _ h => h) hp rfl Rs.nil
  exact fin _ _ _ ρ o1 (All.new hp).step Kn.refl o2 q
def dDGet (d t : TD) : TD := fun ρ Q => d ρ fun r ρ1 => t ρ1 fun r2 ρ2 => ∃ ks ds x e, (ob ρ2 r).d = .dic ks ds ∧ keyOf (ob ρ2 r2).d = some x ∧ lookD ks ds x = some e ∧ Q (.v e (ob ρ2 r).f) ρ2
theorem ev_dget {td ty : TE} {d t : TD} (h : Ev1 K td d) (h2 : Ev1 K ty t) : Ev1 K (tDGet td ty) (dDGet d t) := fun B σ H ρ Q Q' k q fin =>
  h B σ H ρ _ _ k q fun x H1 r1 ρ1 k1 s1 n1 w1 q1 => h2 B σ H1 ρ1 _ _ k1 q1 fun y H2 r2 ρ2 k2 s2 n2 w2 ⟨ks, ds, ky, e, ed, ek, el, q2⟩ => by
    have g1 := (w1.rg k.dom).go s2 n2
    obtain ⟨a, vs, rfl, ha, hl, _, rs⟩ := g1.dic k2 ed
    obtain ⟨v, ev, rv⟩ := look_v rs el
    have ry := keyOf_v (Rg.ro k2 (w2.rg k1.dom)).all ek
    subst ry
    exact ⟨a, v, rfl, ev ▸ DGet.k ha, fin v H2 (.v e _) ρ2 k2 (s1.trans s2) (n1.trans n2) rv q2⟩
def dStar (dm dk dv : TD) : TD := fun ρ Q => dm ρ fun r ρ1 => ∃ ks ds, (ob ρ1 r).d = .dic ks ds ∧ ks.length ≤ 1000 ∧ dk ρ1 fun rk ρ2 => dv ρ2 fun rv ρ3 =>
  ∃ x o, keyOf (ob ρ3 rk).d = some x ∧ stoD rv = some o ∧ Q (.nd (putKs ks x) (putDs ks ds x o.d) (fmin (ob ρ1 r).f o.f)) ρ3
theorem ev_star {tm tk tv : TE} {dm dk dv : TD} (hm : Ev1 K tm dm) (hk : Ev1 K tk dk) (hv : Ev1 K tv dv) : Ev1 K (tStar tm tk tv) (dStar dm dk dv) := fun B σ H ρ Q Q' k q fin => fun p hp => by
  have hp0 : B.H0 p = none := fresh0 k.dom hp
  have k0 := k.clear (o := .dK []) hp
  have pav : p ∈ (B.add p).Av := List.mem_cons_self
  refine hm (B.add p) σ _ ρ _ _ k0 q fun x H1 r1 ρ1 k1 s1 n1 w1 ⟨ks, ds, ed, hz, q1⟩ => ?_
  have hp1 : H1 p = some (.dK []) := s1.keep p _ upd_same (.inl fun z => k0.mav z pav)
  have g1 : Rg K (B.add p) (upd H p (.dK [])) H1 σ ρ1 x r1 := w1.rg k0.dom
  obtain ⟨a, vs, rfl, ha, hl, hav, rs⟩ := g1.dic k1 ed
  have hap : a ≠ p := fun z => hav (z ▸ pav)
  refine ⟨hp1, a, ks.zip vs, rfl, hap, ha, by rw [List.length_zip, hl, Nat.min_self, ← hl]; exact hz, fun qq hq => ?_⟩
  have k1' : Ok K (B.add p) (upd H1 p (.dK (ks.zip vs))) σ ρ1 := k1.updAv hp1 (fun z => z) hp0
  have hqp : qq ≠ p := fun z => by rw [z, upd_same] at hq; cases hq
  have k2 := k1'.clear (o := .dK []) hq
  have qav : qq ∈ ((B.add p).add qq).Av := List.mem_cons_self
  have pav2 : p ∈ ((B.add p).add qq).Av := List.mem_cons_of_mem _ pav
  refine hk ((B.add p).add qq) σ _ ρ1 _ _ k2 q1 fun y H2 r2 ρ2 k3 s2 n2 w2 q2 => hv ((B.add p).add qq) σ H2 ρ2 _ _ k3 q2 fun z H3 r3 ρ3 k4 s3 n3 w3 ⟨ky, o, ek, eo, q3⟩ => ?_
  have h2p : H2 p = some (.dK (ks.zip vs)) := s2.keep p _ (by rw [upd_ne hqp.symm]; exact upd_same) (.inl fun t => k2.mav t pav2)
  have h3p : H3 p = some (.dK (ks.zip vs)) := s3.keep p _ h2p (.inl fun t => k3.mav t pav2)
  have h3q : H3 qq = some (.dK []) := s3.keep qq _ (s2.keep qq _ upd_same (.inl fun t => k2.mav t qav)) (.inl fun t => k3.mav t qav)
  have gk := (w2.rg k2.dom).go s3 n3
  have ry := keyOf_v (Rg.ro k4 gk).all ek
  subst ry
  refine ⟨h3p, h3q, hqp, ky, z, rfl, ?_⟩
  obtain ⟨e1, e2⟩ := put_zip (vs := vs) ky z hl
  rw [e1]
  have hq0 : B.H0 qq = none := fresh0 (B := B) (Hs := upd H1 p (.dK (ks.zip vs))) (fun a h => k1'.dom a h) hq
  have k5 : Ok K ((B.add p).add qq) (upd H3 qq (.dK [(ky, z)])) σ ρ3 := k4.updAv h3q (fun t => t) hq0
  have h5p : (upd H3 qq (.dK [(ky, z)])) p = some (.dK (ks.zip vs)) := by rw [upd_ne hqp.symm]; exact h3p
  have k6 : Ok K ((B.add p).add qq) (upd (upd H3 qq (.dK [(ky, z)])) p (.dK ((putKs ks ky).zip (putDs ks vs ky z)))) σ ρ3 := k5.updAv2 pav2 h5p (fun t => t) hp0
  have k7 : Ok K (B.add p) _ σ ρ3 := k6.unclear
  have k8 : Ok K B _ σ ρ3 := k7.unclear
  -- what is kept on the way
  have kpE : Keep (fun a => a ≠ p ∧ a ≠ qq) H3 (upd (upd H3 qq (.dK [(ky, z)])) p (.dK ((putKs ks ky).zip (putDs ks vs ky z)))) := fun a u h g => by
    by_cases t1 : a = p
    · subst t1
      rcases g with g | g
      · exact absurd rfl g.1
      · rw [h3p] at h; cases h; exact g.elim
    · by_cases t2 : a = qq
      · subst t2
        rcases g with g | g
        · exact absurd rfl g.2
        · rw [h3q] at h; cases h; exact g.elim
      · rw [upd_ne t1, upd_ne t2]; exact h
  have kp1 : Keep (fun a => ¬ mset σ ρ1 a ∧ a ≠ p) H1 H3 := fun a u h g => by
    have up : (upd H1 p (.dK (ks.zip vs))) a = some u ∨ a = p := by
      by_cases t : a = p
      · exact .inr t
      · exact .inl (by rw [upd_ne t]; exact h)
    rcases up with up | up
    · have u2 : (upd (upd H1 p (.dK (ks.zip vs))) qq (.dK [])) a = some u := All.new hq a u up
      exact s3.keep a u (s2.keep a u u2 (g.imp (fun t => t.1) id)) (g.imp (fun t w => t.1 (s2.sub a w)) id)
    · subst up
      rcases g with g | g
      · exact absurd rfl g.2
      · rw [hp1] at h; cases h; exact g.elim
  have dm1 : ∀ a, H1 a ≠ none → H3 a ≠ none := fun a h => by
    refine s3.dom a (s2.dom a ?_)
    by_cases t : a = qq
    · rw [t, upd_same]; exact Option.some_ne_none _
    · rw [upd_ne t]
      by_cases t2 : a = p
      · rw [t2, upd_same]; exact Option.some_ne_none _
      · rw [upd_ne t2]; exact h
  have dmE : ∀ a, H3 a ≠ none → (upd (upd H3 qq (.dK [(ky, z)])) p (.dK ((putKs ks ky).zip (putDs ks vs ky z)))) a ≠ none := fun a h => by
    by_cases t : a = p
    · rw [t, upd_same]; exact Option.some_ne_none _
    · rw [upd_ne t]
      by_cases t2 : a = qq
      · rw [t2, upd_same]; exact Option.some_ne_none _
      · rw [upd_ne t2]; exact h
  have hne0 : ∀ {a : Addr}, H a ≠ none → a ≠ p := fun h t => h (t ▸ hp)
  have hne1 : ∀ {a : Addr}, H1 a ≠ none → a ≠ qq := fun {a} h t => by
    subst t
    by_cases t : a = p
    · exact hqp t
    · rw [upd_ne t] at hq; exact h hq
  have sub31 : ∀ a, mset σ ρ3 a → mset σ ρ1 a := fun a t => s2.sub a (s3.sub a t)
  have dom01 : ∀ a, H a ≠ none → H1 a ≠ none := fun a h => s1.dom a (All.dom (All.new hp) h)
  have dHs : ∀ a, H a ≠ none → (upd H p (.dK [])) a ≠ none := fun a h => All.dom (All.new hp) h
  refine fin (.ref p) _ (.nd (putKs ks ky) (putDs ks ds ky o.d) (fmin (ob ρ1 r1).f o.f)) ρ3 k8 ⟨fun a u h g => ?_, fun a h => dmE a (dm1 a (dom01 a h)), fun a t => s1.sub a (sub31 a t)⟩ (n1.trans (n2.trans n3))
    ⟨p, putDs ks vs ky z, rfl, upd_same, e2, hp, fun t => k7.mav t pav, fun t => k.av p t hp, k7, ?_⟩ q3
  · have h1 : H1 a = some u := s1.keep a u (All.new hp a u h) g
    have g1 : ¬ mset σ ρ1 a ∨ Im u := g.imp (fun t w => t (s1.sub a w)) id
    have na : a ≠ p := hne0 (by rw [h]; exact Option.some_ne_none _)
    have nq : a ≠ qq := hne1 (by rw [h1]; exact Option.some_ne_none _)
    exact kpE a u (kp1 a u h1 (g1.imp (fun t => ⟨t, na⟩) id)) (.inl ⟨na, nq⟩)
  · have r1' : Rs K (GF (B.add p) (mset σ ρ3) H (fmin (ob ρ1 r1).f o.f)) _ ds vs :=
      (rs.mono (G' := fun a => GF (B.add p) (mset σ ρ1) (upd H p (.dK [])) (ob ρ1 r1).f a ∧ a ≠ p ∧ a ≠ qq) (kp1.weak fun a g => ⟨g.1, fun t => g.2.1 (t ▸ pav)⟩) (fun a h g => ⟨g, fun t => g.2.1 (t ▸ pav), hne1 h⟩)).mono (kpE.weak fun a g => g.2) fun a _ g => GF.minL (GF.base dHs ⟨fun t => g.1.1 (sub31 a t), g.1.2⟩)
    have r3' : R K (GF (B.add p) (mset σ ρ3) H (fmin (ob ρ1 r1).f o.f)) (upd (upd H3 qq (.dK [(ky, z)])) p (.dK ((putKs ks ky).zip (putDs ks vs ky z)))) o.d z := by
      have dd : ∀ a, H a ≠ none → H2 a ≠ none := fun a h => s2.dom a (by
        have h1 := dom01 a h
        rw [upd_ne (hne1 h1)]
        by_cases t2 : a = p
        · rw [t2, upd_same]; exact Option.some_ne_none _
        · rw [upd_ne t2]; exact h1)
      have w4 := (w3.rg k3.dom).sto eo
      exact R.mono (kpE.weak fun a g => ⟨fun t => g.2.1 (t ▸ pav2), fun t => g.2.1 (t ▸ qav)⟩) (fun a _ g => GF.minR (GF.base dd g.unadd)) w4
    exact put_rs r3' r1'
end
section
variable {X : Cx} {m k v a b : Expr} {pos : Pos} {dm dk dv da db : TD} {j : Nat}
theorem de_dnew : DE X (.Dict [] [] pos) dDNew := ⟨_, pe_dnewK, ev_dnew⟩
theorem de_dget (hr : Room j X.A) (ha : DE X a da) (hb : DE X b db) (hs : NoSl b := by intro _ _; rfl) : DE X (.Subscript a b pos) (dDGet da db) := let ⟨_, p1, e1⟩ := ha; let ⟨_, p2, e2⟩ := hb; ⟨_, pe_dget (hu_of hr) p1 p2 hs, ev_dget e1 e2⟩
theorem de_dstar (hm : DE X m dm) (hk : DE X k dk) (hv : DE X v dv) : DE X (.Dict [none, some k] [m, v] pos) (dStar dm dk dv) := let ⟨_, p1, e1⟩ := hm; let ⟨_, p2, e2⟩ := hk; let ⟨_, p3, e3⟩ := hv; ⟨_, pe_star p1 p2 p3, ev_star e1 e2 e3⟩
end
end DL

namespace DL
open PySem L2
/-! ### isinstance(x, T), T a built-in type -/
def tyN : D → String
  | .non => "NoneType"
  | .bl _ => "bool"
  | .int _ => "int"
  | .str _ => "str"
  | .tup _ => "tuple"
  | .lst _ => "list"
  | .fz _ => "list"
  | .dic _ _ => "dict"
  | .dit _ _ => "dict"
def dIsi (T : String) (d : TD) : TD := fun ρ Q => d ρ fun r ρ1 => ∃ b, kitB (tyN (ob ρ1 r).d) T = some b ∧ Q (.v (.bl b) .n) ρ1
section
variable {K : PySem.W.Frag} {G : Addr → Prop} {H : Hp}
theorem ro_ty {d : D} {v : V} (h : RO K G H d v) : TyX K H v (.type (tyN d)) := by
  cases d with
  | non => cases h.non; exact .base .non
  | bl b => cases h.bl; exact .base (.bl b)
  | int i => cases h.int; exact .base (.int i)
  | str s => cases h.str; exact .base (.str s)
  | tup ds =>
    obtain ⟨a, vs, rfl, hs, _⟩ := h.tup
    rcases hs with (hs | ⟨o, hs⟩) | ⟨o, its, n, h1, h2, _⟩
    · exact .base (.tup hs)
    · exact .fTuple hs
    · exact .kTuple h1 h2
  | lst ds => obtain ⟨a, vs, rfl, hs, _⟩ := h; exact .base (.lst hs)
  | fz ds =>
    obtain ⟨a, vs, rfl, hs, _⟩ := h.fz
    rcases hs with ⟨o, hs⟩ | ((hs | ⟨o, hs⟩) | ⟨o, its, n, h1, h2, _⟩)
    · exact .base (.frz hs)
    · cases hs
    · cases hs
    · exact .kList h1 h2
  | dic ks ds => obtain ⟨a, vs, rfl, hs, _⟩ := h; exact .base (.dK hs)
  | dit ks ds => obtain ⟨a, vs, rfl, hs, _⟩ := h; exact .base (.dT hs)
end
theorem de_isi {X : Cx} {e : Expr} {T : String} {x : Str} {d : TD} {p p2 pos : Pos} (hm : X.mg "isinstance" = none) (hmt : X.mg x = none) (hv : bootBuiltins x = some (.type T)) (he : DE X e d) (hg : Gl X "isinstance" := by rfl) (hgt : Gl X x := by rfl) (hn : x ≠ "__name__" := by decide) (hd : (x == ("__debug__" : Str)) = false := by decide)
    (h1 : starEach [e, .Name x p2] X.env = (false, eval e X.env) :: starEach [.Name x p2] X.env := by rfl) (h2 : starEach [.Name x p2] X.env = (false, eval (.Name x p2) X.env) :: starEach [] X.env := by rfl) (hpl : (backTo pos (starEach [.Name x p2] X.env)).any (·.1) = false := by rfl) :
    DE X (.Call (.Name "isinstance" p) [e, .Name x p2] [] pos) (dIsi T d) := by
  obtain ⟨_, pe, ev⟩ := he
  refine ⟨_, pe_callB call_isi hg hm (by decide +kernel) (pa_cons pe (pa_cons (pe_bltn (v := .ty T) hgt hmt hv rfl hn hd) pa_nil h2) h1) (by decide) (by decide) h1 hpl, fun B σ H ρ Q Q' k q fin => ?_⟩
  exact ev B σ H ρ _ _ k q fun v H1 r ρ1 k1 s1 n1 e1 ⟨b, eb, q1⟩ => ⟨v, .ty T, _, .type T, b, rfl, .ty T, ro_ty (obR k1 k.dom e1), kit_ty eb, fin (.bl b) H1 (.v (.bl b) .n) ρ1 k1 s1 n1 rel_b q1⟩
def dNeg (d : TD) : TD := fun ρ Q => d ρ fun r ρ1 => ∃ i, (ob ρ1 r).d = .int i ∧ Q (.v (.int (-i)) .n) ρ1
theorem de_neg {X : Cx} {a : Expr} {d : TD} {pos : Pos} (h : DE X a d) : DE X (.UnaryOp .USub a pos) (dNeg d) :=
  let ⟨_, p, ev⟩ := h; ⟨_, pe_un un_neg p, fun B σ H ρ Q Q' k q fin => ev B σ H ρ _ _ k q fun v H1 r ρ1 k1 s1 n1 e1 ⟨i, ei, q1⟩ => by
    have ro := obR k1 k.dom e1
    rw [ei] at ro
    exact ⟨i, ro.int, fin _ H1 (.v (.int (-i)) .n) ρ1 k1 s1 n1 rel_i q1⟩⟩
end DL

namespace DL
open PySem L2
/-! ### what holds behind a statement, said once -/
def dCut (t : TSD) : TSD := fun E ρ => ∃ I : En → Prop, t { E with nx := I } ρ ∧ ∀ ρ', I ρ' → E.nx ρ'
theorem evs_cut {K : PySem.W.Frag} {ts : TS} {t : TSD} (h : EvS K ts t) : EvS K ts (dCut t) := fun B σ H ρ E D' k ⟨I, q, i⟩ l =>
  h B σ H ρ { E with nx := I } D' k q ⟨fun σ' H' ρ' k' s' q' => l.nx σ' H' ρ' k' s' (i ρ' q'), l.rt, l.bk, l.ct⟩
theorem ds_cut {X : Cx} {st : Stmt} {t : TSD} (h : DS X st t) : DS X st (dCut t) := let ⟨_, p, ev⟩ := h; ⟨_, p, evs_cut ev⟩
end DL

/-! the mathematics: sayings, what is true of a word, truths side by side -/
namespace K9
theorem pow_mod_split (c w k : Nat) : c % 2 ^ (w + k) % 2 ^ w = c % 2 ^ w := by
  rw [Nat.pow_add, Nat.mod_mul_right_mod]
/-- one turn of spread -/
theorem spread_step {t b w : Nat} (hw : w ≤ b) (src : Nat) (ht : t < 2 ^ 2 ^ b) (h : ∀ c, c < 2 ^ b → t.testBit c = src.testBit (c % 2 ^ w)) :
    (t ||| t <<< 2 ^ b) < 2 ^ 2 ^ (b + 1) ∧ ∀ c, c < 2 ^ (b + 1) → (t ||| t <<< 2 ^ b).testBit c = src.testBit (c % 2 ^ w) := by
  have e2 : 2 ^ (b + 1) = 2 ^ b + 2 ^ b := by rw [Nat.pow_succ]; omega
  have hpos := Nat.two_pow_pos b
  refine ⟨?_, fun c hc => ?_⟩
  · refine Nat.or_lt_two_pow (Nat.lt_of_lt_of_le ht (Nat.pow_le_pow_right (by decide) (show 2 ^ b ≤ 2 ^ (b + 1) by omega))) ?_
    rw [e2, Nat.shiftLeft_eq, Nat.pow_add]
    exact Nat.mul_lt_mul_of_pos_right ht (Nat.two_pow_pos _)
  · rw [Nat.testBit_or, Nat.testBit_shiftLeft]
    by_cases hcb : c < 2 ^ b
    · rw [h c hcb, decide_eq_false (by omega : ¬ c ≥ 2 ^ b), Bool.false_and, Bool.or_false]
    · have hge : c ≥ 2 ^ b := by omega
      rw [decide_eq_true hge, Bool.true_and, Nat.testBit_lt_two_pow (Nat.lt_of_lt_of_le ht (Nat.pow_le_pow_right (by decide) hge)), Bool.false_or, h (c - 2 ^ b) (by omega)]
      obtain ⟨k, rfl⟩ : ∃ k, b = w + k := ⟨b - w, by omega⟩
      have e : c = (c - 2 ^ (w + k)) + 2 ^ w * 2 ^ k := by rw [← Nat.pow_add]; omega
      conv => rhs; rw [e, Nat.add_mul_mod_self_left]
/-- one turn of fold -/
theorem fold_step {t b : Nat} (ht : t < 2 ^ 2 ^ (b + 1)) :
    (t >>> 2 ^ b ||| t &&& (2 ^ 2 ^ b - 1)) < 2 ^ 2 ^ b ∧ ∀ c, c < 2 ^ b → (t >>> 2 ^ b ||| t &&& (2 ^ 2 ^ b - 1)).testBit c = (t.testBit c || t.testBit (c + 2 ^ b)) := by
  have e2 : 2 ^ (b + 1) = 2 ^ b + 2 ^ b := by rw [Nat.pow_succ]; omega
  have hpos := Nat.two_pow_pos b
  refine ⟨?_, fun c hc => ?_⟩
  · refine Nat.or_lt_two_pow ?_ (Nat.lt_of_le_of_lt Nat.and_le_right (Nat.sub_lt (Nat.two_pow_pos _) (by decide)))
    rw [Nat.shiftRight_eq_div_pow, Nat.div_lt_iff_lt_mul (Nat.two_pow_pos _), ← Nat.pow_add, ← e2]
    exact ht
  · rw [Nat.testBit_or, Nat.testBit_and, Nat.testBit_shiftRight, Nat.testBit_two_pow_sub_one, decide_eq_true hc, Bool.and_true, Nat.add_comm (2 ^ b) c, Bool.or_comm]

/-! ### sayings -/
/-- names and letters are of any type that can be told apart -/
inductive Sy (α : Type) where
  | letter (n c : α) | ahead (n m : α) | same (n m : α) | within (n m : α)
  | not (x : Sy α) | and (x y : Sy α) | or (x y : Sy α) | place (n : α) (x : Sy α) | set (n : α) (x : Sy α)
inductive Th where
  | pl (k : Nat) | st (f : Nat → Bool)
variable {α : Type} [DecidableEq α]
def look {β : Type} (n : α) : List (α × β) → Option β
  | [] => none
  | (m, b) :: r => if m = n then some b else look n r
def plOf : Option Th → Nat
  | some (.pl k) => k
  | _ => 0
def stOf : Option Th → Nat → Bool
  | some (.st f) => f
  | _ => fun _ => false
/-- whether it is true of the word wd -/
def sem (wd : List α) : Sy α → List (α × Th) → Bool
  | .letter n c, e => decide (wd[plOf (look n e)]? = some c)
  | .ahead n m, e => decide (plOf (look n e) < plOf (look m e))
  | .same n m, e => decide (plOf (look n e) = plOf (look m e))
  | .within n m, e => stOf (look m e) (plOf (look n e))
  | .not x, e => !sem wd x e
  | .and x y, e => sem wd x e && sem wd y e
  | .or x y, e => sem wd x e || sem wd y e
  | .place n x, e => (List.range wd.length).any fun k => sem wd x ((n, .pl k) :: e)
  | .set n x, e => (List.range (2 ^ wd.length)).any fun A => sem wd x ((n, .st fun p => A.testBit p) :: e)
def depth : Sy α → Nat
  | .not x => depth x + 1
  | .and x y => max (depth x) (depth y) + 1
  | .or x y => max (depth x) (depth y) + 1
  | .place _ x => depth x + 1
  | .set _ x => depth x + 1
  | _ => 0
/-- each name stands for what it is asked as: true a place, false a set -/
def Wh : Sy α → List (α × Bool) → Prop
  | .letter n _, e => look n e = some true
  | .ahead n m, e => look n e = some true ∧ look m e = some true
  | .same n m, e => look n e = some true ∧ look m e = some true
  | .within n m, e => look n e = some true ∧ look m e = some false
  | .not x, e => Wh x e
  | .and x y, e => Wh x e ∧ Wh y e
  | .or x y, e => Wh x e ∧ Wh y e
  | .place n x, e => Wh x ((n, true) :: e)
  | .set n x, e => Wh x ((n, false) :: e)
/-- two things that are told apart by no saying about a word of n places -/
def ThEq (n : Nat) : Th → Th → Prop
  | .pl k, .pl l => k = l ∧ k < n
  | .st f, .st g => ∀ p, p < n → f p = g p
  | _, _ => False
def sortOf : Th → Bool
  | .pl _ => true
  | .st _ => false
inductive EnvEq (n : Nat) : List (α × Th) → List (α × Th) → List (α × Bool) → Prop
  | nil : EnvEq n [] [] []
  | cons {m : α} {a b : Th} {e e' : List (α × Th)} {s : List (α × Bool)} : ThEq n a b → EnvEq n e e' s → EnvEq n ((m, a) :: e) ((m, b) :: e') ((m, sortOf a) :: s)
theorem EnvEq.look {n : Nat} {x : α} {k : Bool} : ∀ {e e' : List (α × Th)} {s : List (α × Bool)}, EnvEq n e e' s → look x s = some k → ∃ a b, look x e = some a ∧ look x e' = some b ∧ ThEq n a b ∧ sortOf a = k
  | _, _, _, .nil, h => by cases h
  | _, _, _, .cons (m := m) (a := a) (b := b) t r, h => by
    unfold K9.look at h ⊢
    by_cases hm : m = x
    · rw [if_pos hm] at h
      rw [if_pos hm]
      refine ⟨a, b, rfl, ?_, t, by cases h; rfl⟩
      unfold K9.look
      rw [if_pos hm]
    · rw [if_neg hm] at h
      rw [if_neg hm]
      obtain ⟨a', b', h1, h2, h3⟩ := r.look h
      refine ⟨a', b', h1, ?_, h3⟩
      show K9.look x ((m, b) :: _) = _
      unfold K9.look
      rw [if_neg hm]; exact h2
theorem EnvEq.pl {n : Nat} {x : α} {e e' : List (α × Th)} {s : List (α × Bool)} (h : EnvEq n e e' s) (l : K9.look x s = some true) : ∃ k, K9.look x e = some (.pl k) ∧ K9.look x e' = some (.pl k) ∧ k < n := by
  obtain ⟨a, b, h1, h2, h3, h4⟩ := h.look l
  cases a with
  | st f => cases h4
  | pl k =>
    cases b with
    | st f => exact h3.elim
    | pl l => obtain ⟨rfl, hk⟩ := h3; exact ⟨k, h1, h2, hk⟩
theorem EnvEq.st {n : Nat} {x : α} {e e' : List (α × Th)} {s : List (α × Bool)} (h : EnvEq n e e' s) (l : K9.look x s = some false) : ∃ f g, K9.look x e = some (.st f) ∧ K9.look x e' = some (.st g) ∧ ∀ p, p < n → f p = g p := by
  obtain ⟨a, b, h1, h2, h3, h4⟩ := h.look l
  cases a with
  | pl k => cases h4
  | st f =>
    cases b with
    | pl l => exact h3.elim
    | st g => exact ⟨f, g, h1, h2, h3⟩
theorem ThEq.refl {n : Nat} {k : Nat} (h : k < n) : ThEq n (.pl k) (.pl k) := ⟨rfl, h⟩
theorem sem_eq {wd : List α} : ∀ {s : Sy α} {e e' : List (α × Th)} {ks : List (α × Bool)}, Wh s ks → EnvEq wd.length e e' ks → sem wd s e = sem wd s e'
  | .letter n c, e, e', ks, w, h => by
    obtain ⟨k, h1, h2, _⟩ := h.pl w
    unfold sem; rw [h1, h2]
  | .ahead n m, e, e', ks, w, h => by
    obtain ⟨k, h1, h2, _⟩ := h.pl w.1
    obtain ⟨l, h3, h4, _⟩ := h.pl w.2
    unfold sem; rw [h1, h2, h3, h4]
  | .same n m, e, e', ks, w, h => by
    obtain ⟨k, h1, h2, _⟩ := h.pl w.1
    obtain ⟨l, h3, h4, _⟩ := h.pl w.2
    unfold sem; rw [h1, h2, h3, h4]
  | .within n m, e, e', ks, w, h => by
    obtain ⟨k, h1, h2, hk⟩ := h.pl w.1
    obtain ⟨f, g, h3, h4, h5⟩ := h.st w.2
    unfold sem; rw [h1, h2, h3, h4]
    exact h5 k hk
  | .not x, e, e', ks, w, h => by unfold sem; rw [sem_eq (s := x) w h]
  | .and x y, e, e', ks, w, h => by unfold sem; rw [sem_eq (s := x) w.1 h, sem_eq (s := y) w.2 h]
  | .or x y, e, e', ks, w, h => by unfold sem; rw [sem_eq (s := x) w.1 h, sem_eq (s := y) w.2 h]
  | .place n x, e, e', ks, w, h => by
    unfold sem
    rw [Bool.eq_iff_iff, List.any_eq_true, List.any_eq_true]
    constructor
    · rintro ⟨k, hk, q⟩
      exact ⟨k, hk, by rw [← sem_eq (s := x) w (EnvEq.cons (ThEq.refl (List.mem_range.mp hk)) h)]; exact q⟩
    · rintro ⟨k, hk, q⟩
      exact ⟨k, hk, by rw [sem_eq (s := x) w (EnvEq.cons (ThEq.refl (List.mem_range.mp hk)) h)]; exact q⟩
  | .set n x, e, e', ks, w, h => by
    unfold sem
    rw [Bool.eq_iff_iff, List.any_eq_true, List.any_eq_true]
    have t : ∀ A : Nat, ThEq wd.length (.st fun p => A.testBit p) (.st fun p => A.testBit p) := fun A p _ => rfl
    constructor
    · rintro ⟨k, hk, q⟩
      exact ⟨k, hk, by rw [← sem_eq (s := x) w (EnvEq.cons (t k) h)]; exact q⟩
    · rintro ⟨k, hk, q⟩
      exact ⟨k, hk, by rw [sem_eq (s := x) w (EnvEq.cons (t k) h)]; exact q⟩

/-! ### truths at a choice -/
theorem top_bit {y b : Nat} (h : y < 2 ^ (b + 1)) : y.testBit b = decide (2 ^ b ≤ y) := by
  have e2 : 2 ^ (b + 1) = 2 ^ b + 2 ^ b := by rw [Nat.pow_succ]; omega
  by_cases hy : 2 ^ b ≤ y
  · rw [decide_eq_true hy]
    have e : y = 2 ^ b + (y - 2 ^ b) := by omega
    rw [e, Nat.testBit_two_pow_add_eq, Nat.testBit_lt_two_pow (by omega)]
    rfl
  · rw [decide_eq_false hy]
    exact Nat.testBit_lt_two_pow (by omega)
theorem side_bit {w p A c : Nat} (hc : c < 2 ^ w) : ((2 ^ 2 ^ (w + p) - 1) <<< 2 ^ (w + p)).testBit ((c + 2 ^ w * A) % 2 ^ (w + p + 1)) = A.testBit p := by
  have hlt : (c + 2 ^ w * A) % 2 ^ (w + p + 1) < 2 ^ (w + p + 1) := Nat.mod_lt _ (Nat.two_pow_pos _)
  have e2 : 2 ^ (w + p + 1) = 2 ^ (w + p) + 2 ^ (w + p) := by rw [Nat.pow_succ]; omega
  have e3 : (c + 2 ^ w * A).testBit (w + p) = A.testBit p := by
    have h1 : (c + 2 ^ w * A) / 2 ^ w = A := by rw [Nat.add_mul_div_left _ _ (Nat.two_pow_pos _), Nat.div_eq_of_lt hc, Nat.zero_add]
    have h2 : ((c + 2 ^ w * A) / 2 ^ w).testBit p = (c + 2 ^ w * A).testBit (p + w) := Nat.testBit_div_two_pow (c + 2 ^ w * A) p
    rw [h1] at h2
    rw [h2, Nat.add_comm p w]
  rw [Nat.testBit_shiftLeft, Nat.testBit_two_pow_sub_one]
  have e4 := top_bit hlt
  rw [Nat.testBit_mod_two_pow, decide_eq_true (Nat.lt_succ_self _), Bool.true_and, e3] at e4
  rw [e4]
  by_cases h : 2 ^ (w + p) ≤ (c + 2 ^ w * A) % 2 ^ (w + p + 1)
  · rw [decide_eq_true h, decide_eq_true (by omega : (c + 2 ^ w * A) % 2 ^ (w + p + 1) - 2 ^ (w + p) < 2 ^ (w + p))]
    rfl
  · rw [decide_eq_false h, Bool.false_and]
theorem side_lt (b : Nat) : (2 ^ 2 ^ b - 1) <<< 2 ^ b < 2 ^ 2 ^ (b + 1) := by
  have e2 : 2 ^ (b + 1) = 2 ^ b + 2 ^ b := by rw [Nat.pow_succ]; omega
  rw [e2, Nat.shiftLeft_eq, Nat.pow_add]
  have h := Nat.two_pow_pos (2 ^ b)
  exact Nat.mul_lt_mul_of_pos_right (by omega) h
theorem mod_low {w k c A : Nat} (hk : k ≤ w) : (c + 2 ^ w * A) % 2 ^ k = c % 2 ^ k := by
  obtain ⟨j, rfl⟩ : ∃ j, w = k + j := ⟨w - k, by omega⟩
  rw [Nat.pow_add, Nat.mul_assoc, Nat.add_mul_mod_self_left]
theorem and_one_bit (A p : Nat) : ((A >>> p) &&& 1).testBit 0 = A.testBit p := by
  rw [Nat.testBit_and, Nat.testBit_shiftRight, Nat.add_zero]
  have : Nat.testBit 1 0 = true := by decide
  rw [this, Bool.and_true]
end K9

namespace K9
open PySem L2 DL
def top (i : Nat) : Stmt := PySem.Challenge.pw_placesay_k09_true_by_trying.main.body.getD i (.Pass ⟨0, 0, 0, 0⟩)
end K9

namespace K9
open PySem L2 DL
section
variable {P : Program} {w : World} {K : PySem.W.Frag} {mg : Str → Option Value} {base : Heap} {f : Addr} {fd : FuncData}
theorem i2pow (n : Nat) : (2 : Int) ^ n = ((2 ^ n : Nat) : Int) := by rw [Int.natCast_pow]; rfl
theorem bOr (a b : Nat) : Builtin.bitOr (a : Int) (b : Int) = ((a ||| b : Nat) : Int) := by rw [Bits.bitOr_pp (by omega) (by omega)]; rfl
theorem bXor (a b : Nat) : Builtin.bitXor (a : Int) (b : Int) = ((a ^^^ b : Nat) : Int) := by rw [Bits.bitXor_pp (by omega) (by omega)]; rfl
theorem bAnd (a b : Nat) : Builtin.bitAnd (a : Int) (b : Int) = ((a &&& b : Nat) : Int) := by rw [PyProof.Rows.bitAnd_pp (by omega) (by omega)]; rfl
theorem shl1 {i : Int} {n j : Nat} (h : i.natAbs < 2 ^ n) (hn : n + j ≤ 134217728) : CShl i (j : Int) := shl_ok h hn
theorem p16 {w : Nat} (h : w ≤ 16) : 2 ^ w ≤ 65536 := Nat.pow_le_pow_right (by decide) h
/- always: 0 width -/
abbrev s_always : Stmt := top 9
abbrev N_always : List Str := ["width"]
theorem sc_always : FnScope N_always ["width"] (defScope s_always) := ⟨rfl, rfl, rfl, by decide +kernel, rfl, by decide +kernel, by decide +kernel⟩
/-- 2 ** 2 ** w - 1 -/
def spAlways : SpD := fun ds P => ∃ w : Nat, ds = [.int w] ∧ w ≤ 16 ∧ P (.int ((2 ^ 2 ^ w - 1 : Nat) : Int))
theorem ok_always (F : Fun K "always" "always" s_always f fd) : FnOk P w K mg base CX0 1 f fd ["width"] (spP K spAlways) := by
  refine dfn (N := N_always) F sc_always (by decide) (fun ds Q ⟨w, e, _⟩ => by rw [e]; rfl) (fun cdv A outer s H E hr => (dss_one (ds_ret (de_sub (de_shl de_int (de_shl de_int (de_name 0))) de_int)))) ?_
  rintro ds Q ⟨w, rfl, hw, hQ⟩
  have h2 := p16 hw
  refine ⟨shl1 (n := 1) (by decide) (by omega), ⟨?_, ?_⟩⟩
  · rw [Int.toNat_natCast, Int.one_mul, i2pow]
    exact shl1 (n := 1) (by decide) (by omega)
  · refine ⟨True.intro, ⟨_, rfl, rfl, ?_⟩⟩
    show Q (.int (1 * 2 ^ (1 * 2 ^ ((w : Int)).toNat : Int).toNat - 1))
    rw [Int.toNat_natCast, Int.one_mul, Int.one_mul, i2pow w, Int.toNat_natCast, i2pow]
    have hp := Nat.two_pow_pos (2 ^ w)
    rw [show ((2 ^ 2 ^ w : Nat) : Int) - 1 = ((2 ^ 2 ^ w - 1 : Nat) : Int) by omega]
    exact hQ
/- spread: 0 truths, 1 width, 2 wider, 3 bit -/
abbrev s_spread : Stmt := top 10
abbrev N_spread : List Str := ["truths", "width", "wider", "bit"]
theorem sc_spread : FnScope N_spread ["truths", "width", "wider"] (defScope s_spread) := ⟨rfl, rfl, rfl, by decide +kernel, rfl, by decide +kernel, by decide +kernel⟩
def spSpread : SpD := fun ds P => ∃ t w w' : Nat, ds = [.int t, .int w, .int w'] ∧ w ≤ w' ∧ w' ≤ 16 ∧ t < 2 ^ 2 ^ w ∧ ∀ t' : Nat, t' < 2 ^ 2 ^ w' → (∀ c, c < 2 ^ w' → t'.testBit c = t.testBit (c % 2 ^ w)) → P (.int t')
theorem ok_spread (F : Fun K "spread" "spread" s_spread f fd) (m_range : mg "range" = none) : FnOk P w K mg base CX0 1 f fd ["truths", "width", "wider"] (spP K spSpread) := by
  refine dfn (N := N_spread) F sc_spread (by decide) (fun ds Q ⟨_, _, _, e, _⟩ => by rw [e]; rfl) (fun cdv A outer s H E hr => (dss_cons (ds_for (di_range2 m_range (da_cons (de_name 1) (da_cons (de_name 2) da_nil))) (dg_name (i := 3) sc_spread.nd)
  (dss_one (ds_set (i := 0) (de_or (de_name 0) (de_shl (de_name 0) (de_shl de_int (de_name 3)))) sc_spread.nd)) (fun hg hi hb => ps_for PassesOwn.never rfl hi hg hb))
  (dss_one (ds_ret (de_nameF 0))))) ?_
  rintro ds Q ⟨t, w, w', rfl, hww, hw', ht, hQ⟩
  refine ⟨w, w', rfl, ⟨by omega, by omega, by omega, by omega⟩, ?_⟩
  have en : ((w' : Int) - (w : Int)).toNat = w' - w := by omega
  refine ⟨fun i ρ => ∃ (x : Nat) (fx : Fr) (b : Sl), ρ = [.val (.int x) fx, .val (.int w) .o, .val (.int w') .o, b] ∧ x < 2 ^ 2 ^ (w + i) ∧ ∀ c, c < 2 ^ (w + i) → x.testBit c = t.testBit (c % 2 ^ w), ⟨t, .o, .no, rfl, ht, fun c hc => by rw [Nat.mod_eq_of_lt (by simpa using hc)]⟩, ?_, ?_⟩
  · rintro i d ρ hd ⟨x, fx, b, rfl, hx, hb⟩
    obtain ⟨hi, rfl⟩ := range_map hd
    rw [en] at hi
    have h16 : w + i ≤ 16 := by omega
    have h2 := p16 h16
    have e1 : (w : Int) + (i : Nat) = ((w + i : Nat) : Int) := by omega
    have e2 : (1 : Int) * (2 : Int) ^ ((w : Int) + (i : Nat)).toNat = ((2 ^ (w + i) : Nat) : Int) := by rw [e1, Int.toNat_natCast, Int.one_mul, i2pow]
    have e3 : (x : Int) * (2 : Int) ^ ((1 : Int) * (2 : Int) ^ ((w : Int) + (i : Nat)).toNat).toNat = ((x <<< 2 ^ (w + i) : Nat) : Int) := by
      rw [e2, Int.toNat_natCast, i2pow, Nat.shiftLeft_eq, Int.natCast_mul]
    have hstep := spread_step (Nat.le_add_right w i) t hx hb
    refine ⟨_, rfl, ?_⟩
    refine ⟨by rw [e1]; exact shl1 (n := 1) (by decide) (by omega), ?_, ?_⟩
    · rw [e2]; exact shl1 (n := 2 ^ (w + i)) hx (by omega)
    · refine ⟨True.intro, by simp, x ||| x <<< 2 ^ (w + i), .n, .val (.int ((w : Int) + (i : Nat))) .h, ?_, hstep.1, hstep.2⟩
      show ([.val (.int (Builtin.bitOr (x : Int) ((x : Int) * (2 : Int) ^ ((1 : Int) * (2 : Int) ^ ((w : Int) + (i : Nat)).toNat).toNat))) .n, _, _, _] : En) = _
      rw [e3, bOr]
      rfl
  · rintro ρ ⟨x, fx, b, rfl, hx, hb⟩
    have el : (upto (w : Int) ((w' : Int) - (w : Int)).toNat).length = w' - w := by rw [en]; unfold upto; rw [List.length_map, List.length_range]
    rw [el] at hx hb
    have ew : w + (w' - w) = w' := by omega
    rw [ew] at hx hb
    exact ⟨_, rfl, by simp [frOk, DL.nol], hQ x hx hb⟩

/- fold: 0 truths, 1 width, 2 wider, 3 bit -/
abbrev s_fold : Stmt := top 11
abbrev N_fold : List Str := ["truths", "width", "wider", "bit"]
theorem sc_fold : FnScope N_fold ["truths", "width", "wider"] (defScope s_fold) := ⟨rfl, rfl, rfl, by decide +kernel, rfl, by decide +kernel, by decide +kernel⟩
def spFold : SpD := fun ds P => ∃ t w w' : Nat, ds = [.int t, .int w, .int w'] ∧ w ≤ w' ∧ w' ≤ 16 ∧ t < 2 ^ 2 ^ w' ∧ ∀ t' : Nat, t' < 2 ^ 2 ^ w → (∀ c, c < 2 ^ w → (t'.testBit c = true ↔ ∃ A, A < 2 ^ (w' - w) ∧ t.testBit (c + 2 ^ w * A) = true)) → P (.int t')
theorem ok_fold (F : Fun K "fold" "fold" s_fold f fd) (m_range : mg "range" = none) (C_always : Cal P w K mg base "always" 1 (spP K spAlways)) : FnOk P w K mg base CX0 2 f fd ["truths", "width", "wider"] (spP K spFold) := by
  refine dfn (N := N_fold) F sc_fold (by decide) (fun ds Q ⟨_, _, _, e, _⟩ => by rw [e]; rfl) (fun cdv A outer s H E hr => (dss_cons (ds_for (di_range3 m_range (da_cons (de_sub (de_name 2) de_int) (da_cons (de_sub (de_name 1) de_int) (da_cons (de_neg de_int) da_nil))) (fun h => pi_range3 rfl m_range h)) (dg_name (i := 3) sc_fold.nd)
  (dss_one (ds_set (i := 0) (de_or (de_shr (de_name 0) (de_shl de_int (de_name 3))) (de_and (de_name 0) (de_call C_always hr (by omega) (da_cons (de_name 3) da_nil)))) sc_fold.nd)) (fun hg hi hb => ps_for PassesOwn.never rfl hi hg hb))
  (dss_one (ds_ret (de_nameF 0))))) ?_
  rintro ds Q ⟨t, w, w', rfl, hww, hw', ht, hQ⟩
  have en : (((w' : Int) - 1) - ((w : Int) - 1)).toNat = w' - w := by omega
  refine ⟨True.intro, True.intro, 1, rfl, (w' : Int) - 1, (w : Int) - 1, -1, (((w' : Int) - 1) - ((w : Int) - 1)).toNat, rfl, RgC.neg (by omega) (by omega) (by omega) (by omega), ?_⟩
  rw [en]
  refine ⟨fun i ρ => ∃ (x : Nat) (fx : Fr) (b : Sl), ρ = [.val (.int x) fx, .val (.int w) .o, .val (.int w') .o, b] ∧ x < 2 ^ 2 ^ (w' - i) ∧ ∀ c, c < 2 ^ (w' - i) → (x.testBit c = true ↔ ∃ A, A < 2 ^ i ∧ t.testBit (c + 2 ^ (w' - i) * A) = true), ⟨t, .o, .no, rfl, ht, fun c hc => ⟨fun h => ⟨0, by simp, by simpa using h⟩, fun ⟨A, hA, h⟩ => by
    have : A = 0 := by simpa using hA
    subst this
    simpa using h⟩⟩, ?_, ?_⟩
  · rintro i d ρ hd ⟨x, fx, b, rfl, hx, hb⟩
    obtain ⟨hi, rfl⟩ := range_map hd
    obtain ⟨bb, hbb⟩ : ∃ bb, w' - i = bb + 1 := ⟨w' - i - 1, by omega⟩
    have hbb' : w' - (i + 1) = bb := by omega
    have h2 := p16 (show bb ≤ 16 by omega)
    have e1 : (w' : Int) - 1 + (i : Nat) * (-1 : Int) = (bb : Int) := by omega
    rw [hbb] at hx hb
    have hstep := fold_step hx
    refine ⟨_, rfl, ?_⟩
    rw [e1]
    have e2 : (1 : Int) * (2 : Int) ^ (bb : Int).toNat = ((2 ^ bb : Nat) : Int) := by rw [Int.toNat_natCast, Int.one_mul, i2pow]
    have e3 : (x : Int) / (2 : Int) ^ ((1 : Int) * (2 : Int) ^ (bb : Int).toNat).toNat = ((x >>> 2 ^ bb : Nat) : Int) := by
      rw [e2, Int.toNat_natCast, i2pow, Nat.shiftRight_eq_div_pow, Int.natCast_ediv]
    refine ⟨shl1 (n := 1) (by decide) (by omega), ⟨?_, ?_⟩⟩
    · rw [e2]; exact Int.natCast_nonneg _
    · refine ⟨bb, rfl, by omega, True.intro, True.intro, by simp, x >>> 2 ^ bb ||| x &&& (2 ^ 2 ^ bb - 1), .n, .val (.int (bb : Int)) .h, ?_, by rw [hbb']; exact hstep.1, fun c hc => ?_⟩
      · show ([.val (.int (Builtin.bitOr ((x : Int) / (2 : Int) ^ ((1 : Int) * (2 : Int) ^ (bb : Int).toNat).toNat) (Builtin.bitAnd (x : Int) ((2 ^ 2 ^ bb - 1 : Nat) : Int)))) .n, _, _, _] : En) = _
        rw [e3, bAnd, bOr]
        rfl
      · rw [hbb'] at hc ⊢
        rw [hstep.2 c hc, Bool.or_eq_true]
        have hp := Nat.two_pow_pos bb
        have e5 : 2 ^ (bb + 1) = 2 ^ bb + 2 ^ bb := by rw [Nat.pow_succ]; omega
        rw [hb c (by omega), hb (c + 2 ^ bb) (by omega)]
        have e6 : 2 ^ (i + 1) = 2 * 2 ^ i := by rw [Nat.pow_succ, Nat.mul_comm]
        have e7 : ∀ A, 2 ^ (bb + 1) * A = 2 ^ bb * (2 * A) := fun A => by rw [Nat.pow_succ, Nat.mul_assoc]
        have e8 : ∀ A, 2 ^ bb * (2 * A + 1) = 2 ^ bb + 2 ^ bb * (2 * A) := fun A => by rw [Nat.mul_add, Nat.mul_one, Nat.add_comm]
        constructor
        · rintro (⟨A, hA, h⟩ | ⟨A, hA, h⟩)
          · exact ⟨2 * A, by omega, by rw [← e7]; exact h⟩
          · exact ⟨2 * A + 1, by omega, by rw [e8, ← Nat.add_assoc, ← e7]; exact h⟩
        · rintro ⟨A, hA, h⟩
          rcases Nat.mod_two_eq_zero_or_one A with hm | hm
          · refine .inl ⟨A / 2, by omega, ?_⟩
            rw [e7, show 2 * (A / 2) = A by omega]; exact h
          · refine .inr ⟨A / 2, by omega, ?_⟩
            rw [e7, Nat.add_assoc, ← e8, show 2 * (A / 2) + 1 = A by omega]; exact h
  · rintro ρ ⟨x, fx, b, rfl, hx, hb⟩
    have el : (steps ((w' : Int) - 1) (-1) (w' - w)).length = w' - w := by unfold steps; rw [List.length_map, List.length_range]
    rw [el] at hx hb
    rw [show w' - (w' - w) = w by omega] at hx hb
    exact ⟨_, rfl, by simp [frOk, DL.nol], hQ x hx hb⟩

/-- a set as the program carries it: for each place its truths, and their width -/
abbrev Ms := List (Nat × Nat)
def msD (l : Ms) : List D := l.map fun p => .tup [.int p.1, .int p.2]
def side (w n : Nat) : Ms := (List.range n).map fun p => ((2 ^ 2 ^ (w + p) - 1) <<< 2 ^ (w + p), w + p + 1)
def alone (A n : Nat) : Ms := (List.range n).map fun p => ((A >>> p) &&& 1, 0)
/- set_side_by_side: 0 width, 1 wider, 2 bit -/
abbrev s_set_side_by_side : Stmt := top 7
abbrev N_set_side_by_side : List Str := ["width", "wider", "bit"]
theorem sc_set_side_by_side : FnScope N_set_side_by_side ["width", "wider"] (defScope s_set_side_by_side) := ⟨rfl, rfl, rfl, by decide +kernel, rfl, by decide +kernel, by decide +kernel⟩
def spSide : SpD := fun ds P => ∃ w w' : Nat, ds = [.int w, .int w'] ∧ w ≤ w' ∧ w' ≤ 16 ∧ P (.lst (msD (side w (w' - w))))
theorem ok_side (F : Fun K "set_side_by_side" "set_side_by_side" s_set_side_by_side f fd) (m_range : mg "range" = none) (C_always : Cal P w K mg base "always" 1 (spP K spAlways)) : FnOk P w K mg base CX0 2 f fd ["width", "wider"] (spP K spSide) := by
  refine dfn (N := N_set_side_by_side) F sc_set_side_by_side (by decide) (fun ds Q ⟨_, _, e, _⟩ => by rw [e]; rfl) (fun cdv A outer s H E hr => (dss_one (ds_ret (de_lc rfl sc_set_side_by_side.nd (di_range2 m_range (da_cons (de_name 0) (da_cons (de_name 1) da_nil))) (blkOk_by (own := [("bit", 2)]) (N := N_set_side_by_side) (sc := defScope s_set_side_by_side) (by decide +kernel)) (g := (.one 2)) (by decide) (fun _ => (dg_name (i := 2) sc_set_side_by_side.nd)) (fun _ => dts_nil) (fun _ => (de_tup (da_cons (de_shl (de_call C_always hr (by omega) (da_cons (de_name 2) da_nil)) (de_shl de_int (de_name 2))) (da_cons (de_add (de_name 2) de_int) da_nil)))))))) ?_
  rintro ds Q ⟨w, w', rfl, hww, hw', hQ⟩
  have en : ((w' : Int) - (w : Int)).toNat = w' - w := by omega
  refine ⟨w, w', rfl, ⟨by omega, by omega, by omega, by omega⟩, rfl, .n, fun i acc ρ => acc = msD (side w i) ∧ ρ = [.val (.int w) .o, .val (.int w') .o, .no], ⟨rfl, rfl⟩, ?_, ?_⟩
  · rintro i d acc ρ hd ⟨rfl, rfl⟩
    obtain ⟨hi, rfl⟩ := range_map hd
    rw [en] at hi
    have h2 := p16 (show w + i ≤ 16 by omega)
    have e1 : (w : Int) + (i : Nat) = ((w + i : Nat) : Int) := by omega
    rw [e1]
    have e2 : (1 : Int) * (2 : Int) ^ ((w + i : Nat) : Int).toNat = ((2 ^ (w + i) : Nat) : Int) := by rw [Int.toNat_natCast, Int.one_mul, i2pow]
    refine ⟨_, rfl, fun _ => ?_, fun h => by cases h⟩
    refine ⟨w + i, rfl, by omega, shl1 (n := 1) (by decide) (by omega), ?_, ?_⟩
    · rw [e2]
      refine shl1 (n := 2 ^ (w + i)) ?_ (by omega)
      have := Nat.two_pow_pos (2 ^ (w + i))
      rw [Int.natAbs_natCast]; omega
    · refine ⟨_, rfl, rfl, ?_, ?_, rfl⟩
      · have : (msD (side w i)).length = i := by unfold msD side; rw [List.length_map, List.length_map, List.length_range]
        rw [this, sizeLine_eq]; omega
      · show msD (side w i) ++ [.tup [.int (((2 ^ 2 ^ (w + i) - 1 : Nat) : Int) * (2 : Int) ^ ((1 : Int) * (2 : Int) ^ ((w + i : Nat) : Int).toNat).toNat), .int (((w + i : Nat) : Int) + 1)]] = msD (side w (i + 1))
        have e3 : ((2 ^ 2 ^ (w + i) - 1 : Nat) : Int) * (2 : Int) ^ ((1 : Int) * (2 : Int) ^ ((w + i : Nat) : Int).toNat).toNat = (((2 ^ 2 ^ (w + i) - 1) <<< 2 ^ (w + i) : Nat) : Int) := by
          rw [e2, Int.toNat_natCast, i2pow, Nat.shiftLeft_eq, Int.natCast_mul]
        rw [e3]
        unfold msD side
        rw [List.range_succ, List.map_append, List.map_append]
        rfl
  · rintro acc ρ ⟨rfl, rfl⟩
    refine ⟨_, rfl, by simp [frOk], ?_⟩
    have el : (upto (w : Int) ((w' : Int) - (w : Int)).toNat).length = w' - w := by rw [en]; unfold upto; rw [List.length_map, List.length_range]
    rw [el]
    exact hQ
/- set_alone: 0 choice, 1 many, 2 place -/
abbrev s_set_alone : Stmt := top 8
abbrev N_set_alone : List Str := ["choice", "many", "place"]
theorem sc_set_alone : FnScope N_set_alone ["choice", "many"] (defScope s_set_alone) := ⟨rfl, rfl, rfl, by decide +kernel, rfl, by decide +kernel, by decide +kernel⟩
def spAlone : SpD := fun ds P => ∃ A n : Nat, ds = [.int A, .int n] ∧ n ≤ 1000 ∧ P (.lst (msD (alone A n)))
theorem ok_alone (F : Fun K "set_alone" "set_alone" s_set_alone f fd) (m_range : mg "range" = none) : FnOk P w K mg base CX0 1 f fd ["choice", "many"] (spP K spAlone) := by
  refine dfn (N := N_set_alone) F sc_set_alone (by decide) (fun ds Q ⟨_, _, e, _⟩ => by rw [e]; rfl) (fun cdv A outer s H E hr => (dss_one (ds_ret (de_lc rfl sc_set_alone.nd (di_range1 m_range (da_cons (de_name 1) da_nil)) (blkOk_by (own := [("place", 2)]) (N := N_set_alone) (sc := defScope s_set_alone) (by decide +kernel)) (g := (.one 2)) (by decide) (fun _ => (dg_name (i := 2) sc_set_alone.nd)) (fun _ => dts_nil) (fun _ => (de_tup (da_cons (de_and (de_shr (de_name 0) (de_name 2)) de_int) (da_cons de_int da_nil)))))))) ?_
  rintro ds Q ⟨A, n, rfl, hn, hQ⟩
  refine ⟨n, rfl, ⟨by omega, by omega⟩, rfl, .n, fun i acc ρ => acc = msD (alone A i) ∧ ρ = [.val (.int A) .o, .val (.int n) .o, .no], ⟨rfl, rfl⟩, ?_, ?_⟩
  · rintro i d acc ρ hd ⟨rfl, rfl⟩
    obtain ⟨hi, rfl⟩ := range_map hd
    rw [Int.toNat_natCast] at hi
    have e1 : (0 : Int) + (i : Nat) = ((i : Nat) : Int) := by omega
    rw [e1]
    refine ⟨_, rfl, fun _ => ?_, fun h => by cases h⟩
    refine ⟨by omega, True.intro, _, rfl, rfl, ?_, ?_, rfl⟩
    · have : (msD (alone A i)).length = i := by unfold msD alone; rw [List.length_map, List.length_map, List.length_range]
      rw [this, sizeLine_eq]; omega
    · show msD (alone A i) ++ [.tup [.int (Builtin.bitAnd ((A : Int) / (2 : Int) ^ ((i : Nat) : Int).toNat) 1), .int 0]] = msD (alone A (i + 1))
      have e3 : (A : Int) / (2 : Int) ^ ((i : Nat) : Int).toNat = ((A >>> i : Nat) : Int) := by rw [Int.toNat_natCast, i2pow, Nat.shiftRight_eq_div_pow, Int.natCast_ediv]
      rw [e3, show (1 : Int) = ((1 : Nat) : Int) from rfl, bAnd]
      unfold msD alone
      rw [List.range_succ, List.map_append, List.map_append]
      rfl
  · rintro acc ρ ⟨rfl, rfl⟩
    refine ⟨_, rfl, by simp [frOk], ?_⟩
    have el : (upto (0 : Int) ((n : Int)).toNat).length = n := by unfold upto; rw [List.length_map, List.length_range, Int.toNat_natCast]
    rw [el]
    exact hQ
end
end K9

namespace K9
open PySem L2 DL
/-! ### sayings, environments as the program carries them -/
def toD : Sy Str → D
  | .letter n c => .tup [.str "letter", .str n, .str c]
  | .ahead n m => .tup [.str "ahead", .str n, .str m]
  | .same n m => .tup [.str "same", .str n, .str m]
  | .within n m => .tup [.str "within", .str n, .str m]
  | .not x => .tup [.str "not", toD x]
  | .and x y => .tup [.str "and", toD x, toD y]
  | .or x y => .tup [.str "or", toD x, toD y]
  | .place n x => .tup [.str "place", .str n, toD x]
  | .set n x => .tup [.str "set", .str n, toD x]
theorem toD_nol : ∀ s : Sy Str, DL.nol (toD s) = true
  | .letter _ _ => rfl
  | .ahead _ _ => rfl
  | .same _ _ => rfl
  | .within _ _ => rfl
  | .not x => by unfold toD DL.nol; simp [nols, DL.nol, toD_nol x]
  | .and x y => by unfold toD DL.nol; simp [nols, DL.nol, toD_nol x, toD_nol y]
  | .or x y => by unfold toD DL.nol; simp [nols, DL.nol, toD_nol x, toD_nol y]
  | .place _ x => by unfold toD DL.nol; simp [nols, DL.nol, toD_nol x]
  | .set _ x => by unfold toD DL.nol; simp [nols, DL.nol, toD_nol x]
def wl (z : Str) : List Str := z.cps.toList.map fun c => ⟨#[c]⟩
theorem wl_len (z : Str) : (wl z).length = z.cps.size := by unfold wl; simp
inductive PTh where
  | pl (k : Nat) | st (l : Ms)
def thD : PTh → D
  | .pl k => .int k
  | .st l => .lst (msD l)
def atC (c : Nat) : PTh → Th
  | .pl k => .pl k
  | .st l => .st fun p => (l.getD p (0, 0)).1.testBit (c % 2 ^ (l.getD p (0, 0)).2)
def isPl : PTh → Bool
  | .pl _ => true
  | .st _ => false
abbrev PE' := List (Str × PTh)
def envAt (c : Nat) (e : PE') : List (Str × Th) := e.map fun p => (p.1, atC c p.2)
def srtOf (e : PE') : List (Str × Bool) := e.map fun p => (p.1, isPl p.2)
theorem look_map {α β γ : Type} [DecidableEq α] (n : α) (g : β → γ) : ∀ e : List (α × β), look n (e.map fun p => (p.1, g p.2)) = (look n e).map g
  | [] => rfl
  | (m, b) :: r => by
    rw [List.map_cons]
    unfold look
    by_cases h : m = n
    · rw [if_pos h, if_pos h]; rfl
    · rw [if_neg h, if_neg h]; exact look_map n g r
def POk (n w : Nat) : PTh → Prop
  | .pl k => k < n
  | .st l => l.length = n ∧ ∀ q ∈ l, q.2 ≤ w ∧ q.1 < 2 ^ 2 ^ q.2
theorem POk.wid {n w w' : Nat} (h : w ≤ w') : ∀ {t : PTh}, POk n w t → POk n w' t
  | .pl _, q => q
  | .st _, q => ⟨q.1, fun x hx => ⟨Nat.le_trans (q.2 x hx).1 h, (q.2 x hx).2⟩⟩
structure EnvOk (n w : Nat) (ks : List Key) (vs : List D) (e : PE') : Prop where
  len : ks.length = vs.length
  all : ∀ p ∈ e, POk n w p.2
  at_ : ∀ m th, look m e = some th → lookD ks vs (.inr m) = some (thD th) ∧ POk n w th
theorem EnvOk.nil {n w : Nat} : EnvOk n w [] [] [] := ⟨rfl, fun _ h => absurd h (by simp), fun _ _ h => by cases h⟩
theorem EnvOk.wid {n w w' : Nat} {ks : List Key} {vs : List D} {e : PE'} (h : w ≤ w') (k : EnvOk n w ks vs e) : EnvOk n w' ks vs e := ⟨k.len, fun p hp => (k.all p hp).wid h, fun m th q => ⟨(k.at_ m th q).1, (k.at_ m th q).2.wid h⟩⟩
theorem lookD_append {α : Type} {x : Key} {d : α} : ∀ {ks : List Key} {ds : List α}, ks.length = ds.length → ks.any (fun k => decide (k = x)) = false → lookD (ks ++ [x]) (ds ++ [d]) x = some d
  | [], [], _, _ => by unfold lookD; exact if_pos rfl
  | k :: ks, y :: ds, hl, h => by
    rw [List.any_cons, Bool.or_eq_false_iff] at h
    show (if k = x then _ else _) = _
    rw [if_neg (of_decide_eq_false h.1)]
    exact lookD_append (by simpa using hl) h.2
theorem lookD_app_ne {α : Type} {x y : Key} {d : α} (n : x ≠ y) : ∀ {ks : List Key} {ds : List α}, ks.length = ds.length → lookD (ks ++ [x]) (ds ++ [d]) y = lookD ks ds y
  | [], [], _ => by show (if x = y then _ else _) = _; rw [if_neg n]
  | k :: ks, z :: ds, hl => by
    show (if k = y then _ else _) = (if k = y then _ else _)
    by_cases h : k = y
    · rw [if_pos h, if_pos h]
    · rw [if_neg h, if_neg h]; exact lookD_app_ne n (by simpa using hl)
theorem lookD_zip {α : Type} {x : Key} {d : α} : ∀ {ks : List Key} {ds : List α}, ks.length = ds.length → ks.any (fun k => decide (k = x)) = true → lookD ks (List.zipWith (fun k y => if k = x then d else y) ks ds) x = some d
  | k :: ks, z :: ds, hl, h => by
    rw [List.zipWith_cons_cons]
    show (if k = x then _ else _) = _
    by_cases hk : k = x
    · rw [if_pos hk, if_pos hk]
    · rw [if_neg hk]
      rw [List.any_cons, decide_eq_false hk, Bool.false_or] at h
      exact lookD_zip (by simpa using hl) h
  | [], [], _, h => by cases h
theorem lookD_zip_ne {α : Type} {x y : Key} {d : α} (n : x ≠ y) : ∀ {ks : List Key} {ds : List α}, ks.length = ds.length → lookD ks (List.zipWith (fun k y => if k = x then d else y) ks ds) y = lookD ks ds y
  | k :: ks, z :: ds, hl => by
    rw [List.zipWith_cons_cons]
    show (if k = y then _ else _) = (if k = y then _ else _)
    by_cases hk : k = y
    · rw [if_pos hk, if_pos hk, if_neg (fun e => n (e.symm.trans hk))]
    · rw [if_neg hk, if_neg hk]; exact lookD_zip_ne n (by simpa using hl)
  | [], [], _ => rfl
theorem lookD_put {α : Type} {x : Key} {d : α} {ks : List Key} {ds : List α} (hl : ks.length = ds.length) : lookD (putKs ks x) (putDs ks ds x d) x = some d := by
  unfold putKs putDs
  by_cases h : ks.any (fun k => decide (k = x)) = true
  · rw [if_pos h, if_pos h]; exact lookD_zip hl h
  · rw [if_neg h, if_neg h]; exact lookD_append hl (Bool.eq_false_iff.mpr h)
theorem lookD_put_ne {α : Type} {x y : Key} {d : α} {ks : List Key} {ds : List α} (hl : ks.length = ds.length) (n : x ≠ y) : lookD (putKs ks x) (putDs ks ds x d) y = lookD ks ds y := by
  unfold putKs putDs
  by_cases h : ks.any (fun k => decide (k = x)) = true
  · rw [if_pos h, if_pos h]; exact lookD_zip_ne n hl
  · rw [if_neg h, if_neg h]; exact lookD_app_ne n hl
theorem put_len {α : Type} {x : Key} {d : α} {ks : List Key} {ds : List α} (hl : ks.length = ds.length) : (putKs ks x).length = (putDs ks ds x d).length := by
  unfold putKs putDs
  by_cases h : ks.any (fun k => decide (k = x)) = true
  · rw [if_pos h, if_pos h, List.length_zipWith, ← hl, Nat.min_self]
  · rw [if_neg h, if_neg h, List.length_append, List.length_append, hl]; rfl
theorem putKs_len (ks : List Key) (x : Key) : (putKs ks x).length ≤ ks.length + 1 := by
  unfold putKs
  by_cases h : ks.any (fun k => decide (k = x)) = true
  · rw [if_pos h]; omega
  · rw [if_neg h, List.length_append]; exact Nat.le_refl _
theorem EnvOk.put {n w : Nat} {ks : List Key} {vs : List D} {e : PE'} (k : EnvOk n w ks vs e) (m : Str) {th : PTh} (h : POk n w th) : EnvOk n w (putKs ks (.inr m)) (putDs ks vs (.inr m) (thD th)) ((m, th) :: e) := by
  refine ⟨put_len k.len, fun p hp => (List.mem_cons.mp hp).elim (fun z => by rw [z]; exact h) (k.all p), fun x t q => ?_⟩
  unfold look at q
  by_cases hm : m = x
  · rw [if_pos hm] at q
    cases q
    subst hm
    exact ⟨lookD_put k.len, h⟩
  · rw [if_neg hm] at q
    rw [lookD_put_ne k.len (fun z => hm (Sum.inr.inj z))]
    exact k.at_ x t q
theorem srt_pl {m : Str} {e : PE'} (h : look m (srtOf e) = some true) : ∃ k, look m e = some (.pl k) := by
  unfold srtOf at h
  rw [look_map] at h
  cases q : look m e with
  | none => rw [q] at h; cases h
  | some t =>
    cases t with
    | pl k => exact ⟨k, rfl⟩
    | st l => rw [q] at h; cases h
theorem srt_st {m : Str} {e : PE'} (h : look m (srtOf e) = some false) : ∃ l, look m e = some (.st l) := by
  unfold srtOf at h
  rw [look_map] at h
  cases q : look m e with
  | none => rw [q] at h; cases h
  | some t =>
    cases t with
    | pl k => rw [q] at h; cases h
    | st l => exact ⟨l, rfl⟩
theorem env_look {m : Str} {e : PE'} (c : Nat) {t : PTh} (h : look m e = some t) : look m (envAt c e) = some (atC c t) := by
  unfold envAt
  rw [look_map, h]; rfl
/-- two choices that a set's own width doesn't tell apart -/
theorem atC_eq {n w c c' : Nat} (hc : ∀ k, k ≤ w → c' % 2 ^ k = c % 2 ^ k) : ∀ {t : PTh}, POk n w t → ThEq n (atC c' t) (atC c t)
  | .pl k, h => ⟨rfl, h⟩
  | .st l, h => fun p hp => by
    show (l.getD p (0, 0)).1.testBit (c' % 2 ^ (l.getD p (0, 0)).2) = (l.getD p (0, 0)).1.testBit (c % 2 ^ (l.getD p (0, 0)).2)
    have hm : l.getD p (0, 0) ∈ l := by
      rw [List.getD_eq_getElem?_getD, List.getElem?_eq_getElem (by rw [h.1]; exact hp)]
      exact List.getElem_mem _
    rw [hc _ (h.2 _ hm).1]
theorem sort_at (c : Nat) (t : PTh) : sortOf (atC c t) = isPl t := by cases t <;> rfl
theorem env_eq {n w c c' : Nat} (hc : ∀ k, k ≤ w → c' % 2 ^ k = c % 2 ^ k) : ∀ {e : PE'}, (∀ p ∈ e, POk n w p.2) → EnvEq n (envAt c' e) (envAt c e) (srtOf e)
  | [], _ => .nil
  | (m, t) :: e, h => by
    show EnvEq n ((m, atC c' t) :: envAt c' e) ((m, atC c t) :: envAt c e) ((m, isPl t) :: srtOf e)
    rw [← sort_at c' t]
    exact .cons (atC_eq hc (h _ List.mem_cons_self)) (env_eq hc fun p hp => h p (List.mem_cons_of_mem _ hp))
theorem side_len (w n : Nat) : (side w n).length = n := by unfold side; rw [List.length_map, List.length_range]
theorem alone_len (A n : Nat) : (alone A n).length = n := by unfold alone; rw [List.length_map, List.length_range]
theorem side_ok (w n : Nat) : POk n (w + n) (.st (side w n)) := by
  refine ⟨side_len w n, fun q hq => ?_⟩
  unfold side at hq
  obtain ⟨p, hp, rfl⟩ := List.mem_map.mp hq
  have := List.mem_range.mp hp
  exact ⟨by show w + p + 1 ≤ w + n; omega, side_lt (w + p)⟩
theorem alone_ok (A n w : Nat) : POk n w (.st (alone A n)) := by
  refine ⟨alone_len A n, fun q hq => ?_⟩
  unfold alone at hq
  obtain ⟨p, hp, rfl⟩ := List.mem_map.mp hq
  exact ⟨Nat.zero_le _, Nat.lt_of_le_of_lt Nat.and_le_right (show 1 < 2 ^ 2 ^ 0 by decide)⟩
/-- a set of the side-by-side ones, at a choice: the one that its part of the choice means -/
theorem side_at {n w A c : Nat} (hc : c < 2 ^ w) : ThEq n (atC (c + 2 ^ w * A) (.st (side w n))) (.st fun p => A.testBit p) := fun p hp => by
  have e : (side w n).getD p (0, 0) = ((2 ^ 2 ^ (w + p) - 1) <<< 2 ^ (w + p), w + p + 1) := by
    rw [List.getD_eq_getElem?_getD]
    unfold side
    rw [List.getElem?_map, List.getElem?_range hp]; rfl
  show ((side w n).getD p (0, 0)).1.testBit ((c + 2 ^ w * A) % 2 ^ ((side w n).getD p (0, 0)).2) = A.testBit p
  rw [e]
  exact side_bit hc
theorem alone_at {n A c : Nat} : ThEq n (atC c (.st (alone A n))) (.st fun p => A.testBit p) := fun p hp => by
  have e : (alone A n).getD p (0, 0) = ((A >>> p) &&& 1, 0) := by
    rw [List.getD_eq_getElem?_getD]
    unfold alone
    rw [List.getElem?_map, List.getElem?_range hp]; rfl
  show ((alone A n).getD p (0, 0)).1.testBit (c % 2 ^ ((alone A n).getD p (0, 0)).2) = A.testBit p
  rw [e]
  show ((A >>> p) &&& 1).testBit (c % 2 ^ 0) = A.testBit p
  rw [Nat.pow_zero, Nat.mod_one]
  exact and_one_bit A p
/-- the truths t of s, at all choices -/
def TrOk (t w : Nat) (wd : Str) (s : Sy Str) (e : PE') : Prop := t < 2 ^ 2 ^ w ∧ ∀ c, c < 2 ^ w → t.testBit c = sem (wl wd) s (envAt c e)
theorem or_inv {t t' c i : Nat} {F : Nat → Bool} (h : t.testBit c = true ↔ ∃ k, k < i ∧ F k = true) (h' : t'.testBit c = F i) : (t ||| t').testBit c = true ↔ ∃ k, k < i + 1 ∧ F k = true := by
  rw [Nat.testBit_or, Bool.or_eq_true, h, h']
  constructor
  · rintro (⟨k, hk, q⟩ | q)
    · exact ⟨k, by omega, q⟩
    · exact ⟨i, by omega, q⟩
  · rintro ⟨k, hk, q⟩
    by_cases z : k = i
    · subst z; exact .inr q
    · exact .inl ⟨k, by omega, q⟩
theorem any_of {t c n : Nat} {F : Nat → Bool} (h : t.testBit c = true ↔ ∃ k, k < n ∧ F k = true) : t.testBit c = (List.range n).any F := by
  rw [Bool.eq_iff_iff, h, List.any_eq_true]
  constructor
  · rintro ⟨k, hk, q⟩; exact ⟨k, List.mem_range.mpr hk, q⟩
  · rintro ⟨k, hk, q⟩; exact ⟨k, List.mem_range.mp hk, q⟩
/-- all true: so it stays -/
theorem any_full {w c n i : Nat} {F : Nat → Bool} (hc : c < 2 ^ w) (hi : i ≤ n) (h : (2 ^ 2 ^ w - 1).testBit c = true ↔ ∃ k, k < i ∧ F k = true) : (2 ^ 2 ^ w - 1).testBit c = (List.range n).any F := by
  refine any_of ⟨fun z => ?_, fun _ => by rw [Nat.testBit_two_pow_sub_one]; exact decide_eq_true hc⟩
  obtain ⟨k, hk, q⟩ := h.mp z
  exact ⟨k, by omega, q⟩
end K9

namespace K9
open PySem L2 DL
section
variable {P : Program} {w : World} {K : PySem.W.Frag} {mg : Str → Option Value} {base : Heap} {f : Addr} {fd : FuncData}
theorem var_at {i : Nat} {d : D} {f : Fr} {ρ : En} {Q : Rv → En → Prop} (h : ρ.getD i .no = .val d f) (q : Q (.v d (if f = .o then .o else .h)) ρ) : dVar i ρ Q := by
  unfold dVar; rw [h]; exact q
theorem kF {i : Nat} {lit kd : Str} {f : Fr} {ρ : En} {E : ED} {A U : TSD} (h : ρ.getD i .no = .val (.str kd) f) (n : kd ≠ lit) (u : U E ρ) : dSeq (dIf (dTest (dOp (pEq false) (dVar i) (dC (.str lit)))) A dNext) U E ρ := by
  unfold dSeq dIf dTest dOp
  refine var_at h ?_
  refine ⟨rfl, _, rfl, fun z => ?_, fun _ => u⟩
  change (false ^^ eqD (.str kd) (.str lit)) = true at z
  rw [Bool.false_xor, eqD_str] at z
  exact absurd (of_decide_eq_true z) n
theorem kT {i : Nat} {lit : Str} {f : Fr} {ρ : En} {E : ED} {A U : TSD} (h : ρ.getD i .no = .val (.str lit) f) (u : A { E with nx := U E } ρ) : dSeq (dIf (dTest (dOp (pEq false) (dVar i) (dC (.str lit)))) A dNext) U E ρ := by
  unfold dSeq dIf dTest dOp
  refine var_at h ?_
  refine ⟨rfl, _, rfl, fun _ => u, fun z => ?_⟩
  change (false ^^ eqD (.str lit) (.str lit)) = false at z
  rw [Bool.false_xor, eqD_str, decide_eq_true rfl] at z
  cases z
/- holds: 0 leaf, 1 word, 2 around, 3 place, 4 kind, 5 name, 6 other -/
abbrev s_holds : Stmt := top 4
abbrev N_holds : List Str := ["leaf", "word", "around", "place", "kind", "name", "other"]
theorem sc_holds : FnScope N_holds ["leaf", "word", "around"] (defScope s_holds) := ⟨rfl, rfl, rfl, by decide +kernel, rfl, by decide +kernel, by decide +kernel⟩
def isLf : Sy Str → Bool
  | .letter _ _ => true
  | .ahead _ _ => true
  | .same _ _ => true
  | _ => false
theorem atI_nat {α : Type} {xs : List α} {k : Nat} {x : α} (h : xs[k]? = some x) : atI xs (k : Int) = some x := by
  have hl := (List.getElem?_eq_some_iff.mp h).1
  unfold atI ixN
  rw [if_pos (by omega), if_pos (by omega)]
  exact h
theorem wl_get {z : Str} {k : Nat} (h : k < z.cps.size) : ∃ c, z.cps.toList[k]? = some c ∧ (wl z)[k]? = some ⟨#[c]⟩ := by
  have hl : k < z.cps.toList.length := by simpa using h
  refine ⟨z.cps.toList[k], List.getElem?_eq_getElem hl, ?_⟩
  unfold wl
  rw [List.getElem?_map, List.getElem?_eq_getElem hl]; rfl
/-- a leaf without a set: as it is at any choice -/
def spHolds : SpD := fun ds P => ∃ s wd ks vs e wi, ds = [toD s, .str wd, .dic ks vs] ∧ isLf s = true ∧ Wh s (srtOf e) ∧ wd.length ≤ 16 ∧ EnvOk wd.length wi ks vs e ∧ ∀ b : Bool, (∀ c, b = sem (wl wd) s (envAt c e)) → P (.bl b)
theorem ok_holds (F : Fun K "holds" "holds" s_holds f fd) : FnOk P w K mg base CX0 1 f fd ["leaf", "word", "around"] (spP K spHolds) := by
  refine dfn (N := N_holds) F sc_holds (by decide) (fun ds Q ⟨_, _, _, _, _, _, e, _⟩ => by rw [e]; rfl) (fun cdv A outer s H E hr => (dss_cons (ds_unp (de_nameF 0) (dg_tup rfl (dgs_cons (i := 4) sc_holds.nd (dgs_cons (i := 5) sc_holds.nd (dgs_cons (i := 6) sc_holds.nd dgs_nil))) (fun h => pg_tup rfl h)))
  (dss_cons (ds_set (i := 3) (de_dget hr (de_name 2) (de_name 5)) sc_holds.nd)
  (dss_cons (ds_if (dt_eq hr (de_name 4) de_str)
  (dss_one (ds_ret (de_eq hr (de_ix (de_name 1) (de_name 3)) (de_name 6))))
  dss_nil)
  (dss_cons (ds_if (dt_eq hr (de_name 4) de_str)
  (dss_one (ds_ret (de_lt (de_name 3) (de_dget hr (de_name 2) (de_name 6)))))
  dss_nil)
  (dss_one (ds_ret (de_eq hr (de_name 3) (de_dget hr (de_name 2) (de_name 6)))))))))) ?_
  rintro ds Q ⟨s, wd, ks, vs, e, wi, rfl, hs, hw, hwd, he, hQ⟩
  have hlen : wd.length ≤ sizeLine := by rw [sizeLine_eq]; omega
  cases s with
  | letter n c =>
    obtain ⟨k, hk⟩ := srt_pl hw
    obtain ⟨l1, l2⟩ := he.at_ n _ hk
    obtain ⟨ch, c1, c2⟩ := wl_get (z := wd) l2
    refine ⟨_, [.val (toD (.letter n c)) .o, .val (.str wd) .o, .val (.dic ks vs) .o, .no, .val (.str "letter") .o, .val (.str n) .o, .val (.str c) .o], rfl, rfl, ?_⟩
    refine ⟨ks, vs, .inr n, .int k, rfl, rfl, l1, by simp, ?_⟩
    dsimp only
    refine kT (f := .o) ?_ ?_
    · rfl
    refine ⟨k, ch, rfl, hlen, atI_nat c1, rfl, _, rfl, rfl, ?_⟩
    refine hQ _ fun cc => ?_
    unfold sem
    rw [env_look cc hk]
    show (false ^^ eqD (.str ⟨#[ch]⟩) (.str c)) = decide ((wl wd)[k]? = some c)
    rw [c2, Bool.false_xor, eqD_str]
    simp
  | ahead n m =>
    obtain ⟨k, hk⟩ := srt_pl hw.1
    obtain ⟨j, hj⟩ := srt_pl hw.2
    obtain ⟨l1, l2⟩ := he.at_ n _ hk
    obtain ⟨l3, l4⟩ := he.at_ m _ hj
    refine ⟨_, [.val (toD (.ahead n m)) .o, .val (.str wd) .o, .val (.dic ks vs) .o, .no, .val (.str "ahead") .o, .val (.str n) .o, .val (.str m) .o], rfl, rfl, ?_⟩
    refine ⟨ks, vs, .inr n, .int k, rfl, rfl, l1, by simp, ?_⟩
    dsimp only
    refine kF (kd := "ahead") (f := .o) ?_ ?_ (kT (f := .o) ?_ ?_)
    · rfl
    · decide
    · rfl
    refine ⟨ks, vs, .inr m, .int j, rfl, rfl, l3, True.intro, _, rfl, rfl, ?_⟩
    refine hQ _ fun cc => ?_
    unfold sem
    rw [env_look cc hk, env_look cc hj]
    show decide ((k : Int) < (j : Int)) = decide (k < j)
    simp
  | same n m =>
    obtain ⟨k, hk⟩ := srt_pl hw.1
    obtain ⟨j, hj⟩ := srt_pl hw.2
    obtain ⟨l1, l2⟩ := he.at_ n _ hk
    obtain ⟨l3, l4⟩ := he.at_ m _ hj
    refine ⟨_, [.val (toD (.same n m)) .o, .val (.str wd) .o, .val (.dic ks vs) .o, .no, .val (.str "same") .o, .val (.str n) .o, .val (.str m) .o], rfl, rfl, ?_⟩
    refine ⟨ks, vs, .inr n, .int k, rfl, rfl, l1, by simp, ?_⟩
    dsimp only
    refine kF (kd := "same") (f := .o) ?_ ?_ (kF (kd := "same") (f := .o) ?_ ?_ ?_)
    · rfl
    · decide
    · rfl
    · decide
    refine ⟨ks, vs, .inr m, .int j, rfl, rfl, l3, rfl, _, rfl, rfl, ?_⟩
    refine hQ _ fun cc => ?_
    unfold sem
    rw [env_look cc hk, env_look cc hj]
    show (false ^^ eqD (.int k) (.int j)) = decide (k = j)
    rw [Bool.false_xor, eqD_int]
    simp; omega
  | _ => cases hs

def spTr (n : Nat) : SpD := fun ds P => ∃ s wd ks vs e wi, ds = [toD s, .str wd, .dic ks vs, .int (wi : Nat)] ∧ depth s < n ∧ Wh s (srtOf e) ∧ wi ≤ 16 ∧ wd.length ≤ 16 ∧ ks.length + n ≤ 500 ∧ EnvOk wd.length wi ks vs e ∧ ∀ t : Nat, TrOk t wi wd s e → P (.int t)
def spPl (n : Nat) : SpD := fun ds P => ∃ m x wd ks vs e wi, ds = [toD (.place m x), .str wd, .dic ks vs, .int (wi : Nat)] ∧ depth x < n ∧ Wh x ((m, true) :: srtOf e) ∧ wi ≤ 16 ∧ wd.length ≤ 16 ∧ ks.length + n < 500 ∧ EnvOk wd.length wi ks vs e ∧ ∀ t : Nat, TrOk t wi wd (.place m x) e → P (.int t)
def spSt (n : Nat) : SpD := fun ds P => ∃ m x wd ks vs e wi, ds = [toD (.set m x), .str wd, .dic ks vs, .int (wi : Nat)] ∧ depth x < n ∧ Wh x ((m, false) :: srtOf e) ∧ wi ≤ 16 ∧ wd.length ≤ 16 ∧ ks.length + n < 500 ∧ EnvOk wd.length wi ks vs e ∧ ∀ t : Nat, TrOk t wi wd (.set m x) e → P (.int t)
/- some_place: 0 part, 1 word, 2 around, 3 width, 4 found, 5 place, 6 name, 7 inner -/
abbrev s_some_place : Stmt := top 5
abbrev N_some_place : List Str := ["part", "word", "around", "width", "found", "place", "name", "inner"]
theorem sc_some_place : FnScope N_some_place ["part", "word", "around", "width"] (defScope s_some_place) := ⟨rfl, rfl, rfl, by decide +kernel, rfl, by decide +kernel, by decide +kernel⟩
theorem ok_place {n L : Nat} (hL : 2 ≤ L) (F : Fun K "some_place" "some_place" s_some_place f fd) (m_range : mg "range" = none) (m_len : mg "len" = none) (C_always : Cal P w K mg base "always" 1 (spP K spAlways)) (C_truths_of : Cal P w K mg base "truths_of" L (spP K (spTr n))) :
    FnOk P w K mg base CX0 (L + 1) f fd ["part", "word", "around", "width"] (spP K (spPl n)) := by
  refine dfn (N := N_some_place) F sc_some_place (by decide) (fun ds Q ⟨_, _, _, _, _, _, _, e, _⟩ => by rw [e]; rfl) (fun cdv A outer s H E hr => (dss_cons (ds_unp (de_slice (de_name 0) (do_some de_int) do_none) (dg_tup rfl (dgs_cons (i := 6) sc_some_place.nd (dgs_cons (i := 7) sc_some_place.nd dgs_nil)) (fun h => pg_tup rfl h)))
  (dss_cons (ds_set (i := 4) de_int sc_some_place.nd)
  (dss_cons (ds_for (di_range1 m_range (da_cons (de_len m_len (da_cons (de_name 1) da_nil)) da_nil)) (dg_name (i := 5) sc_some_place.nd)
  (dss_cons (ds_set (i := 4) (de_or (de_name 4) (de_call C_truths_of hr (by omega) (da_cons (de_name 7) (da_cons (de_name 1) (da_cons (de_dstar (de_name 2) (de_name 6) (de_nameF 5)) (da_cons (de_name 3) da_nil)))))) sc_some_place.nd)
  (dss_one (ds_if (dt_eq hr (de_name 4) (de_call C_always hr (by omega) (da_cons (de_name 3) da_nil)))
  (dss_one (ds_ret (de_nameF 4)))
  dss_nil))) (fun hg hi hb => ps_for PassesOwn.never rfl hi hg hb))
  (dss_one (ds_ret (de_nameF 4))))))) ?_
  rintro ds Q ⟨m, x, wd, ks, vs, e, wi, rfl, hd, hw, hwi, hwd, hk, he, hQ⟩
  have hlen : wd.length ≤ sizeLine := by rw [sizeLine_eq]; omega
  have h2 := p16 hwi
  refine ⟨1, rfl, (by show ¬ (HT.sIx 3 0 (some 1) = 0 ∧ HT.sIx 3 3 none = 3); decide), _, [.val (toD (.place m x)) .o, .val (.str wd) .o, .val (.dic ks vs) .o, .val (.int wi) .o, .no, .no, .val (.str m) .o, .val (toD x) .o], rfl, rfl, ?_⟩
  refine ⟨by simp, hlen, wd.length, rfl, ⟨by omega, by omega⟩, ?_⟩
  rw [Int.toNat_natCast]
  refine ⟨fun i ρ => i ≤ wd.length ∧ ∃ (t : Nat) (fx : Fr) (b : Sl), ρ = [.val (toD (.place m x)) .o, .val (.str wd) .o, .val (.dic ks vs) .o, .val (.int wi) .o, .val (.int t) fx, b, .val (.str m) .o, .val (toD x) .o] ∧ t < 2 ^ 2 ^ wi ∧ ∀ c, c < 2 ^ wi → (t.testBit c = true ↔ ∃ k, k < i ∧ sem (wl wd) x ((m, .pl k) :: envAt c e) = true),
    ⟨Nat.zero_le _, 0, .n, .no, rfl, Nat.two_pow_pos _, fun c hc => ⟨fun z => by simp at z, fun ⟨k, hk, _⟩ => by omega⟩⟩, ?_, ?_⟩
  · rintro i d ρ hd' ⟨_, t, fx, b, rfl, ht, hb⟩
    obtain ⟨hi, rfl⟩ := range_map hd'
    have e1 : (0 : Int) + (i : Nat) = ((i : Nat) : Int) := by omega
    rw [e1]
    refine ⟨_, rfl, ?_⟩
    refine ⟨ks, vs, rfl, by omega, .inr m, ⟨.int i, .h⟩, rfl, rfl, ?_⟩
    refine ⟨x, wd, _, _, (m, .pl i) :: e, wi, rfl, hd, hw, hwi, hwd, ?_, he.put m (th := .pl i) hi, fun t' ht' => ?_⟩
    · have := putKs_len ks (.inr m)
      omega
    · have lt := Nat.or_lt_two_pow ht ht'.1
      have bits : ∀ c, c < 2 ^ wi → ((t ||| t').testBit c = true ↔ ∃ k, k < i + 1 ∧ sem (wl wd) x ((m, .pl k) :: envAt c e) = true) := fun c hc => or_inv (F := fun k => sem (wl wd) x ((m, .pl k) :: envAt c e)) (hb c hc) (ht'.2 c hc)
      refine ⟨True.intro, by simp, ?_⟩
      dsimp only
      rw [bOr]
      refine ⟨wi, rfl, hwi, rfl, _, rfl, fun z => ?_, fun z => ⟨hi, _, _, _, rfl, lt, bits⟩⟩
      change (false ^^ eqD (.int ((t ||| t' : Nat) : Int)) (.int ((2 ^ 2 ^ wi - 1 : Nat) : Int))) = true at z
      rw [Bool.false_xor, eqD_int] at z
      have z : t ||| t' = 2 ^ 2 ^ wi - 1 := by have := of_decide_eq_true z; omega
      refine ⟨_, rfl, by simp [frOk, DL.nol], hQ _ ⟨lt, fun c hc => ?_⟩⟩
      have := bits c hc
      rw [z] at this ⊢
      show _ = (List.range (wl wd).length).any _
      rw [wl_len]
      exact any_full (F := fun k => sem (wl wd) x ((m, .pl k) :: envAt c e)) hc hi this
  · rintro ρ ⟨_, t, fx, b, rfl, ht, hb⟩
    have el : (upto (0 : Int) wd.length).length = wd.length := by unfold upto; rw [List.length_map, List.length_range]
    rw [el] at hb
    refine ⟨_, rfl, by simp [frOk, DL.nol], hQ _ ⟨ht, fun c hc => ?_⟩⟩
    show _ = (List.range (wl wd).length).any _
    rw [wl_len]
    exact any_of (F := fun k => sem (wl wd) x ((m, .pl k) :: envAt c e)) (hb c hc)

/-- the bits of some set, the sets side by side -/
theorem set_bits {wd : Str} {x : Sy Str} {m : Str} {e : PE'} {wi T t : Nat} (hw : Wh x ((m, false) :: srtOf e)) (he : ∀ p ∈ e, POk wd.length wi p.2)
    (hT : TrOk T (wi + wd.length) wd x ((m, .st (side wi wd.length)) :: e)) (ht : t < 2 ^ 2 ^ wi) (hb : ∀ c, c < 2 ^ wi → (t.testBit c = true ↔ ∃ A, A < 2 ^ ((wi + wd.length) - wi) ∧ T.testBit (c + 2 ^ wi * A) = true)) : TrOk t wi wd (.set m x) e := by
  refine ⟨ht, fun c hc => ?_⟩
  have hb' := hb c hc
  rw [Nat.add_sub_cancel_left] at hb'
  show _ = (List.range (2 ^ (wl wd).length)).any _
  rw [wl_len]
  refine any_of (F := fun A => sem (wl wd) x ((m, .st fun p => A.testBit p) :: envAt c e)) ⟨fun z => ?_, fun ⟨A, hA, z⟩ => ?_⟩
  all_goals
    have key : ∀ A, A < 2 ^ wd.length → T.testBit (c + 2 ^ wi * A) = sem (wl wd) x ((m, .st fun p => A.testBit p) :: envAt c e) := fun A hA => by
      have hc2 : c + 2 ^ wi * A < 2 ^ (wi + wd.length) := by
        rw [Nat.pow_add]
        have h3 : 2 ^ wi * (A + 1) ≤ 2 ^ wi * 2 ^ wd.length := Nat.mul_le_mul_left _ hA
        rw [Nat.mul_add, Nat.mul_one] at h3
        omega
      rw [hT.2 _ hc2]
      refine sem_eq hw ?_
      rw [wl_len]
      show EnvEq _ ((m, atC (c + 2 ^ wi * A) (.st (side wi wd.length))) :: envAt _ e) _ ((m, sortOf (atC (c + 2 ^ wi * A) (.st (side wi wd.length)))) :: srtOf e)
      exact .cons (side_at hc) (env_eq (fun k hk => mod_low hk) he)
  · obtain ⟨A, hA, q⟩ := hb'.mp z
    exact ⟨A, hA, by rw [← key A hA]; exact q⟩
  · exact hb'.mpr ⟨A, hA, by rw [key A hA]; exact z⟩
theorem alone_sem {wd : Str} {x : Sy Str} {m : Str} {e : PE'} {wi c A : Nat} (hw : Wh x ((m, false) :: srtOf e)) (he : ∀ p ∈ e, POk wd.length wi p.2) : sem (wl wd) x (envAt c ((m, .st (alone A wd.length)) :: e)) = sem (wl wd) x ((m, .st fun p => A.testBit p) :: envAt c e) := by
  refine sem_eq hw ?_
  rw [wl_len]
  show EnvEq _ ((m, atC c (.st (alone A wd.length))) :: envAt _ e) _ ((m, sortOf (atC c (.st (alone A wd.length)))) :: srtOf e)
  exact .cons alone_at (env_eq (fun k hk => rfl) he)
/- some_set: 0 part, 1 word, 2 around, 3 width, 4 wider, 5 found, 6 choice, 7 name, 8 inner, 9 members -/
abbrev s_some_set : Stmt := top 6
abbrev N_some_set : List Str := ["part", "word", "around", "width", "wider", "found", "choice", "name", "inner", "members"]
theorem sc_some_set : FnScope N_some_set ["part", "word", "around", "width"] (defScope s_some_set) := ⟨rfl, rfl, rfl, by decide +kernel, rfl, by decide +kernel, by decide +kernel⟩
theorem ok_set {n L : Nat} (hL : 2 ≤ L) {tk : Tok} (F : Fun K "some_set" "some_set" s_some_set f fd) (m_range : mg "range" = none) (m_len : mg "len" = none) (m_MOST_WIDTH : mg "MOST_WIDTH" = some (.int 16 tk)) (C_always : Cal P w K mg base "always" 1 (spP K spAlways)) (C_set_side_by_side : Cal P w K mg base "set_side_by_side" 2 (spP K spSide)) (C_set_alone : Cal P w K mg base "set_alone" 1 (spP K spAlone)) (C_fold : Cal P w K mg base "fold" 2 (spP K spFold)) (C_truths_of : Cal P w K mg base "truths_of" L (spP K (spTr n))) :
    FnOk P w K mg base CX0 (L + 1) f fd ["part", "word", "around", "width"] (spP K (spSt n)) := by
  refine dfn (N := N_some_set) F sc_some_set (by decide) (fun ds Q ⟨_, _, _, _, _, _, _, e, _⟩ => by rw [e]; rfl) (fun cdv A outer s H E hr => (dss_cons (ds_unp (de_slice (de_name 0) (do_some de_int) do_none) (dg_tup rfl (dgs_cons (i := 7) sc_some_set.nd (dgs_cons (i := 8) sc_some_set.nd dgs_nil)) (fun h => pg_tup rfl h)))
  (dss_cons (ds_set (i := 4) (de_add (de_name 3) (de_len m_len (da_cons (de_name 1) da_nil))) sc_some_set.nd)
  (dss_cons (ds_if (dt_le (de_name 4) (de_globI m_MOST_WIDTH))
  (dss_cons (ds_set (i := 9) (de_call C_set_side_by_side hr (by omega) (da_cons (de_name 3) (da_cons (de_name 4) da_nil))) sc_some_set.nd)
  (dss_one (ds_ret (de_call C_fold hr (by omega) (da_cons (de_call C_truths_of hr (by omega) (da_cons (de_name 8) (da_cons (de_name 1) (da_cons (de_dstar (de_name 2) (de_name 7) (de_nameF 9)) (da_cons (de_name 4) da_nil))))) (da_cons (de_name 3) (da_cons (de_name 4) da_nil)))))))
  dss_nil)
  (dss_cons (ds_set (i := 5) de_int sc_some_set.nd)
  (dss_cons (ds_for (di_range1 m_range (da_cons (de_shl de_int (de_len m_len (da_cons (de_name 1) da_nil))) da_nil)) (dg_name (i := 6) sc_some_set.nd)
  (dss_cons (ds_set (i := 9) (de_call C_set_alone hr (by omega) (da_cons (de_name 6) (da_cons (de_len m_len (da_cons (de_name 1) da_nil)) da_nil))) sc_some_set.nd)
  (dss_cons (ds_set (i := 5) (de_or (de_name 5) (de_call C_truths_of hr (by omega) (da_cons (de_name 8) (da_cons (de_name 1) (da_cons (de_dstar (de_name 2) (de_name 7) (de_nameF 9)) (da_cons (de_name 3) da_nil)))))) sc_some_set.nd)
  (dss_one (ds_if (dt_eq hr (de_name 5) (de_call C_always hr (by omega) (da_cons (de_name 3) da_nil)))
  (dss_one (ds_ret (de_nameF 5)))
  dss_nil)))) (fun hg hi hb => ps_for PassesOwn.never rfl hi hg hb))
  (dss_one (ds_ret (de_nameF 5))))))))) ?_
  rintro ds Q ⟨m, x, wd, ks, vs, e, wi, rfl, hd, hw, hwi, hwd, hk, he, hQ⟩
  have hlen : wd.length ≤ sizeLine := by rw [sizeLine_eq]; omega
  have h2 := p16 hwi
  have h3 := p16 hwd
  have hks := putKs_len ks (.inr m)
  refine ⟨1, rfl, (by show ¬ (HT.sIx 3 0 (some 1) = 0 ∧ HT.sIx 3 3 none = 3); decide), _, [.val (toD (.set m x)) .o, .val (.str wd) .o, .val (.dic ks vs) .o, .val (.int wi) .o, .no, .no, .no, .val (.str m) .o, .val (toD x) .o, .no], rfl, rfl, ?_⟩
  refine ⟨hlen, by simp, ?_⟩
  have e0 : (wi : Int) + (wd.length : Int) = ((wi + wd.length : Nat) : Int) := by omega
  dsimp only
  rw [e0]
  refine ⟨True.intro, _, rfl, fun z => ?_, fun z => ?_⟩
  · have z : wi + wd.length ≤ 16 := by have := of_decide_eq_true z; omega
    refine ⟨wi, wi + wd.length, rfl, by omega, z, by simp, ?_⟩
    rw [Nat.add_sub_cancel_left]
    refine ⟨ks, vs, rfl, by omega, .inr m, ⟨.lst (msD (side wi wd.length)), .h⟩, rfl, rfl, ?_⟩
    refine ⟨x, wd, _, _, (m, .st (side wi wd.length)) :: e, wi + wd.length, rfl, hd, hw, z, hwd, by omega, (he.wid (by omega)).put m (th := .st (side wi wd.length)) (side_ok wi wd.length), fun T hT => ?_⟩
    refine ⟨T, wi, wi + wd.length, rfl, by omega, z, hT.1, fun t ht hb => ?_⟩
    exact ⟨_, rfl, by simp [frOk, DL.nol], hQ _ (set_bits hw he.all hT ht hb)⟩
  · have e2 : (1 : Int) * (2 : Int) ^ ((wd.length : Int)).toNat = ((2 ^ wd.length : Nat) : Int) := by rw [Int.toNat_natCast, Int.one_mul, i2pow]
    refine ⟨by simp, hlen, shl1 (n := 1) (by decide) (by omega), ((2 ^ wd.length : Nat) : Int), ?_, ⟨Int.le_trans (by decide) (Int.natCast_nonneg _), Int.lt_of_le_of_lt (Int.ofNat_le.mpr h3) (by decide)⟩, ?_⟩
    · show [D.int ((1 : Int) * (2 : Int) ^ ((wd.length : Int)).toNat)] = _
      rw [e2]
    rw [Int.toNat_natCast]
    refine ⟨fun i ρ => i ≤ 2 ^ wd.length ∧ ∃ (t : Nat) (fx : Fr) (b b' : Sl), ρ = [.val (toD (.set m x)) .o, .val (.str wd) .o, .val (.dic ks vs) .o, .val (.int wi) .o, .val (.int (wi + wd.length : Nat)) .n, .val (.int t) fx, b, .val (.str m) .o, .val (toD x) .o, b'] ∧ t < 2 ^ 2 ^ wi ∧ ∀ c, c < 2 ^ wi → (t.testBit c = true ↔ ∃ A, A < i ∧ sem (wl wd) x ((m, .st fun p => A.testBit p) :: envAt c e) = true),
      ⟨Nat.zero_le _, 0, .n, .no, .no, rfl, Nat.two_pow_pos _, fun c hc => ⟨fun z => by simp at z, fun ⟨k, hk, _⟩ => by omega⟩⟩, ?_, ?_⟩
    · rintro i d ρ hd' ⟨_, t, fx, b, b', rfl, ht, hb⟩
      obtain ⟨hi, rfl⟩ := range_map hd'
      have e1 : (0 : Int) + (i : Nat) = ((i : Nat) : Int) := by omega
      rw [e1]
      refine ⟨_, rfl, ?_⟩
      refine ⟨hlen, i, wd.length, rfl, by omega, by simp, ?_⟩
      refine ⟨ks, vs, rfl, by omega, .inr m, ⟨.lst (msD (alone i wd.length)), .h⟩, rfl, rfl, ?_⟩
      refine ⟨x, wd, _, _, (m, .st (alone i wd.length)) :: e, wi, rfl, hd, hw, hwi, hwd, by omega, he.put m (th := .st (alone i wd.length)) (alone_ok i wd.length wi), fun t' ht' => ?_⟩
      have lt := Nat.or_lt_two_pow ht ht'.1
      have bits : ∀ c, c < 2 ^ wi → ((t ||| t').testBit c = true ↔ ∃ A, A < i + 1 ∧ sem (wl wd) x ((m, .st fun p => A.testBit p) :: envAt c e) = true) := fun c hc => or_inv (F := fun A => sem (wl wd) x ((m, .st fun p => A.testBit p) :: envAt c e)) (hb c hc) ((ht'.2 c hc).trans (alone_sem hw he.all))
      refine ⟨True.intro, by simp, ?_⟩
      dsimp only
      rw [bOr]
      refine ⟨wi, rfl, hwi, rfl, _, rfl, fun z => ?_, fun z => ⟨hi, _, _, _, _, rfl, lt, bits⟩⟩
      change (false ^^ eqD (.int ((t ||| t' : Nat) : Int)) (.int ((2 ^ 2 ^ wi - 1 : Nat) : Int))) = true at z
      rw [Bool.false_xor, eqD_int] at z
      have z : t ||| t' = 2 ^ 2 ^ wi - 1 := by have := of_decide_eq_true z; omega
      refine ⟨_, rfl, by simp [frOk, DL.nol], hQ _ ⟨lt, fun c hc => ?_⟩⟩
      have := bits c hc
      rw [z] at this ⊢
      show _ = (List.range (2 ^ (wl wd).length)).any _
      rw [wl_len]
      exact any_full (F := fun A => sem (wl wd) x ((m, .st fun p => A.testBit p) :: envAt c e)) hc hi this
    · rintro ρ ⟨_, t, fx, b, b', rfl, ht, hb⟩
      have el : (upto (0 : Int) (2 ^ wd.length)).length = 2 ^ wd.length := by unfold upto; rw [List.length_map, List.length_range]
      rw [el] at hb
      refine ⟨_, rfl, by simp [frOk, DL.nol], hQ _ ⟨ht, fun c hc => ?_⟩⟩
      show _ = (List.range (2 ^ (wl wd).length)).any _
      rw [wl_len]
      exact any_of (F := fun A => sem (wl wd) x ((m, .st fun p => A.testBit p) :: envAt c e)) (hb c hc)
end
end K9

namespace K9
open PySem L2 DL
section
variable {P : Program} {w : World} {K : PySem.W.Frag} {mg : Str → Option Value} {base : Heap} {f : Addr} {fd : FuncData}
/- truths_of: 0 part, 1 word, 2 around, 3 width, 4 kind, 5 left, 6 truths, 7 told -/
abbrev s_truths_of : Stmt := top 3
abbrev N_truths_of : List Str := ["part", "word", "around", "width", "kind", "left", "truths", "told"]
theorem sc_truths_of : FnScope N_truths_of ["part", "word", "around", "width"] (defScope s_truths_of) := ⟨rfl, rfl, rfl, by decide +kernel, rfl, by decide +kernel, by decide +kernel⟩
theorem msD_at {l : Ms} {k : Nat} (h : k < l.length) : atI (msD l) (k : Int) = some (.tup [.int (l.getD k (0, 0)).1, .int (l.getD k (0, 0)).2]) := by
  refine atI_nat ?_
  unfold msD
  rw [List.getElem?_map, List.getD_eq_getElem?_getD, List.getElem?_eq_getElem h]
  rfl
theorem ok_truths_of {n L : Nat} (hL : 2 ≤ L) (F : Fun K "truths_of" "truths_of" s_truths_of f fd) (C_always : Cal P w K mg base "always" 1 (spP K spAlways)) (C_spread : Cal P w K mg base "spread" 1 (spP K spSpread)) (C_holds : Cal P w K mg base "holds" 1 (spP K spHolds))
    (C_truths_of : Cal P w K mg base "truths_of" L (spP K (spTr n))) (C_some_place : Cal P w K mg base "some_place" (L + 1) (spP K (spPl n))) (C_some_set : Cal P w K mg base "some_set" (L + 1) (spP K (spSt n))) :
    FnOk P w K mg base CX0 (L + 2) f fd ["part", "word", "around", "width"] (spP K (spTr (n + 1))) := by
  refine dfn (N := N_truths_of) F sc_truths_of (by decide) (fun ds Q ⟨_, _, _, _, _, _, e, _⟩ => by rw [e]; rfl) (fun cdv A outer s H E hr => (dss_cons (ds_set (i := 4) (de_ix (de_name 0) de_int) sc_truths_of.nd)
  (dss_cons (ds_if (dt_eq hr (de_name 4) de_str)
  (dss_one (ds_ret (de_xor (de_call C_always hr (by omega) (da_cons (de_name 3) da_nil)) (de_call C_truths_of hr (by omega) (da_cons (de_ix (de_name 0) de_int) (da_cons (de_name 1) (da_cons (de_name 2) (da_cons (de_name 3) da_nil))))))))
  dss_nil)
  (dss_cons (ds_if (dt_eq hr (de_name 4) de_str)
  (dss_cons (ds_set (i := 5) (de_call C_truths_of hr (by omega) (da_cons (de_ix (de_name 0) de_int) (da_cons (de_name 1) (da_cons (de_name 2) (da_cons (de_name 3) da_nil))))) sc_truths_of.nd)
  (dss_cons (ds_if (dt_eq hr (de_name 5) de_int)
  (dss_one (ds_ret (de_nameF 5)))
  dss_nil)
  (dss_one (ds_ret (de_and (de_name 5) (de_call C_truths_of hr (by omega) (da_cons (de_ix (de_name 0) de_int) (da_cons (de_name 1) (da_cons (de_name 2) (da_cons (de_name 3) da_nil))))))))))
  dss_nil)
  (dss_cons (ds_if (dt_eq hr (de_name 4) de_str)
  (dss_cons (ds_set (i := 5) (de_call C_truths_of hr (by omega) (da_cons (de_ix (de_name 0) de_int) (da_cons (de_name 1) (da_cons (de_name 2) (da_cons (de_name 3) da_nil))))) sc_truths_of.nd)
  (dss_cons (ds_if (dt_eq hr (de_name 5) (de_call C_always hr (by omega) (da_cons (de_name 3) da_nil)))
  (dss_one (ds_ret (de_nameF 5)))
  dss_nil)
  (dss_one (ds_ret (de_or (de_name 5) (de_call C_truths_of hr (by omega) (da_cons (de_ix (de_name 0) de_int) (da_cons (de_name 1) (da_cons (de_name 2) (da_cons (de_name 3) da_nil))))))))))
  dss_nil)
  (dss_cons (ds_if (dt_eq hr (de_name 4) de_str)
  (dss_one (ds_ret (de_call C_some_place hr (by omega) (da_cons (de_name 0) (da_cons (de_name 1) (da_cons (de_name 2) (da_cons (de_name 3) da_nil)))))))
  dss_nil)
  (dss_cons (ds_if (dt_eq hr (de_name 4) de_str)
  (dss_one (ds_ret (de_call C_some_set hr (by omega) (da_cons (de_name 0) (da_cons (de_name 1) (da_cons (de_name 2) (da_cons (de_name 3) da_nil)))))))
  dss_nil)
  (dss_cons (ds_if (dt_eq hr (de_name 4) de_str)
  (dss_cons (ds_unp (de_ix (de_dget hr (de_name 2) (de_ix (de_name 0) de_int)) (de_dget hr (de_name 2) (de_ix (de_name 0) de_int))) (dg_tup rfl (dgs_cons (i := 6) sc_truths_of.nd (dgs_cons (i := 7) sc_truths_of.nd dgs_nil)) (fun h => pg_tup rfl h)))
  (dss_one (ds_ret (de_call C_spread hr (by omega) (da_cons (de_name 6) (da_cons (de_name 7) (da_cons (de_name 3) da_nil)))))))
  dss_nil)
  (dss_cons (ds_if (dt_val (de_call C_holds hr (by omega) (da_cons (de_name 0) (da_cons (de_name 1) (da_cons (de_name 2) da_nil)))))
  (dss_one (ds_ret (de_call C_always hr (by omega) (da_cons (de_name 3) da_nil))))
  dss_nil)
  (dss_one (ds_ret de_int))))))))))) ?_
  rintro ds Q ⟨s, wd, ks, vs, e, wi, rfl, hd, hw, hwi, hwd, hk, he, hQ⟩
  have h2 := p16 hwi
  have full : ∀ c, c < 2 ^ wi → (2 ^ 2 ^ wi - 1).testBit c = true := fun c hc => by rw [Nat.testBit_two_pow_sub_one]; exact decide_eq_true hc
  have fulllt : 2 ^ 2 ^ wi - 1 < 2 ^ 2 ^ wi := Nat.sub_lt (Nat.two_pow_pos _) (by decide)
  cases s with
  | not x =>
    have hd : depth x + 1 < n + 1 := hd
    refine ⟨_, 0, .str "not", rfl, rfl, rfl, by simp [ini], ?_⟩
    dsimp only
    refine kT (f := .o) rfl ?_
    refine ⟨wi, rfl, hwi, _, 1, toD x, rfl, rfl, rfl, x, wd, ks, vs, e, wi, rfl, by omega, hw, hwi, hwd, by omega, he, fun t' ht' => ?_⟩
    refine ⟨True.intro, _, rfl, by simp [frOk, DL.nol], ?_⟩
    dsimp only
    rw [bXor]
    refine hQ _ ⟨Nat.xor_lt_two_pow fulllt ht'.1, fun c hc => ?_⟩
    rw [Nat.testBit_xor, full c hc, ht'.2 c hc, Bool.true_xor]
    rfl
  | and x y =>
    have hd : max (depth x) (depth y) + 1 < n + 1 := hd
    refine ⟨_, 0, .str "and", rfl, rfl, rfl, by simp [ini], ?_⟩
    dsimp only
    refine kF (kd := "and") (f := .o) rfl (by decide) ?_
    refine kT (f := .o) rfl ?_
    refine ⟨_, 1, toD x, rfl, rfl, rfl, x, wd, ks, vs, e, wi, rfl, by omega, hw.1, hwi, hwd, by omega, he, fun t ht => ⟨by simp [ini], ?_⟩⟩
    refine ⟨rfl, _, rfl, fun z => ?_, fun z => ?_⟩
    · change (false ^^ eqD (.int (t : Int)) (.int 0)) = true at z
      rw [Bool.false_xor, eqD_int] at z
      have z : t = 0 := by have := of_decide_eq_true z; omega
      refine ⟨_, rfl, by simp [frOk, DL.nol], hQ _ ⟨ht.1, fun c hc => ?_⟩⟩
      show t.testBit c = (sem (wl wd) x (envAt c e) && sem (wl wd) y (envAt c e))
      rw [← ht.2 c hc, z, Nat.zero_testBit, Bool.false_and]
    · refine ⟨_, 2, toD y, rfl, rfl, rfl, y, wd, ks, vs, e, wi, rfl, by omega, hw.2, hwi, hwd, by omega, he, fun t' ht' => ?_⟩
      refine ⟨True.intro, _, rfl, by simp [frOk, DL.nol], ?_⟩
      dsimp only
      rw [bAnd]
      refine hQ _ ⟨Nat.lt_of_le_of_lt Nat.and_le_left ht.1, fun c hc => ?_⟩
      rw [Nat.testBit_and, ht.2 c hc, ht'.2 c hc]
      rfl
  | or x y =>
    have hd : max (depth x) (depth y) + 1 < n + 1 := hd
    refine ⟨_, 0, .str "or", rfl, rfl, rfl, by simp [ini], ?_⟩
    dsimp only
    refine kF (kd := "or") (f := .o) rfl (by decide) ?_
    refine kF (kd := "or") (f := .o) rfl (by decide) ?_
    refine kT (f := .o) rfl ?_
    refine ⟨_, 1, toD x, rfl, rfl, rfl, x, wd, ks, vs, e, wi, rfl, by omega, hw.1, hwi, hwd, by omega, he, fun t ht => ⟨by simp [ini], ?_⟩⟩
    refine ⟨wi, rfl, hwi, rfl, _, rfl, fun z => ?_, fun z => ?_⟩
    · change (false ^^ eqD (.int (t : Int)) (.int ((2 ^ 2 ^ wi - 1 : Nat) : Int))) = true at z
      rw [Bool.false_xor, eqD_int] at z
      have z : t = 2 ^ 2 ^ wi - 1 := by have := of_decide_eq_true z; omega
      refine ⟨_, rfl, by simp [frOk, DL.nol], hQ _ ⟨ht.1, fun c hc => ?_⟩⟩
      show t.testBit c = (sem (wl wd) x (envAt c e) || sem (wl wd) y (envAt c e))
      rw [← ht.2 c hc, z, full c hc, Bool.true_or]
    · refine ⟨_, 2, toD y, rfl, rfl, rfl, y, wd, ks, vs, e, wi, rfl, by omega, hw.2, hwi, hwd, by omega, he, fun t' ht' => ?_⟩
      refine ⟨True.intro, _, rfl, by simp [frOk, DL.nol], ?_⟩
      dsimp only
      rw [bOr]
      refine hQ _ ⟨Nat.or_lt_two_pow ht.1 ht'.1, fun c hc => ?_⟩
      rw [Nat.testBit_or, ht.2 c hc, ht'.2 c hc]
      rfl
  | place m x =>
    have hd : depth x + 1 < n + 1 := hd
    refine ⟨_, 0, .str "place", rfl, rfl, rfl, by simp [ini], ?_⟩
    dsimp only
    refine kF (kd := "place") (f := .o) rfl (by decide) ?_
    refine kF (kd := "place") (f := .o) rfl (by decide) ?_
    refine kF (kd := "place") (f := .o) rfl (by decide) ?_
    refine kT (f := .o) rfl ?_
    exact ⟨m, x, wd, ks, vs, e, wi, rfl, by omega, hw, hwi, hwd, by omega, he, fun t ht => ⟨_, rfl, by simp [frOk, DL.nol], hQ _ ht⟩⟩
  | set m x =>
    have hd : depth x + 1 < n + 1 := hd
    refine ⟨_, 0, .str "set", rfl, rfl, rfl, by simp [ini], ?_⟩
    dsimp only
    refine kF (kd := "set") (f := .o) rfl (by decide) ?_
    refine kF (kd := "set") (f := .o) rfl (by decide) ?_
    refine kF (kd := "set") (f := .o) rfl (by decide) ?_
    refine kF (kd := "set") (f := .o) rfl (by decide) ?_
    refine kT (f := .o) rfl ?_
    exact ⟨m, x, wd, ks, vs, e, wi, rfl, by omega, hw, hwi, hwd, by omega, he, fun t ht => ⟨_, rfl, by simp [frOk, DL.nol], hQ _ ht⟩⟩
  | within a m =>
    obtain ⟨k, hk1⟩ := srt_pl hw.1
    obtain ⟨l, hl1⟩ := srt_st hw.2
    obtain ⟨k1, k2⟩ := he.at_ a _ hk1
    obtain ⟨l1, l2⟩ := he.at_ m _ hl1
    refine ⟨_, 0, .str "within", rfl, rfl, rfl, by simp [ini], ?_⟩
    dsimp only
    refine kF (kd := "within") (f := .o) rfl (by decide) ?_
    refine kF (kd := "within") (f := .o) rfl (by decide) ?_
    refine kF (kd := "within") (f := .o) rfl (by decide) ?_
    refine kF (kd := "within") (f := .o) rfl (by decide) ?_
    refine kF (kd := "within") (f := .o) rfl (by decide) ?_
    refine kT (f := .o) rfl ?_
    have hkl : k < l.length := by rw [l2.1]; exact k2
    have hm : l.getD k (0, 0) ∈ l := by
      rw [List.getD_eq_getElem?_getD, List.getElem?_eq_getElem hkl]
      exact List.getElem_mem _
    obtain ⟨t1, t2⟩ := l2.2 _ hm
    refine ⟨_, 2, .str m, rfl, rfl, rfl, ks, vs, .inr m, .lst (msD l), rfl, rfl, l1, _, 1, .str a, rfl, rfl, rfl, ks, vs, .inr a, .int k, rfl, rfl, k1, _, k, _, rfl, rfl, msD_at hkl, _, _, rfl, rfl, ?_⟩
    refine ⟨(l.getD k (0, 0)).1, (l.getD k (0, 0)).2, wi, rfl, t1, hwi, t2, fun t' ht hb => ?_⟩
    refine ⟨_, rfl, by simp [frOk, DL.nol], hQ _ ⟨ht, fun c hc => ?_⟩⟩
    rw [hb c hc]
    unfold sem
    rw [env_look c hk1, env_look c hl1]
    rfl
  | letter a m =>
    refine ⟨_, 0, .str "letter", rfl, rfl, rfl, by simp [ini], ?_⟩
    dsimp only
    refine kF (kd := "letter") (f := .o) rfl (by decide) ?_
    refine kF (kd := "letter") (f := .o) rfl (by decide) ?_
    refine kF (kd := "letter") (f := .o) rfl (by decide) ?_
    refine kF (kd := "letter") (f := .o) rfl (by decide) ?_
    refine kF (kd := "letter") (f := .o) rfl (by decide) ?_
    refine kF (kd := "letter") (f := .o) rfl (by decide) ?_
    refine ⟨.letter a m, wd, ks, vs, e, wi, rfl, rfl, hw, hwd, he, fun b hb => ⟨_, rfl, fun z => ?_, fun z => ?_⟩⟩
    · exact ⟨wi, rfl, hwi, _, rfl, by simp [frOk, DL.nol], hQ _ ⟨fulllt, fun c hc => by rw [full c hc, ← hb c, z]⟩⟩
    · exact ⟨_, rfl, by simp [frOk, DL.nol], hQ 0 ⟨Nat.two_pow_pos _, fun c hc => by rw [Nat.zero_testBit, ← hb c, z]⟩⟩
  | ahead a m =>
    refine ⟨_, 0, .str "ahead", rfl, rfl, rfl, by simp [ini], ?_⟩
    dsimp only
    refine kF (kd := "ahead") (f := .o) rfl (by decide) ?_
    refine kF (kd := "ahead") (f := .o) rfl (by decide) ?_
    refine kF (kd := "ahead") (f := .o) rfl (by decide) ?_
    refine kF (kd := "ahead") (f := .o) rfl (by decide) ?_
    refine kF (kd := "ahead") (f := .o) rfl (by decide) ?_
    refine kF (kd := "ahead") (f := .o) rfl (by decide) ?_
    refine ⟨.ahead a m, wd, ks, vs, e, wi, rfl, rfl, hw, hwd, he, fun b hb => ⟨_, rfl, fun z => ?_, fun z => ?_⟩⟩
    · exact ⟨wi, rfl, hwi, _, rfl, by simp [frOk, DL.nol], hQ _ ⟨fulllt, fun c hc => by rw [full c hc, ← hb c, z]⟩⟩
    · exact ⟨_, rfl, by simp [frOk, DL.nol], hQ 0 ⟨Nat.two_pow_pos _, fun c hc => by rw [Nat.zero_testBit, ← hb c, z]⟩⟩
  | same a m =>
    refine ⟨_, 0, .str "same", rfl, rfl, rfl, by simp [ini], ?_⟩
    dsimp only
    refine kF (kd := "same") (f := .o) rfl (by decide) ?_
    refine kF (kd := "same") (f := .o) rfl (by decide) ?_
    refine kF (kd := "same") (f := .o) rfl (by decide) ?_
    refine kF (kd := "same") (f := .o) rfl (by decide) ?_
    refine kF (kd := "same") (f := .o) rfl (by decide) ?_
    refine kF (kd := "same") (f := .o) rfl (by decide) ?_
    refine ⟨.same a m, wd, ks, vs, e, wi, rfl, rfl, hw, hwd, he, fun b hb => ⟨_, rfl, fun z => ?_, fun z => ?_⟩⟩
    · exact ⟨wi, rfl, hwi, _, rfl, by simp [frOk, DL.nol], hQ _ ⟨fulllt, fun c hc => by rw [full c hc, ← hb c, z]⟩⟩
    · exact ⟨_, rfl, by simp [frOk, DL.nol], hQ 0 ⟨Nat.two_pow_pos _, fun c hc => by rw [Nat.zero_testBit, ← hb c, z]⟩⟩
/- true_of: 0 saying, 1 word -/
abbrev s_true_of : Stmt := top 2
abbrev N_true_of : List Str := ["saying", "word"]
theorem sc_true_of : FnScope N_true_of ["saying", "word"] (defScope s_true_of) := ⟨rfl, rfl, rfl, by decide +kernel, rfl, by decide +kernel, by decide +kernel⟩
def spTrue (n : Nat) : SpD := fun ds P => ∃ s wd, ds = [toD s, .str wd] ∧ depth s < n ∧ Wh s [] ∧ wd.length ≤ 16 ∧ P (.bl (sem (wl wd) s []))
theorem ok_true_of {n L : Nat} (hn : n ≤ 500) (F : Fun K "true_of" "true_of" s_true_of f fd) (C_truths_of : Cal P w K mg base "truths_of" L (spP K (spTr n))) : FnOk P w K mg base CX0 (L + 1) f fd ["saying", "word"] (spP K (spTrue n)) := by
  refine dfn (N := N_true_of) F sc_true_of (by decide) (fun ds Q ⟨_, _, e, _⟩ => by rw [e]; rfl) (fun cdv A outer s H E hr => (dss_one (ds_ret (de_eq hr (de_call C_truths_of hr (by omega) (da_cons (de_name 0) (da_cons (de_name 1) (da_cons de_dnew (da_cons de_int da_nil))))) de_int)))) ?_
  rintro ds Q ⟨s, wd, rfl, hd, hw, hwd, hQ⟩
  refine ⟨s, wd, [], [], [], 0, rfl, hd, hw, by omega, hwd, by simpa using hn, .nil, fun t ht => ?_⟩
  refine ⟨rfl, _, rfl, by simp [frOk, DL.nol], ?_⟩
  show Q (.bl (false ^^ eqD (.int (t : Int)) (.int 1)))
  rw [Bool.false_xor, eqD_int]
  have h0 := ht.2 0 (by decide)
  have h1 : t < 2 := ht.1
  have : decide ((t : Int) = 1) = sem (wl wd) s (envAt 0 []) := by
    rw [← h0]
    match t, h1 with
    | 0, _ => rfl
    | 1, _ => rfl
  rw [this]
  exact hQ
theorem tr_base (F : Fun K "truths_of" "truths_of" s_truths_of f fd) : FnOk P w K mg base CX0 2 f fd ["part", "word", "around", "width"] (spP K (spTr 0)) :=
  ⟨fun vs H Q E ⟨_, _, _, ⟨_, _, _, _, _, _, _, h, _⟩, _⟩ => absurd h (Nat.not_lt_zero _), fun A outer s H args us vs Q E hr he hb hv ⟨_, _, _, ⟨_, _, _, _, _, _, _, h, _⟩, _⟩ => absurd h (Nat.not_lt_zero _)⟩
end
end K9

namespace K9
open PySem L2 DL
section
variable {P : Program} {w : World} {K : PySem.W.Frag} {mg : Str → Option Value} {base : Heap} {f : Addr} {fd : FuncData}
abbrev scD (ns : List Int) : D := .fz (ns.map D.int)
abbrev tp (n : Nat) : List D := [.int (n : Nat)]
theorem atI_fz {ns : List Int} {k : Nat} (h : k < ns.length) : ∃ x, atI (ns.map D.int) (k : Int) = some (.int x) :=
  ⟨ns[k], atI_nat (by rw [List.getElem?_map, List.getElem?_eq_getElem h]; rfl)⟩
theorem cut_ints {ns : List Int} {lo hi : Option Int} {i : Nat} {d : D} (h : (cutD (ns.map D.int) lo hi)[i]? = some d) : ∃ x, d = .int x := by
  have := List.mem_of_getElem? h
  unfold cutD at this
  have := List.mem_of_mem_drop (List.mem_of_mem_take this)
  obtain ⟨x, _, rfl⟩ := List.mem_map.mp this
  exact ⟨x, rfl⟩
theorem mulL {a b : Int} (h : -18446744073709551616 < a) (h2 : a < 18446744073709551616) : IntMulOk a b := IntMulOk.of_left (PySem.intBits_le_64 h h2)
theorem mulR {a b : Int} (h : -18446744073709551616 < b) (h2 : b < 18446744073709551616) : IntMulOk a b := IntMulOk.of_right (PySem.intBits_le_64 h h2)
theorem mod_nat {x : Int} {m : Nat} (h : 0 < m) : ∃ r : Nat, r < m ∧ x % (m : Int) = (r : Int) := by
  have h1 := Int.emod_nonneg x (b := (m : Int)) (by omega)
  have h2 := Int.emod_lt_of_pos x (b := (m : Int)) (by omega)
  exact ⟨(x % (m : Int)).toNat, by omega, by omega⟩
/- _law_draw: 0 _law_script, 1 _law_tape, 2 _law_many, 3 _law_seed, 4 _law_cell -/
abbrev s_l_draw : Stmt := top 13
abbrev N_l_draw : List Str := ["_law_script", "_law_tape", "_law_many", "_law_seed", "_law_cell"]
theorem sc_l_draw : FnScope N_l_draw ["_law_script", "_law_tape", "_law_many"] (defScope s_l_draw) := ⟨rfl, rfl, rfl, by decide +kernel, rfl, by decide +kernel, by decide +kernel⟩
/-- any number below many -/
def spDraw : SpT := fun ds es P => ∃ (ns : List Int) (n m : Nat), ds = [scD ns, .int (m : Nat)] ∧ es = tp n ∧ n < 1000000 ∧ 0 < m ∧ ns.length ≤ 63 ∧ ∀ r : Nat, r < m → P (.int (r : Nat)) (tp (n + 1))
theorem ok_draw (F : Fun K "_law_draw" "_law_draw" s_l_draw f fd) (m_len : mg "len" = none) : FnOk P w K mg base CX0 1 f fd ["_law_script", "_law_tape", "_law_many"] (spT K 1 spDraw) := by
  refine dfnT (N := N_l_draw) F sc_l_draw (by decide) (by decide) (fun ds es Q ⟨_, _, _, e, _⟩ => by rw [e]; rfl) (fun cdv A outer s H E hr => (dss_cons (ds_setI (m := 1) (de_add (de_ix (de_name 1) de_int) de_int) de_int)
  (dss_cons (ds_if (dt_le (de_ix (de_name 1) de_int) (de_len m_len (da_cons (de_name 0) da_nil)))
  (dss_one (ds_ret (de_mod (de_ix (de_name 0) (de_sub (de_ix (de_name 1) de_int) de_int)) (de_name 2))))
  dss_nil)
  (dss_cons (ds_set (i := 3) (de_len m_len (da_cons (de_name 0) da_nil)) sc_l_draw.nd)
  (dss_cons (ds_for (di_list (de_slice (de_name 0) do_none (do_some de_int))) (dg_name (i := 4) sc_l_draw.nd)
  (dss_one (ds_set (i := 3) (de_mod (de_add (de_mul (de_name 3) de_int) (de_name 4)) de_int) sc_l_draw.nd)) (fun hg hi hb => ps_for PassesOwn.never rfl hi hg hb))
  (dss_one (ds_ret (de_mod (de_mod (de_mul (de_add (de_name 3) de_int) (de_add (de_mul (de_ix (de_name 1) de_int) (de_ix (de_name 1) de_int)) de_int)) de_int) (de_name 2))))))))) ?_
  rintro ds es Q ⟨ns, n, m, rfl, rfl, hn, hm, hl, hQ⟩
  have e1 : (n : Int) + 1 = ((n + 1 : Nat) : Int) := by omega
  refine ⟨_, 0, .int (n : Nat), rfl, rfl, rfl, ?_⟩
  refine ⟨rfl, _, rfl, 0, rfl, 0, rfl, rfl, ?_⟩
  rw [e1]
  refine ⟨_, 0, .int (n + 1 : Nat), rfl, rfl, rfl, ns.map D.int, rfl, True.intro, _, rfl, fun z => ?_, fun z => ?_⟩
  · have z : n + 1 ≤ ns.length := by have := of_decide_eq_true z; rw [List.length_map] at this; omega
    obtain ⟨x, hx⟩ := atI_fz (ns := ns) (k := n) (by omega)
    refine ⟨_, 0, .int (n + 1 : Nat), rfl, rfl, rfl, True.intro, ns.map D.int, ((n + 1 : Nat) : Int) - 1, .int x, rfl, rfl, ?_, ?_⟩
    · rw [show ((n + 1 : Nat) : Int) - 1 = (n : Int) by omega]; exact hx
    · refine ⟨by omega, _, rfl, by simp [frOk, DL.nol], _, rfl, ?_⟩
      obtain ⟨r, hr, er⟩ := mod_nat (x := x) hm
      show Q (.int (x % (m : Int))) _
      rw [er]
      exact hQ r hr
  · refine ⟨ns.map D.int, rfl, by simp [iniT], ?_⟩
    refine ⟨4, rfl, ?_⟩
    refine ⟨fun i ρ => ∃ (sd : Int) (fx : Fr) (b : Sl), ρ = [.val (scD ns) .o, .mp 0 (tp (n + 1)), .val (.int m) .o, .val (.int sd) fx, b] ∧ 0 ≤ sd ∧ sd < 1000003, ⟨_, _, .no, rfl, by omega, by rw [List.length_map]; omega⟩, ?_, ?_⟩
    · rintro i d ρ hd ⟨sd, fx, b, rfl, h1, h2⟩
      obtain ⟨x, rfl⟩ := cut_ints hd
      refine ⟨_, rfl, ?_⟩
      refine ⟨mulR (by decide) (by decide), (show (0 : Int) < 1000003 by decide), by simp, _, _, _, rfl, Int.emod_nonneg _ (by decide), Int.emod_lt_of_pos _ (by decide)⟩
    · rintro ρ ⟨sd, fx, b, rfl, h1, h2⟩
      refine ⟨_, 0, .int (n + 1 : Nat), rfl, rfl, rfl, _, 0, .int (n + 1 : Nat), rfl, rfl, rfl, mulL (by omega) (by omega), mulL (by omega) (by omega), (show (0 : Int) < 1000003 by decide), by omega, _, rfl, by simp [frOk, DL.nol], _, rfl, ?_⟩
      obtain ⟨r, hr, er⟩ := mod_nat (x := (sd + 7) * (((n + 1 : Nat) : Int) * ((n + 1 : Nat) : Int) + 48271) % 1000003) hm
      show Q (.int ((sd + 7) * (((n + 1 : Nat) : Int) * ((n + 1 : Nat) : Int) + 48271) % 1000003 % (m : Int))) _
      rw [er]
      exact hQ r hr
end
end K9

namespace K9
open PySem L2 DL
section
variable {P : Program} {w : World} {K : PySem.W.Frag} {mg : Str → Option Value} {base : Heap} {f : Addr} {fd : FuncData}
def sg1 : Str := "0123456789abcdefghijklmnopqrstuvwxyzABCDEFGHIJKLMNOPQRSTUVWXYZ"
def sg2 : Str := "#$&'()*+,-./:;<=>?\x40[]^_{|}~! \"\\`"
theorem sg_len : (sg1 ++ sg2 : Str).cps.toList.length = 94 := by decide +kernel
abbrev chD (l : List Nat) : List D := l.map fun c => .str ⟨#[c]⟩
theorem len_lt {n : Nat} (h : n < 1000) : n < sizeLine := by rw [sizeLine_eq]; omega
theorem upto_at {n i : Nat} {d : D} (h : (upto 0 n)[i]? = some d) : i < n ∧ d = .int (i : Nat) := by
  obtain ⟨h1, h2⟩ := range_map h
  exact ⟨h1, by rw [h2]; congr 1; omega⟩
theorem upto_len (a : Int) (n : Nat) : (upto a n).length = n := by unfold upto; rw [List.length_map, List.length_range]
/- _law_marks: 0 _law_script, 1 _law_tape, 2 _law_many, 3 _law_signs, 4 _law_at, 5 _law_step, 6 _law_k -/
abbrev s_l_marks : Stmt := top 14
abbrev N_l_marks : List Str := ["_law_script", "_law_tape", "_law_many", "_law_signs", "_law_at", "_law_step", "_law_k"]
theorem sc_l_marks : FnScope N_l_marks ["_law_script", "_law_tape", "_law_many"] (defScope s_l_marks) := ⟨rfl, rfl, rfl, by decide +kernel, rfl, by decide +kernel, by decide +kernel⟩
/-- any signs, many of them -/
def spMarks : SpT := fun ds es P => ∃ (ns : List Int) (n m : Nat), ds = [scD ns, .int (m : Nat)] ∧ es = tp n ∧ n < 999900 ∧ m ≤ 900 ∧ ns.length ≤ 63 ∧ ∀ l : List Nat, l.length = m → P (.lst (chD l)) (tp (n + 2))
theorem ok_marks (F : Fun K "_law_marks" "_law_marks" s_l_marks f fd) (m_range : mg "range" = none) (C_l_draw : Cal P w K mg base "_law_draw" 1 (spT K 1 spDraw)) : FnOk P w K mg base CX0 2 f fd ["_law_script", "_law_tape", "_law_many"] (spT K 1 spMarks) := by
  refine dfnT (N := N_l_marks) F sc_l_marks (by decide) (by decide) (fun ds es Q ⟨_, _, _, e, _⟩ => by rw [e]; rfl) (fun cdv A outer s H E hr => (dss_cons (ds_set (i := 3) de_str sc_l_marks.nd)
  (dss_cons (ds_set (i := 3) (de_add (de_name 3) de_str) sc_l_marks.nd)
  (dss_cons (ds_set (i := 4) (de_callT C_l_draw hr (by omega) (da_cons (de_name 0) (da_cons (de_name 1) (da_cons de_int da_nil)))) sc_l_marks.nd)
  (dss_cons (ds_set (i := 5) (de_add de_int (de_callT C_l_draw hr (by omega) (da_cons (de_name 0) (da_cons (de_name 1) (da_cons de_int da_nil))))) sc_l_marks.nd)
  (dss_one (ds_ret (de_lc rfl sc_l_marks.nd (di_range1 m_range (da_cons (de_name 2) da_nil)) (blkOk_by (own := [("_law_k", 6)]) (N := N_l_marks) (sc := defScope s_l_marks) (by decide +kernel)) (g := (.one 6)) (by decide) (fun _ => (dg_name (i := 6) sc_l_marks.nd)) (fun _ => dts_nil) (fun _ => (de_ix (de_name 3) (de_mod (de_add (de_name 4) (de_mul (de_name 5) (de_name 6))) de_int))))))))))) ?_
  rintro ds es Q ⟨ns, n, m, rfl, rfl, hn, hm, hl, hQ⟩
  refine ⟨by simp [iniT], ?_⟩
  refine ⟨(by rw [sizeLine_eq]; decide +kernel), by simp [iniT], ?_⟩
  refine ⟨rfl, ns, n, 94, rfl, rfl, by omega, by omega, hl, fun a ha => ⟨by simp [iniT], ?_⟩⟩
  refine ⟨rfl, ns, n + 1, 23, rfl, rfl, by omega, by omega, hl, fun b hb => ⟨by simp [iniT], ?_⟩⟩
  refine ⟨m, rfl, ⟨by omega, by omega⟩, rfl, .n, fun i acc ρ => ∃ l : List Nat, l.length = i ∧ acc = chD l ∧ ρ = [.val (scD ns) .o, .mp 0 (tp (n + 2)), .val (.int m) .o, .val (.str (sg1 ++ sg2)) .n, .val (.int a) .n, .val (.int (1 + b)) .n, .no], ⟨[], rfl, rfl, rfl⟩, ?_, ?_⟩
  · rintro i d acc ρ hd ⟨l, rfl, rfl, rfl⟩
    obtain ⟨hi, rfl⟩ := upto_at hd
    rw [Int.toNat_natCast] at hi
    refine ⟨_, rfl, fun _ => ?_, fun h => by cases h⟩
    obtain ⟨r, hr, er⟩ := mod_nat (x := (a : Int) + (1 + b) * (l.length : Nat)) (m := 94) (by decide)
    have hc : r < (sg1 ++ sg2 : Str).cps.toList.length := by rw [sg_len]; exact hr
    refine ⟨mulL (by omega) (by omega), (show (0 : Int) < 94 by decide), ((a : Int) + (1 + b) * (l.length : Nat)) % 94, (sg1 ++ sg2 : Str).cps.toList[r], rfl, (by rw [sizeLine_eq]; decide +kernel), ?_, _, rfl, rfl, ?_, l ++ [(sg1 ++ sg2 : Str).cps.toList[r]], by simp, by simp, rfl⟩
    · rw [show (94 : Int) = ((94 : Nat) : Int) from rfl, er]
      exact atI_nat (List.getElem?_eq_getElem hc)
    · exact len_lt (by rw [List.length_map]; omega)
  · rintro acc ρ ⟨l, hl, rfl, rfl⟩
    rw [upto_len, Int.toNat_natCast] at hl
    exact ⟨_, rfl, by simp [frOk], _, rfl, hQ l hl⟩
end
end K9

namespace K9
open PySem L2 DL
section
variable {P : Program} {w : World} {K : PySem.W.Frag} {mg : Str → Option Value} {base : Heap} {f : Addr} {fd : FuncData}
abbrev chs (l : List Nat) : List Str := l.map fun c => (⟨#[c]⟩ : Str)
theorem chs_str (l : List Nat) : (chs l).map D.str = chD l := by unfold chs chD; rw [List.map_map]; rfl
theorem chs_sum (l : List Nat) (z : Str) : ((chs l).map (·.length)).sum + (chs l).length * z.length = l.length + l.length * z.length := by
  have : ((chs l).map (·.length)).sum = l.length := by
    induction l with
    | nil => rfl
    | cons c r ih =>
      show 1 + ((chs r).map (·.length)).sum = _
      rw [ih, List.length_cons]; omega
  rw [this, List.length_map]
theorem chs_join (l : List Nat) : (Txt.join "" (chs l)).length = l.length := by
  have e : TL.tl (Txt.join "" (chs l)) = l := by
    rw [TL.join_eq, TL.tl_join]
    show TL.joinL [] _ = l
    induction l with
    | nil => rfl
    | cons c r ih =>
      cases r with
      | nil => rfl
      | cons d r =>
        show [c] ++ ([] ++ TL.joinL [] ((chs (d :: r)).map TL.tl)) = _
        rw [ih]; rfl
  have := congrArg List.length e
  simpa [TL.tl, Str.length] using this
theorem cut4 {c0 c1 c2 c3 mn : Nat} (h1 : 1 ≤ mn) (h4 : mn ≤ 4) : ∃ l : List Nat, 1 ≤ l.length ∧ l.length ≤ 4 ∧ cutD (chD [c0, c1, c2, c3]) none (some (mn : Int)) = chD l := by
  match mn, h1, h4 with
  | 1, _, _ => exact ⟨[c0], by simp, by simp, rfl⟩
  | 2, _, _ => exact ⟨[c0, c1], by simp, by simp, rfl⟩
  | 3, _, _ => exact ⟨[c0, c1, c2], by simp, by simp, rfl⟩
  | 4, _, _ => exact ⟨[c0, c1, c2, c3], by simp, by simp, rfl⟩
theorem str_len (a b : Str) : (a ++ b : Str).length = a.length + b.length := by
  show (a.cps ++ b.cps).size = _
  exact Array.size_append
theorem in3 {x y z : Str} {i : Nat} {d : D} (hx : x.length ≤ 2) (hy : y.length ≤ 2) (hz : z.length ≤ 2) (h : [D.str x, .str y, .str z][i]? = some d) : i < 3 ∧ ∃ s, d = .str s ∧ s.length ≤ 2 := by
  match i, h with
  | 0, h => cases h; exact ⟨by decide, _, rfl, hx⟩
  | 1, h => cases h; exact ⟨by decide, _, rfl, hy⟩
  | 2, h => cases h; exact ⟨by decide, _, rfl, hz⟩
/- _law_world: 0 _law_script, 1 _law_tape, 2 _law_many, 3 _law_signs, 4 _law_begin, 5 _law_names, 6 _law_way, 7 _law_name, 8 _law_k -/
abbrev s_l_world : Stmt := top 15
abbrev N_l_world : List Str := ["_law_script", "_law_tape", "_law_many", "_law_signs", "_law_begin", "_law_names", "_law_way", "_law_name", "_law_k"]
theorem sc_l_world : FnScope N_l_world ["_law_script", "_law_tape"] (defScope s_l_world) := ⟨rfl, rfl, rfl, by decide +kernel, rfl, by decide +kernel, by decide +kernel⟩
def spWorld : SpT := fun ds es P => ∃ (ns : List Int) (n : Nat), ds = [scD ns] ∧ es = tp n ∧ n < 990000 ∧ ns.length ≤ 63 ∧ ∀ (lt a b c : Str) (n' : Nat), 1 ≤ lt.length → lt.length ≤ 4 → n ≤ n' → n' ≤ n + 10 → P (.tup [.str lt, .lst [.str a, .str b, .str c]]) (tp n')
theorem ok_world (F : Fun K "_law_world" "_law_world" s_l_world f fd) (m_range : mg "range" = none) (C_l_draw : Cal P w K mg base "_law_draw" 1 (spT K 1 spDraw)) (C_l_marks : Cal P w K mg base "_law_marks" 2 (spT K 1 spMarks)) : FnOk P w K mg base CX0 3 f fd ["_law_script", "_law_tape"] (spT K 1 spWorld) := by
  refine dfnT (N := N_l_world) F sc_l_world (by decide) (by decide) (fun ds es Q ⟨_, _, e, _⟩ => by rw [e]; rfl) (fun cdv A outer s H E hr => (dss_cons (ds_set (i := 2) (de_add de_int (de_callT C_l_draw hr (by omega) (da_cons (de_name 0) (da_cons (de_name 1) (da_cons de_int da_nil))))) sc_l_world.nd)
  (dss_cons (ds_cut (ds_if (dt_eq hr (de_callT C_l_draw hr (by omega) (da_cons (de_name 0) (da_cons (de_name 1) (da_cons de_int da_nil)))) de_int)
  (dss_one (ds_set (i := 2) (de_add de_int (de_callT C_l_draw hr (by omega) (da_cons (de_name 0) (da_cons (de_name 1) (da_cons de_int da_nil))))) sc_l_world.nd))
  dss_nil))
  (dss_cons (ds_set (i := 3) (de_callT C_l_marks hr (by omega) (da_cons (de_name 0) (da_cons (de_name 1) (da_cons de_int da_nil)))) sc_l_world.nd)
  (dss_cons (ds_set (i := 4) (de_join de_str (de_lc rfl sc_l_world.nd (di_range1 m_range (da_cons (de_ix (de_lst (da_cons de_int (da_cons de_int (da_cons de_int da_nil)))) (de_callT C_l_draw hr (by omega) (da_cons (de_name 0) (da_cons (de_name 1) (da_cons de_int da_nil))))) da_nil)) (blkOk_by (own := [("_law_k", 8)]) (N := N_l_world) (sc := defScope s_l_world) (by decide +kernel)) (g := (.one 8)) (by decide) (fun _ => (dg_name (i := 8) sc_l_world.nd)) (fun _ => dts_nil) (fun _ => (de_ix (de_name 3) (de_mod (de_name 8) de_int))))) sc_l_world.nd)
  (dss_cons (ds_setLc (i := 5) rfl sc_l_world.nd (sw_true rfl rfl rfl (by decide +kernel)) (di_list (de_lst (da_cons de_str (da_cons (de_add (de_ix (de_name 3) de_int) de_str) (da_cons de_str da_nil))))) (blkOk_by (own := [("_law_name", 7)]) (N := N_l_world) (sc := defScope s_l_world) (by decide +kernel)) (g := (.one 7)) (by decide) (fun _ => (dg_name (i := 7) sc_l_world.nd)) (fun _ => dts_nil) (fun _ => (de_add (de_name 4) (de_name 7))))
  (dss_cons (ds_set (i := 6) (de_callT C_l_draw hr (by omega) (da_cons (de_name 0) (da_cons (de_name 1) (da_cons de_int da_nil)))) sc_l_world.nd)
  (dss_cons (ds_cut (ds_if (dt_lt (de_name 6) de_int)
  (dss_one (ds_setLc (i := 5) rfl sc_l_world.nd (sw_true rfl rfl rfl (by decide +kernel)) (di_list (de_lst (da_cons de_str (da_cons de_str (da_cons de_str da_nil))))) (blkOk_by (own := [("_law_name", 7)]) (N := N_l_world) (sc := defScope s_l_world) (by decide +kernel)) (g := (.one 7)) (by decide) (fun _ => (dg_name (i := 7) sc_l_world.nd)) (fun _ => dts_nil) (fun _ => (de_add (de_add (de_name 4) (de_name 7)) (de_name 4)))))
  dss_nil))
  (dss_cons (ds_cut (ds_if (dt_eq hr (de_name 6) de_int)
  (dss_one (ds_set (i := 5) (de_lst (da_cons (de_add (de_add (de_name 4) (de_ix (de_name 3) de_int)) (de_ix (de_name 3) de_int)) (da_cons (de_add (de_add (de_name 4) (de_ix (de_name 3) de_int)) (de_ix (de_name 3) de_int)) (da_cons (de_add (de_add (de_name 4) (de_ix (de_name 3) de_int)) (de_ix (de_name 3) de_int)) da_nil)))) sc_l_world.nd))
  dss_nil))
  (dss_one (ds_ret (de_tup (da_cons (de_join de_str (de_slice (de_name 3) do_none (do_some (de_name 2)))) (da_cons (de_nameF 5) da_nil)))))))))))))) ?_
  rintro ds es Q ⟨ns, n, rfl, rfl, hn, hl, hQ⟩
  refine ⟨rfl, ns, n, 2, rfl, rfl, by omega, by omega, hl, fun a ha => ⟨by simp [iniT], ?_⟩⟩
  refine ⟨fun ρ => ∃ (mn n' : Nat) (fx : Fr), 1 ≤ mn ∧ mn ≤ 4 ∧ n ≤ n' ∧ n' ≤ n + 3 ∧ ρ = [.val (scD ns) .o, .mp 0 (tp n'), .val (.int mn) fx, .no, .no, .no, .no, .no, .no], ⟨rfl, ns, n + 1, 6, rfl, rfl, by omega, by omega, hl, fun b hb => ⟨rfl, _, rfl, fun z => ?_, fun z => ?_⟩⟩, ?_⟩
  · exact ⟨rfl, ns, n + 2, 2, rfl, rfl, by omega, by omega, hl, fun c hc => ⟨by simp [iniT], 3 + c, n + 3, _, by omega, by omega, by omega, by omega, rfl⟩⟩
  · exact ⟨1 + a, n + 2, _, by omega, by omega, by omega, by omega, rfl⟩
  rintro ρ ⟨mn, n', fx, h1, h2, h3, h4, rfl⟩
  refine ⟨rfl, ns, n', 4, rfl, rfl, by omega, by omega, hl, fun l hl4 => ⟨by simp, ?_⟩⟩
  match l, hl4 with
  | [c0, c1, c2, c3], _ =>
  refine ⟨"", rfl, rfl, ns, n' + 2, 3, rfl, rfl, by omega, by omega, hl, fun j hj => ?_⟩
  obtain ⟨q, hq, ej⟩ : ∃ q : Nat, q ≤ 30 ∧ atI [D.int 0, .int 1, .int 30] (j : Int) = some (.int (q : Nat)) := by
    match j, hj with
    | 0, _ => exact ⟨0, by decide, rfl⟩
    | 1, _ => exact ⟨1, by decide, rfl⟩
    | 2, _ => exact ⟨30, by decide, rfl⟩
  refine ⟨_, j, .int q, rfl, rfl, ej, q, rfl, ⟨by omega, by omega⟩, rfl, .n, fun i acc ρ => ∃ l : List Nat, l.length = i ∧ acc = chD l ∧ ρ = [.val (scD ns) .o, .mp 0 (tp (n' + 3)), .val (.int mn) fx, .val (.lst (chD [c0, c1, c2, c3])) .n, .no, .no, .no, .no, .no], ⟨[], rfl, rfl, rfl⟩, ?_, ?_⟩
  · rintro i d acc ρ hd ⟨l, rfl, rfl, rfl⟩
    obtain ⟨hi, rfl⟩ := upto_at hd
    rw [Int.toNat_natCast] at hi
    refine ⟨_, rfl, fun _ => ?_, fun h => by cases h⟩
    obtain ⟨r, hr, er⟩ := mod_nat (x := ((l.length : Nat) : Int)) (m := 4) (by decide)
    have hc : ([c0, c1, c2, c3] : List Nat)[r]? = some ([c0, c1, c2, c3][r]) := List.getElem?_eq_getElem hr
    refine ⟨(show (0 : Int) < 4 by decide), _, ((l.length : Nat) : Int) % 4, .str ⟨#[[c0, c1, c2, c3][r]]⟩, rfl, rfl, ?_, _, rfl, rfl, ?_, l ++ [[c0, c1, c2, c3][r]], by simp, by simp, rfl⟩
    · rw [show (4 : Int) = ((4 : Nat) : Int) from rfl, er]
      exact atI_nat (by rw [List.getElem?_map, hc]; rfl)
    · exact len_lt (by rw [List.length_map]; omega)
  rintro acc ρ ⟨l, hl2, rfl, rfl⟩
  rw [upto_len, Int.toNat_natCast] at hl2
  refine ⟨chs l, by rw [chs_str]; rfl, ?_, by simp [mergeE], ?_⟩
  · rw [chs_sum, hl2]; show q + q * 0 ≤ _; omega
  have hbg := chs_join l
  rw [hl2] at hbg
  generalize Txt.join "" (chs l) = bg at hbg ⊢
  have hS : ∀ n : Nat, n ≤ 100 → n ≤ sizeLine := fun n h => by rw [sizeLine_eq]; omega
  refine ⟨_, 3, .str ⟨#[c3]⟩, rfl, rfl, rfl, hS _ (show 1 + 1 ≤ 100 by decide), rfl, .n, fun i acc ρ => ∃ l : List Str, l.length = i ∧ acc = l.map D.str ∧ ρ = [.val (scD ns) .o, .mp 0 (tp (n' + 3)), .val (.int mn) fx, .val (.lst (chD [c0, c1, c2, c3])) .n, .val (.str bg) .n, .no, .no, .no, .no], ⟨[], rfl, rfl, rfl⟩, ?_, ?_⟩
  · rintro i d acc ρ hd ⟨l, rfl, rfl, rfl⟩
    obtain ⟨hi, s, rfl, hs⟩ := in3 (by decide) (by rw [str_len]; exact (show 1 + 1 ≤ 2 by decide)) (by decide) hd
    refine ⟨_, rfl, fun _ => ?_, fun h => by cases h⟩
    exact ⟨hS _ (by omega), _, rfl, rfl, len_lt (by rw [List.length_map]; omega), l ++ [bg ++ s], by simp, by simp, rfl⟩
  rintro acc ρ ⟨l, hl3, rfl, rfl⟩
  refine ⟨by simp [mergeE], ?_⟩
  replace hl3 : l.length = 3 := hl3
  match l, hl3 with
  | [x, y, z], _ =>
  refine ⟨rfl, ns, n' + 3, 4, rfl, rfl, by omega, by omega, hl, fun wy hwy => ⟨by simp [mergeE], ?_⟩⟩
  refine ⟨fun ρ => ∃ x y z : Str, ρ = [.val (scD ns) .o, .mp 0 (tp (n' + 4)), .val (.int mn) fx, .val (.lst (chD [c0, c1, c2, c3])) .n, .val (.str bg) .n, .ml [.str x, .str y, .str z] .n, .val (.int wy) .n, .no, .no], ⟨True.intro, _, rfl, fun _ => ?_, fun _ => ⟨x, y, z, rfl⟩⟩, ?_⟩
  · refine ⟨rfl, .n, fun i acc ρ => ∃ l : List Str, l.length = i ∧ acc = l.map D.str ∧ ρ = [.val (scD ns) .o, .mp 0 (tp (n' + 4)), .val (.int mn) fx, .val (.lst (chD [c0, c1, c2, c3])) .n, .val (.str bg) .n, .ml [.str x, .str y, .str z] .n, .val (.int wy) .n, .no, .no], ⟨[], rfl, rfl, rfl⟩, ?_, ?_⟩
    · rintro i d acc ρ hd ⟨l, rfl, rfl, rfl⟩
      obtain ⟨hi, s, rfl, hs⟩ := in3 (by decide) (by decide) (by decide) hd
      refine ⟨_, rfl, fun _ => ?_, fun h => by cases h⟩
      exact ⟨hS _ (by omega), hS _ (by rw [str_len]; omega), _, rfl, rfl, len_lt (by rw [List.length_map]; omega), l ++ [bg ++ s ++ bg], by simp, by simp, rfl⟩
    · rintro acc ρ ⟨l, hl3, rfl, rfl⟩
      replace hl3 : l.length = 3 := hl3
      match l, hl3 with
      | [x, y, z], _ => exact ⟨by simp [mergeE], x, y, z, rfl⟩
  rintro ρ ⟨x, y, z, rfl⟩
  refine ⟨fun ρ => ∃ x y z : Str, ρ = [.val (scD ns) .o, .mp 0 (tp (n' + 4)), .val (.int mn) fx, .val (.lst (chD [c0, c1, c2, c3])) .n, .val (.str bg) .n, .ml [.str x, .str y, .str z] .n, .val (.int wy) .n, .no, .no], ⟨rfl, _, rfl, fun _ => ?_, fun _ => ⟨x, y, z, rfl⟩⟩, ?_⟩
  · have l1 : ∀ c : Nat, (bg ++ (⟨#[c]⟩ : Str)).length ≤ 31 := fun c => by rw [str_len]; show _ + 1 ≤ _; omega
    have g1 : ∀ c : Nat, bg.length + (⟨#[c]⟩ : Str).length ≤ sizeLine := fun c => hS _ (by show _ + 1 ≤ _; omega)
    have g2 : ∀ c d : Nat, (bg ++ (⟨#[c]⟩ : Str)).length + (⟨#[d]⟩ : Str).length ≤ sizeLine := fun c d => hS _ (by have := l1 c; show _ + 1 ≤ _; omega)
    exact ⟨_, 0, .str ⟨#[c0]⟩, rfl, rfl, rfl, g1 _, _, 1, .str ⟨#[c1]⟩, rfl, rfl, rfl, g2 _ _, _, 1, .str ⟨#[c1]⟩, rfl, rfl, rfl, g1 _, _, 0, .str ⟨#[c0]⟩, rfl, rfl, rfl, g2 _ _, _, 0, .str ⟨#[c0]⟩, rfl, rfl, rfl, g1 _, _, 0, .str ⟨#[c0]⟩, rfl, rfl, rfl, g2 _ _, by simp, _, _, _, rfl⟩
  rintro ρ ⟨x, y, z, rfl⟩
  obtain ⟨l, hl1, hl4, ecut⟩ := cut4 (c0 := c0) (c1 := c1) (c2 := c2) (c3 := c3) h1 h2
  refine ⟨"", rfl, mn, rfl, chs l, ?_, ?_, _, rfl, rfl, _, rfl, ?_⟩
  · show some (cutD (chD [c0, c1, c2, c3]) none (some (mn : Int))) = _
    rw [ecut, chs_str]
  · rw [chs_sum]; show l.length + l.length * 0 ≤ _; omega
  · have := chs_join l
    exact hQ _ x y z (n' + 4) (by omega) (by omega) (by omega) (by omega)
end
end K9

namespace K9
open PySem L2 DL
section
variable {P : Program} {w : World} {K : PySem.W.Frag} {mg : Str → Option Value} {base : Heap} {f : Addr} {fd : FuncData}
def kdS : Bool → Str
  | true => "place"
  | false => "set"
theorem kdS_inj {a b : Bool} : decide (kdS a = kdS b) = decide (a = b) := by cases a <;> cases b <;> decide
abbrev Sk := List (Str × Bool)
def encS (p : Str × Bool) : D := .tup [.str p.1, .str (kdS p.2)]
/-- a scope, innermost first; written it is the other way round -/
def scL (e : Sk) : List D := (e.map encS).reverse
theorem scL_cons (p : Str × Bool) (e : Sk) : scL e ++ [encS p] = scL (p :: e) := by unfold scL; rw [List.map_cons, List.reverse_cons]
theorem scL_len (e : Sk) : (scL e).length = e.length := by unfold scL; rw [List.length_reverse, List.length_map]
theorem look_snoc {β : Type} (n m : Str) (k : β) : ∀ e : List (Str × β), look n (e ++ [(m, k)]) = match look n e with
    | some x => some x
    | none => if m = n then some k else none
  | [] => rfl
  | (x, y) :: r => by
    rw [List.cons_append]
    unfold look
    by_cases h : x = n
    · rw [if_pos h, if_pos h]
    · rw [if_neg h, if_neg h]; exact look_snoc n m k r
theorem inF_str {x : Str} : ∀ {l : List Str}, inF (.str x) (l.map D.str) = decide (x ∈ l)
  | [] => rfl
  | y :: l => by
    rw [List.map_cons]
    show (y == x || inF (.str x) (l.map D.str)) = _
    rw [inF_str (l := l)]
    by_cases h : y = x
    · subst h; simp
    · have h2 : ¬ x = y := fun e => h e.symm
      simp [h, h2]
theorem flat_strs (l : List Str) : (l.map D.str).all flat = true := by
  rw [List.all_eq_true]
  intro d hd
  obtain ⟨s, _, rfl⟩ := List.mem_map.mp hd
  rfl
theorem for_rev {j : Nat} {tg : Tgt} {b : TSD} {E : ED} {ρ : En} {ds ds' : List D} {f : Fr} (h : ρ.getD j .no = .val (.lst ds) f) (e : ds.reverse = ds')
    (k : ∃ I : Nat → En → Prop, I 0 ρ ∧ (∀ i d ρ2, ds'[i]? = some d → I i ρ2 → ∃ ρ3, setT tg d (if (if f = .o then Fr.o else .h) = .n then .h else if f = .o then .o else .h) ρ2 = some ρ3 ∧ b { E with nx := I (i + 1), ct := I (i + 1), bk := E.nx } ρ3) ∧ ∀ ρ2, I ds'.length ρ2 → E.nx ρ2) : dFor (dItV (dCons (dVarF j) dNil)) tg b E ρ := by
  subst e
  unfold dFor dItV dCons dVarF
  rw [h]
  exact k
/- _law_near: 0 _law_scope, 1 _law_sort, 2 _law_seen, 3 _law_found, 4 _law_name, 5 _law_kind -/
abbrev s_l_near : Stmt := top 16
abbrev N_l_near : List Str := ["_law_scope", "_law_sort", "_law_seen", "_law_found", "_law_name", "_law_kind"]
theorem sc_l_near : FnScope N_l_near ["_law_scope", "_law_sort"] (defScope s_l_near) := ⟨rfl, rfl, rfl, by decide +kernel, rfl, by decide +kernel, by decide +kernel⟩
def spNear : SpD := fun ds P => ∃ (e : Sk) (b : Bool), ds = [.lst (scL e), .str (kdS b)] ∧ e.length ≤ 500 ∧ ∀ l : List Str, (∀ n, n ∈ l ↔ look n e = some b) → P (.lst (l.map D.str))
theorem ok_near (F : Fun K "_law_near" "_law_near" s_l_near f fd) (m_reversed : mg "reversed" = none) : FnOk P w K mg base CX0 1 f fd ["_law_scope", "_law_sort"] (spP K spNear) := by
  refine dfn (N := N_l_near) F sc_l_near (by decide) (fun ds Q ⟨_, _, e, _⟩ => by rw [e]; rfl) (fun cdv A outer s H E hr => (dss_cons (ds_set (i := 2) (de_lst da_nil) sc_l_near.nd)
  (dss_cons (ds_set (i := 3) (de_lst da_nil) sc_l_near.nd)
  (dss_cons (ds_for (di_rev m_reversed (da_cons (de_nameF 0) da_nil)) (dg_tup rfl (dgs_cons (i := 4) sc_l_near.nd (dgs_cons (i := 5) sc_l_near.nd dgs_nil)) (fun h => pg_tup rfl h))
  (dss_one (ds_if (dt_notin (de_name 4) (de_name 2))
  (dss_cons (ds_app (m := 2) (de_nameF 4))
  (dss_one (ds_if (dt_eq hr (de_name 5) (de_name 1))
  (dss_one (ds_app (m := 3) (de_nameF 4)))
  dss_nil)))
  dss_nil)) (fun hg hi hb => ps_for PassesOwn.never rfl hi hg hb))
  (dss_one (ds_ret (de_nameF 3))))))) ?_
  rintro ds Q ⟨e, b, rfl, he, hQ⟩
  have hrev : (scL e).reverse = e.map encS := by unfold scL; rw [List.reverse_reverse]
  refine ⟨by simp [ini], ⟨by simp [ini], ?_⟩⟩
  dsimp only
  unfold dSeq
  refine for_rev (f := .o) rfl hrev ?_
  refine ⟨fun i ρ => ∃ (sn fo : List Str) (b1 b2 : Sl), ρ = [.val (.lst (scL e)) .o, .val (.str (kdS b)) .o, .ml (sn.map D.str) .n, .ml (fo.map D.str) .n, b1, b2] ∧ sn.length ≤ i ∧ fo.length ≤ i ∧ (∀ n, n ∈ sn ↔ look n (e.take i) ≠ none) ∧ ∀ n, n ∈ fo ↔ look n (e.take i) = some b,
    ⟨[], [], .no, .no, rfl, Nat.le_refl _, Nat.le_refl _, fun n => ⟨fun z => absurd z (by simp), fun z => absurd rfl z⟩, fun n => ⟨fun z => absurd z (by simp), fun z => absurd z (by simp [look])⟩⟩, ?_, ?_⟩
  · rintro i d ρ hd ⟨sn, fo, b1, b2, rfl, h1, h2, h3, h4⟩
    rw [List.getElem?_map] at hd
    cases ei : e[i]? with
    | none => rw [ei] at hd; cases hd
    | some p =>
      rw [ei] at hd
      obtain ⟨m, kd⟩ := p
      cases hd
      have hi := (List.getElem?_eq_some_iff.mp ei).1
      have et : e.take (i + 1) = e.take i ++ [(m, kd)] := by
        rw [List.take_succ, ei]; rfl
      have hsn : sn.length < sizeLine := len_lt (by omega)
      have hfo : fo.length < sizeLine := len_lt (by omega)
      refine ⟨_, rfl, ?_⟩
      refine ⟨_, rfl, rfl, flat_strs sn, _, rfl, fun z => ?_, fun z => ?_⟩
      · change (true ^^ inF (.str m) (sn.map D.str)) = true at z
        rw [inF_str, Bool.true_xor] at z
        have z : ¬ m ∈ sn := by simpa using z
        have ln : look m (e.take i) = none := by
          cases q : look m (e.take i) with
          | none => rfl
          | some x => exact absurd ((h3 m).mpr (by rw [q]; exact Option.some_ne_none _)) z
        refine ⟨rfl, _, rfl, by rw [List.length_map]; exact hsn, ?_⟩
        have sn' : ∀ n, n ∈ sn ++ [m] ↔ look n (e.take (i + 1)) ≠ none := fun n => by
          rw [et, look_snoc, List.mem_append, h3 n]
          cases q : look n (e.take i) with
          | some x => simp
          | none =>
            by_cases hm : m = n
            · subst hm; simp
            · have : ¬ n = m := fun t => hm t.symm
              simp [hm, this]
        refine ⟨rfl, _, rfl, fun z2 => ?_, fun z2 => ?_⟩
        · change (false ^^ eqD (.str (kdS kd)) (.str (kdS b))) = true at z2
          rw [Bool.false_xor, eqD_str, kdS_inj] at z2
          have z2 := of_decide_eq_true z2
          subst z2
          refine ⟨rfl, _, rfl, by rw [List.length_map]; exact hfo, sn ++ [m], fo ++ [m], .val (.str m) .o, .val (.str (kdS kd)) .o, ?_, by simp; omega, by simp; omega, sn', fun n => ?_⟩
          · rw [List.map_append, List.map_append]; rfl
          · rw [et, look_snoc, List.mem_append, h4 n]
            cases q : look n (e.take i) with
            | some x =>
              have : ¬ n = m := fun t => by rw [t, ln] at q; cases q
              simp [this]
            | none =>
              by_cases hm : m = n
              · subst hm; simp
              · have : ¬ n = m := fun t => hm t.symm
                simp [hm, this]
        · change (false ^^ eqD (.str (kdS kd)) (.str (kdS b))) = false at z2
          rw [Bool.false_xor, eqD_str, kdS_inj] at z2
          have z2 := of_decide_eq_false z2
          refine ⟨sn ++ [m], fo, .val (.str m) .o, .val (.str (kdS kd)) .o, ?_, by simp; omega, by omega, sn', fun n => ?_⟩
          · rw [List.map_append]; rfl
          · rw [et, look_snoc, h4 n]
            cases q : look n (e.take i) with
            | some x => simp
            | none =>
              by_cases hm : m = n
              · subst hm; simp [z2]
              · simp [hm]
      · change (true ^^ inF (.str m) (sn.map D.str)) = false at z
        rw [inF_str, Bool.true_xor] at z
        have z : m ∈ sn := by simpa using z
        have ln := (h3 m).mp z
        refine ⟨sn, fo, _, _, rfl, by omega, by omega, fun n => ?_, fun n => ?_⟩
        · rw [et, look_snoc, h3 n]
          cases q : look n (e.take i) with
          | some x => simp
          | none =>
            by_cases hm : m = n
            · subst hm; exact absurd q ln
            · simp [hm]
        · rw [et, look_snoc, h4 n]
          cases q : look n (e.take i) with
          | some x => simp
          | none =>
            by_cases hm : m = n
            · subst hm; exact absurd q ln
            · simp [hm]
  · rintro ρ ⟨sn, fo, b1, b2, rfl, h1, h2, h3, h4⟩
    rw [List.length_map, List.take_length] at h4
    exact ⟨_, rfl, by simp [frOk], hQ fo h4⟩
end
end K9

namespace K9
open PySem L2 DL
section
variable {P : Program} {w : World} {K : PySem.W.Frag} {mg : Str → Option Value} {base : Heap} {f : Addr} {fd : FuncData}
theorem pick {l : List Str} (h : 0 < l.length) (a : Int) : ∃ x, x ∈ l ∧ atI (l.map D.str) (a % ((l.map D.str).length : Int)) = some (.str x) := by
  obtain ⟨r, hr, er⟩ := mod_nat (x := a) (m := (l.map D.str).length) (by rw [List.length_map]; exact h)
  rw [er]
  have hr2 : r < l.length := by rw [List.length_map] at hr; exact hr
  exact ⟨l[r], List.getElem_mem _, atI_nat (by rw [List.getElem?_map, List.getElem?_eq_getElem hr2]; rfl)⟩
theorem pickc {z : Str} (h : 0 < z.length) (a : Int) : ∃ c, c ∈ z.cps.toList ∧ atI z.cps.toList (a % (z.length : Int)) = some c := by
  obtain ⟨r, hr, er⟩ := mod_nat (x := a) (m := z.length) h
  rw [er]
  have hr2 : r < z.cps.toList.length := by rw [Array.length_toList]; exact hr
  exact ⟨z.cps.toList[r], List.getElem_mem _, atI_nat (List.getElem?_eq_getElem hr2)⟩
/- _law_plain: 0 _law_script, 1 _law_tape, 2 _law_letters, 3 _law_scope, 4 _law_places, 5 _law_sets_here, 6 _law_one, 7 _law_other, 8 _law_way -/
abbrev s_l_plain : Stmt := top 17
abbrev N_l_plain : List Str := ["_law_script", "_law_tape", "_law_letters", "_law_scope", "_law_places", "_law_sets_here", "_law_one", "_law_other", "_law_way"]
theorem sc_l_plain : FnScope N_l_plain ["_law_script", "_law_tape", "_law_letters", "_law_scope"] (defScope s_l_plain) := ⟨rfl, rfl, rfl, by decide +kernel, rfl, by decide +kernel, by decide +kernel⟩
def spPlain : SpT := fun ds es P => ∃ (ns : List Int) (n : Nat) (lt : Str) (e : Sk), ds = [scD ns, .str lt, .lst (scL e)] ∧ es = tp n ∧ n < 999000 ∧ ns.length ≤ 63 ∧ 1 ≤ lt.length ∧ lt.length ≤ 4 ∧ e.length ≤ 500 ∧ (∃ m, look m e = some true) ∧
  ∀ (s : Sy Str) (n' : Nat), depth s = 0 → Wh s e → n ≤ n' → n' ≤ n + 4 → P (toD s) (tp n')
theorem ok_plain (F : Fun K "_law_plain" "_law_plain" s_l_plain f fd) (m_len : mg "len" = none) (C_l_draw : Cal P w K mg base "_law_draw" 1 (spT K 1 spDraw)) (C_l_near : Cal P w K mg base "_law_near" 1 (spP K spNear)) : FnOk P w K mg base CX0 2 f fd ["_law_script", "_law_tape", "_law_letters", "_law_scope"] (spT K 1 spPlain) := by
  refine dfnT (N := N_l_plain) F sc_l_plain (by decide) (by decide) (fun ds es Q ⟨_, _, _, _, e, _⟩ => by rw [e]; rfl) (fun cdv A outer s H E hr => (dss_cons (ds_set (i := 4) (de_call C_l_near hr (by omega) (da_cons (de_name 3) (da_cons de_str da_nil))) sc_l_plain.nd)
  (dss_cons (ds_set (i := 5) (de_call C_l_near hr (by omega) (da_cons (de_name 3) (da_cons de_str da_nil))) sc_l_plain.nd)
  (dss_cons (ds_set (i := 6) (de_ix (de_name 4) (de_mod (de_callT C_l_draw hr (by omega) (da_cons (de_name 0) (da_cons (de_name 1) (da_cons de_int da_nil)))) (de_len m_len (da_cons (de_name 4) da_nil)))) sc_l_plain.nd)
  (dss_cons (ds_set (i := 7) (de_ix (de_name 4) (de_mod (de_callT C_l_draw hr (by omega) (da_cons (de_name 0) (da_cons (de_name 1) (da_cons de_int da_nil)))) (de_len m_len (da_cons (de_name 4) da_nil)))) sc_l_plain.nd)
  (dss_cons (ds_set (i := 8) (de_callT C_l_draw hr (by omega) (da_cons (de_name 0) (da_cons (de_name 1) (da_cons de_int da_nil)))) sc_l_plain.nd)
  (dss_cons (ds_if (dt_lt (de_name 8) de_int)
  (dss_one (ds_ret (de_tup (da_cons de_str (da_cons (de_nameF 6) (da_cons (de_ix (de_name 2) (de_mod (de_callT C_l_draw hr (by omega) (da_cons (de_name 0) (da_cons (de_name 1) (da_cons de_int da_nil)))) (de_len m_len (da_cons (de_name 2) da_nil)))) da_nil))))))
  dss_nil)
  (dss_cons (ds_if (dt_w (dw_and (dt_lt (de_name 8) de_int) (dw_and1 (dt_gt (de_len m_len (da_cons (de_name 5) da_nil)) de_int))))
  (dss_one (ds_ret (de_tup (da_cons de_str (da_cons (de_nameF 6) (da_cons (de_ix (de_name 5) (de_mod (de_callT C_l_draw hr (by omega) (da_cons (de_name 0) (da_cons (de_name 1) (da_cons de_int da_nil)))) (de_len m_len (da_cons (de_name 5) da_nil)))) da_nil))))))
  dss_nil)
  (dss_cons (ds_if (dt_lt (de_name 8) de_int)
  (dss_one (ds_ret (de_tup (da_cons de_str (da_cons (de_nameF 6) (da_cons (de_nameF 7) da_nil))))))
  dss_nil)
  (dss_one (ds_ret (de_tup (da_cons de_str (da_cons (de_nameF 6) (da_cons (de_nameF 7) da_nil))))))))))))))) ?_
  rintro ds es Q ⟨ns, n, lt, e, rfl, rfl, hn, hl, hl1, hl4, he, ⟨m0, hm0⟩, hQ⟩
  have hlt : lt.length ≤ sizeLine := by rw [sizeLine_eq]; omega
  refine ⟨e, true, rfl, he, fun pls hp => ⟨by simp [iniT], ?_⟩⟩
  refine ⟨e, false, rfl, he, fun sts hs => ⟨by simp [iniT], ?_⟩⟩
  show dSeq _ _ _ [.val (scD ns) .o, .mp 0 (tp n), .val (.str lt) .o, .val (.lst (scL e)) .o, .val (.lst (pls.map D.str)) .n, .val (.lst (sts.map D.str)) .n, .no, .no, .no]
  have hpl : 0 < pls.length := List.length_pos_of_mem ((hp m0).mpr hm0)
  refine ⟨rfl, ns, n, 6, rfl, rfl, by omega, by omega, hl, fun a ha => ?_⟩
  obtain ⟨x, hx, ex⟩ := pick hpl (a : Int)
  refine ⟨_, rfl, by rw [List.length_map]; omega, _, _, .str x, rfl, rfl, ex, by simp, ?_⟩
  show dSeq _ _ _ [.val (scD ns) .o, .mp 0 (tp (n + 1)), .val (.str lt) .o, .val (.lst (scL e)) .o, .val (.lst (pls.map D.str)) .n, .val (.lst (sts.map D.str)) .n, .val (.str x) .h, .no, .no]
  refine ⟨rfl, ns, n + 1, 6, rfl, rfl, by omega, by omega, hl, fun b hb => ?_⟩
  obtain ⟨y, hy, ey⟩ := pick hpl (b : Int)
  refine ⟨_, rfl, by rw [List.length_map]; omega, _, _, .str y, rfl, rfl, ey, by simp, ?_⟩
  show dSeq _ _ _ [.val (scD ns) .o, .mp 0 (tp (n + 2)), .val (.str lt) .o, .val (.lst (scL e)) .o, .val (.lst (pls.map D.str)) .n, .val (.lst (sts.map D.str)) .n, .val (.str x) .h, .val (.str y) .h, .no]
  refine ⟨rfl, ns, n + 2, 7, rfl, rfl, by omega, by omega, hl, fun wy hwy => ⟨by simp, ?_⟩⟩
  have wx := (hp x).mp hx
  have wy' := (hp y).mp hy
  show dSeq _ _ _ [.val (scD ns) .o, .mp 0 (tp (n + 3)), .val (.str lt) .o, .val (.lst (scL e)) .o, .val (.lst (pls.map D.str)) .n, .val (.lst (sts.map D.str)) .n, .val (.str x) .h, .val (.str y) .h, .val (.int wy) .n]
  refine ⟨True.intro, _, rfl, fun _ => ?_, fun _ => ?_⟩
  · refine ⟨rfl, ns, n + 3, 12, rfl, rfl, by omega, by omega, hl, fun c hc => ?_⟩
    obtain ⟨ch, hch, ech⟩ := pickc (z := lt) (by omega) (c : Int)
    exact ⟨hlt, by omega, _, ch, rfl, hlt, ech, _, rfl, rfl, _, rfl, hQ (.letter x ⟨#[ch]⟩) (n + 4) rfl wx (by omega) (by omega)⟩
  refine ⟨True.intro, _, rfl, fun _ => ⟨_, rfl, True.intro, _, rfl, fun z => ?_, fun _ => ?_⟩, fun _ => ⟨fun h => Bool.noConfusion h, fun _ => ?_⟩⟩
  · have hst : 0 < sts.length := by have := of_decide_eq_true z; rw [List.length_map] at this; omega
    refine ⟨rfl, ns, n + 3, 6, rfl, rfl, by omega, by omega, hl, fun c hc => ?_⟩
    obtain ⟨t, ht, et⟩ := pick hst (c : Int)
    exact ⟨_, rfl, by rw [List.length_map]; omega, _, _, .str t, rfl, rfl, et, _, rfl, rfl, _, rfl, hQ (.within x t) (n + 4) rfl ⟨wx, (hs t).mp ht⟩ (by omega) (by omega)⟩
  all_goals
    refine ⟨True.intro, _, rfl, fun _ => ?_, fun _ => ?_⟩
    · exact ⟨_, rfl, rfl, _, rfl, hQ (.ahead x y) (n + 3) rfl ⟨wx, wy'⟩ (by omega) (by omega)⟩
    · exact ⟨_, rfl, rfl, _, rfl, hQ (.same x y) (n + 3) rfl ⟨wx, wy'⟩ (by omega) (by omega)⟩
end
end K9

namespace K9
open PySem L2 DL
section
variable {P : Program} {w : World} {K : PySem.W.Frag} {mg : Str → Option Value} {base : Heap} {f : Addr} {fd : FuncData}
abbrev woD (lt a b c : Str) : D := .tup [.str lt, .lst [.str a, .str b, .str c]]
/- _law_saying: 0 _law_script, 1 _law_tape, 2 _law_world_here, 3 _law_scope, 4 _law_deep, 5 _law_way, 6 _law_name, 7 _law_sort, 8 _law_letters, 9 _law_names, 10 _law_one -/
abbrev s_l_saying : Stmt := top 18
abbrev N_l_saying : List Str := ["_law_script", "_law_tape", "_law_world_here", "_law_scope", "_law_deep", "_law_way", "_law_name", "_law_sort", "_law_letters", "_law_names", "_law_one"]
theorem sc_l_saying : FnScope N_l_saying ["_law_script", "_law_tape", "_law_world_here", "_law_scope", "_law_deep"] (defScope s_l_saying) := ⟨rfl, rfl, rfl, by decide +kernel, rfl, by decide +kernel, by decide +kernel⟩
def spSay (k : Nat) : SpT := fun ds es P => ∃ (d : Nat) (ns : List Int) (n : Nat) (lt a b c : Str) (e : Sk), d < k ∧ ds = [scD ns, woD lt a b c, .lst (scL e), .int (d : Nat)] ∧ es = tp n ∧ n + 10 * 2 ^ d < 900000 ∧ ns.length ≤ 63 ∧ 1 ≤ lt.length ∧ lt.length ≤ 4 ∧ e.length + d ≤ 400 ∧
  ∀ (s : Sy Str) (n' : Nat), depth s ≤ d + 1 → Wh s e → n ≤ n' → n' + 2 ≤ n + 10 * 2 ^ d → P (toD s) (tp n')
theorem ok_saying {k : Nat} (F : Fun K "_law_saying" "_law_saying" s_l_saying f fd) (m_len : mg "len" = none) (C_l_draw : Cal P w K mg base "_law_draw" 1 (spT K 1 spDraw)) (C_l_near : Cal P w K mg base "_law_near" 1 (spP K spNear)) (C_l_plain : Cal P w K mg base "_law_plain" 2 (spT K 1 spPlain))
    (C_l_saying : Cal P w K mg base "_law_saying" (k + 3) (spT K 1 (spSay k))) : FnOk P w K mg base CX0 (k + 4) f fd ["_law_script", "_law_tape", "_law_world_here", "_law_scope", "_law_deep"] (spT K 1 (spSay (k + 1))) := by
  refine dfnT (N := N_l_saying) F sc_l_saying (by decide) (by decide) (fun ds es Q ⟨_, _, _, _, _, _, _, _, _, e, _⟩ => by rw [e]; rfl) (fun cdv A outer s H E hr => (dss_cons (ds_unp (de_nameF 2) (dg_tup rfl (dgs_cons (i := 8) sc_l_saying.nd (dgs_cons (i := 9) sc_l_saying.nd dgs_nil)) (fun h => pg_tup rfl h)))
  (dss_cons (ds_set (i := 5) (de_callT C_l_draw hr (by omega) (da_cons (de_name 0) (da_cons (de_name 1) (da_cons de_int da_nil)))) sc_l_saying.nd)
  (dss_cons (ds_set (i := 6) (de_ix (de_name 9) (de_callT C_l_draw hr (by omega) (da_cons (de_name 0) (da_cons (de_name 1) (da_cons de_int da_nil))))) sc_l_saying.nd)
  (dss_cons (ds_if (dt_w (dw_or (dt_eq hr (de_name 4) de_int) (dw_or1 (dt_lt (de_name 5) de_int))))
  (dss_cons (ds_if (dt_eq hr (de_len m_len (da_cons (de_call C_l_near hr (by omega) (da_cons (de_name 3) (da_cons de_str da_nil))) da_nil)) de_int)
  (dss_one (ds_ret (de_tup (da_cons de_str (da_cons (de_nameF 6) (da_cons (de_callT C_l_plain hr (by omega) (da_cons (de_name 0) (da_cons (de_name 1) (da_cons (de_name 8) (da_cons (de_add (de_name 3) (de_lst (da_cons (de_tup (da_cons (de_nameF 6) (da_cons de_str da_nil))) da_nil))) da_nil))))) da_nil))))))
  dss_nil)
  (dss_one (ds_ret (de_callT C_l_plain hr (by omega) (da_cons (de_name 0) (da_cons (de_name 1) (da_cons (de_name 8) (da_cons (de_name 3) da_nil))))))))
  dss_nil)
  (dss_cons (ds_if (dt_w (dw_or (dt_lt (de_name 5) de_int) (dw_or1 (dt_w (dw_and (dt_gt (de_len m_len (da_cons (de_name 3) da_nil)) de_int) (dw_and1 (dt_gt (de_name 5) de_int)))))))
  (dss_one (ds_ret (de_tup (da_cons de_str (da_cons (de_callT C_l_saying hr (by omega) (da_cons (de_name 0) (da_cons (de_name 1) (da_cons (de_name 2) (da_cons (de_name 3) (da_cons (de_sub (de_name 4) de_int) da_nil)))))) da_nil)))))
  dss_nil)
  (dss_cons (ds_if (dt_lt (de_name 5) de_int)
  (dss_cons (ds_set (i := 10) (de_callT C_l_saying hr (by omega) (da_cons (de_name 0) (da_cons (de_name 1) (da_cons (de_name 2) (da_cons (de_name 3) (da_cons (de_sub (de_name 4) de_int) da_nil)))))) sc_l_saying.nd)
  (dss_one (ds_ret (de_tup (da_cons (de_ix (de_lst (da_cons de_str (da_cons de_str da_nil))) (de_sub (de_name 5) de_int)) (da_cons (de_nameF 10) (da_cons (de_callT C_l_saying hr (by omega) (da_cons (de_name 0) (da_cons (de_name 1) (da_cons (de_name 2) (da_cons (de_name 3) (da_cons (de_sub (de_name 4) de_int) da_nil)))))) da_nil)))))))
  dss_nil)
  (dss_cons (ds_set (i := 7) (de_ix (de_lst (da_cons de_str (da_cons de_str (da_cons de_str (da_cons de_str da_nil))))) (de_sub (de_name 5) de_int)) sc_l_saying.nd)
  (dss_one (ds_ret (de_tup (da_cons (de_nameF 7) (da_cons (de_nameF 6) (da_cons (de_callT C_l_saying hr (by omega) (da_cons (de_name 0) (da_cons (de_name 1) (da_cons (de_name 2) (da_cons (de_add (de_name 3) (de_lst (da_cons (de_tup (da_cons (de_nameF 6) (da_cons (de_nameF 7) da_nil))) da_nil))) (da_cons (de_sub (de_name 4) de_int) da_nil)))))) da_nil)))))))))))))) ?_
  rintro ds es Q ⟨d, ns, n, lt, a, b, c, e, hdk, rfl, rfl, hn, hl, hl1, hl4, he, hQ⟩
  have hp2 := Nat.two_pow_pos d
  have hz : ∀ n : Nat, n ≤ 1000 → n ≤ sizeLine := fun n h => by rw [sizeLine_eq]; omega
  refine ⟨_, [.val (scD ns) .o, .mp 0 (tp n), .val (woD lt a b c) .o, .val (.lst (scL e)) .o, .val (.int d) .o, .no, .no, .no, .val (.str lt) .o, .val (.lst [.str a, .str b, .str c]) .o, .no], rfl, rfl, ?_⟩
  refine ⟨rfl, ns, n, 10, rfl, rfl, by omega, by omega, hl, fun wy hwy => ⟨by simp, ?_⟩⟩
  refine ⟨rfl, ns, n + 1, 3, rfl, rfl, by omega, by omega, hl, fun j hj => ?_⟩
  obtain ⟨nm, enm⟩ : ∃ nm : Str, atI [D.str a, .str b, .str c] (j : Int) = some (.str nm) := by
    match j, hj with
    | 0, _ => exact ⟨a, rfl⟩
    | 1, _ => exact ⟨b, rfl⟩
    | 2, _ => exact ⟨c, rfl⟩
  refine ⟨_, j, .str nm, rfl, rfl, enm, by simp, ?_⟩
  show dSeq _ _ _ [.val (scD ns) .o, .mp 0 (tp (n + 2)), .val (woD lt a b c) .o, .val (.lst (scL e)) .o, .val (.int d) .o, .val (.int wy) .n, .val (.str nm) .o, .no, .val (.str lt) .o, .val (.lst [.str a, .str b, .str c]) .o, .no]
  refine ⟨rfl, _, rfl, fun z => ⟨fun _ => ?_, fun h => Bool.noConfusion h⟩, fun zd => ⟨True.intro, _, rfl, fun z => ?_, fun zw => ?_⟩⟩
  iterate 2
    focus
      refine ⟨e, true, rfl, by omega, fun pls hp => ⟨_, rfl, rfl, _, rfl, fun z => ?_, fun z => ?_⟩⟩
      · refine ⟨by rw [scL_len]; exact hz _ (show e.length + 1 ≤ 1000 by omega), rfl, ns, n + 2, lt, (nm, true) :: e, ?_, rfl, by omega, hl, hl1, hl4, by rw [List.length_cons]; omega, ⟨nm, if_pos rfl⟩, fun s n' h0 hw h1 h2 => ?_⟩
        · rw [← scL_cons]; rfl
        · exact ⟨_, rfl, by simp [frOk, DL.nol, nols, toD_nol], _, rfl, hQ (.place nm s) n' (by show depth s + 1 ≤ _; omega) hw (by omega) (by omega)⟩
      · change (false ^^ eqD (.int ((pls.map D.str).length : Nat)) (.int 0)) = false at z
        rw [Bool.false_xor, eqD_int, List.length_map] at z
        have z := of_decide_eq_false z
        have hpos : 0 < pls.length := by omega
        refine ⟨rfl, ns, n + 2, lt, e, rfl, rfl, by omega, hl, hl1, hl4, by omega, ⟨pls[0], (hp _).mp (List.getElem_mem _)⟩, fun s n' h0 hw h1 h2 => ?_⟩
        exact ⟨_, rfl, rfl, _, rfl, hQ s n' (by omega) hw (by omega) (by omega)⟩
  change (false ^^ eqD (.int (d : Nat)) (.int 0)) = false at zd
  rw [Bool.false_xor, eqD_int] at zd
  have zd := of_decide_eq_false zd
  obtain ⟨d', rfl⟩ : ∃ d', d = d' + 1 := ⟨d - 1, by omega⟩
  have hp2' := Nat.two_pow_pos d'
  have ep : 2 ^ (d' + 1) = 2 * 2 ^ d' := by rw [Nat.pow_succ, Nat.mul_comm]
  rw [ep] at hn hQ hp2
  have ed : ((d' + 1 : Nat) : Int) - 1 = (d' : Int) := by omega
  refine ⟨True.intro, _, rfl, fun z => ⟨fun _ => ?_, fun h => Bool.noConfusion h⟩, fun z4 => ⟨_, rfl, True.intro, _, rfl, fun z => ⟨True.intro, _, rfl, fun z => ?_, fun z => ?_⟩, fun z => ⟨fun h => Bool.noConfusion h, fun _ => ?_⟩⟩⟩
  iterate 2
    focus
      refine ⟨True.intro, rfl, d', ns, n + 2, lt, a, b, c, e, by omega, ?_, rfl, by omega, hl, hl1, hl4, by omega, fun s n' h0 hw h1 h2 => ?_⟩
      · show [scD ns, woD lt a b c, .lst (scL e), .int (((d' + 1 : Nat) : Int) - 1)] = _
        rw [ed]
      · exact ⟨_, rfl, by simp [frOk, DL.nol, nols, toD_nol], _, rfl, hQ (.not s) n' (by show depth s + 1 ≤ _; omega) hw (by omega) (by omega)⟩
  all_goals
    have w4 : 4 ≤ wy := by have := of_decide_eq_false z4; omega
    refine ⟨True.intro, _, rfl, fun z6 => ?_, fun z6 => ?_⟩
    · have w6 : wy < 6 := by have := of_decide_eq_true z6; omega
      refine ⟨True.intro, rfl, d', ns, n + 2, lt, a, b, c, e, by omega, ?_, rfl, by omega, hl, hl1, hl4, by omega, fun s n' h0 hw h1 h2 => ⟨by simp, ?_⟩⟩
      · show [scD ns, woD lt a b c, .lst (scL e), .int (((d' + 1 : Nat) : Int) - 1)] = _
        rw [ed]
      · have hcs : wy = 4 ∨ wy = 5 := by omega
        rcases hcs with rfl | rfl
        · refine ⟨True.intro, _, _, .str "and", rfl, rfl, rfl, True.intro, rfl, d', ns, n', lt, a, b, c, e, by omega, ?_, rfl, by omega, hl, hl1, hl4, by omega, fun s2 n2 h3 hw2 h4 h5 => ?_⟩
          · show [scD ns, woD lt a b c, .lst (scL e), .int (((d' + 1 : Nat) : Int) - 1)] = _
            rw [ed]
          · exact ⟨_, rfl, by simp [frOk, DL.nol, nols, toD_nol], _, rfl, hQ (.and s s2) n2 (by show max (depth s) (depth s2) + 1 ≤ _; omega) ⟨hw, hw2⟩ (by omega) (by omega)⟩
        · refine ⟨True.intro, _, _, .str "or", rfl, rfl, rfl, True.intro, rfl, d', ns, n', lt, a, b, c, e, by omega, ?_, rfl, by omega, hl, hl1, hl4, by omega, fun s2 n2 h3 hw2 h4 h5 => ?_⟩
          · show [scD ns, woD lt a b c, .lst (scL e), .int (((d' + 1 : Nat) : Int) - 1)] = _
            rw [ed]
          · exact ⟨_, rfl, by simp [frOk, DL.nol, nols, toD_nol], _, rfl, hQ (.or s s2) n2 (by show max (depth s) (depth s2) + 1 ≤ _; omega) ⟨hw, hw2⟩ (by omega) (by omega)⟩
    · have w6 : 6 ≤ wy := by have := of_decide_eq_false z6; omega
      obtain ⟨kb, ekb⟩ : ∃ kb : Bool, atI [D.str "place", .str "place", .str "place", .str "set"] ((wy : Int) - 6) = some (.str (kdS kb)) := by
        have hcs : wy = 6 ∨ wy = 7 ∨ wy = 8 ∨ wy = 9 := by omega
        rcases hcs with rfl | rfl | rfl | rfl
        · exact ⟨true, rfl⟩
        · exact ⟨true, rfl⟩
        · exact ⟨true, rfl⟩
        · exact ⟨false, rfl⟩
      refine ⟨True.intro, _, _, .str (kdS kb), rfl, rfl, ekb, by simp, ?_⟩
      dsimp only
      show dRet _ _ [.val (scD ns) .o, .mp 0 (tp (n + 2)), .val (woD lt a b c) .o, .val (.lst (scL e)) .o, .val (.int (d' + 1 : Nat)) .o, .val (.int wy) .n, .val (.str nm) .o, .val (.str (kdS kb)) .n, .val (.str lt) .o, .val (.lst [.str a, .str b, .str c]) .o, .no]
      refine ⟨by rw [scL_len]; exact hz _ (show e.length + 1 ≤ 1000 by omega), True.intro, rfl, d', ns, n + 2, lt, a, b, c, (nm, kb) :: e, by omega, ?_, rfl, by omega, hl, hl1, hl4, by rw [List.length_cons]; omega, fun s n' h0 hw h1 h2 => ?_⟩
      · show [scD ns, woD lt a b c, .lst (scL e ++ [encS (nm, kb)]), .int (((d' + 1 : Nat) : Int) - 1)] = _
        rw [ed, scL_cons]
      · cases kb with
        | true => exact ⟨_, rfl, by simp [frOk, DL.nol, nols, toD_nol], _, rfl, hQ (.place nm s) n' (by show depth s + 1 ≤ _; omega) hw (by omega) (by omega)⟩
        | false => exact ⟨_, rfl, by simp [frOk, DL.nol, nols, toD_nol], _, rfl, hQ (.set nm s) n' (by show depth s + 1 ≤ _; omega) hw (by omega) (by omega)⟩
end
end K9

namespace K9
open PySem L2 DL
section
variable {P : Program} {w : World} {K : PySem.W.Frag} {mg : Str → Option Value} {base : Heap} {f : Addr} {fd : FuncData}
/-! ### the law's sets -/
def sub (n A : Nat) : List Nat := (List.range n).filter fun p => A.testBit p
def subs (n : Nat) : List (List Nat) := (List.range (2 ^ n)).map (sub n)
theorem sub_low {n A : Nat} (h : A < 2 ^ n) : sub (n + 1) A = sub n A := by
  unfold sub
  rw [List.range_succ, List.filter_append]
  have : A.testBit n = false := Nat.testBit_lt_two_pow h
  simp [this]
theorem sub_high {n A : Nat} (h : A < 2 ^ n) : sub (n + 1) (2 ^ n + A) = sub n A ++ [n] := by
  unfold sub
  rw [List.range_succ, List.filter_append]
  have h1 : (2 ^ n + A).testBit n = true := by
    rw [Nat.testBit_two_pow_add_eq, Nat.testBit_lt_two_pow h]; rfl
  have h2 : (List.range n).filter (fun p => (2 ^ n + A).testBit p) = (List.range n).filter fun p => A.testBit p := by
    refine List.filter_congr fun p hp => ?_
    rw [Nat.testBit_two_pow_add_gt (List.mem_range.mp hp)]
  rw [h2]
  simp [h1]
theorem subs_succ (n : Nat) : subs (n + 1) = subs n ++ (subs n).map (· ++ [n]) := by
  unfold subs
  have e2 : 2 ^ (n + 1) = 2 ^ n + 2 ^ n := by rw [Nat.pow_succ]; omega
  rw [e2, List.range_add, List.map_append, List.map_map, List.map_map]
  congr 1
  · exact List.map_congr_left fun A hA => sub_low (List.mem_range.mp hA)
  · exact List.map_congr_left fun A hA => sub_high (List.mem_range.mp hA)
theorem subs_len (n : Nat) : (subs n).length = 2 ^ n := by unfold subs; rw [List.length_map, List.length_range]
abbrev iL (l : List Nat) : D := .lst (l.map fun k : Nat => .int (k : Nat))
/- _law_sets: 0 _law_size, 1 _law_found, 2 _law_place, 3 _law_chosen -/
abbrev s_l_sets : Stmt := top 19
abbrev N_l_sets : List Str := ["_law_size", "_law_found", "_law_place", "_law_chosen"]
theorem sc_l_sets : FnScope N_l_sets ["_law_size"] (defScope s_l_sets) := ⟨rfl, rfl, rfl, by decide +kernel, rfl, by decide +kernel, by decide +kernel⟩
def spSets : SpD := fun ds P => ∃ n : Nat, ds = [.int (n : Nat)] ∧ n ≤ 16 ∧ P (.lst ((subs n).map iL))
theorem ok_sets (F : Fun K "_law_sets" "_law_sets" s_l_sets f fd) (m_range : mg "range" = none) : FnOk P w K mg base CX0 1 f fd ["_law_size"] (spP K spSets) := by
  refine dfn (N := N_l_sets) F sc_l_sets (by decide) (fun ds Q ⟨_, e, _⟩ => by rw [e]; rfl) (fun cdv A outer s H E hr => (dss_cons (ds_set (i := 1) (de_lst (da_cons (de_lst da_nil) da_nil)) sc_l_sets.nd)
  (dss_cons (ds_for (di_range1 m_range (da_cons (de_name 0) da_nil)) (dg_name (i := 2) sc_l_sets.nd)
  (dss_one (ds_set (i := 1) (de_add (de_name 1) (de_lc rfl sc_l_sets.nd (di_list (de_nameF 1)) (blkOk_by (own := [("_law_chosen", 3)]) (N := N_l_sets) (sc := defScope s_l_sets) (by decide +kernel)) (g := (.one 3)) (by decide) (fun _ => (dg_name (i := 3) sc_l_sets.nd)) (fun _ => dts_nil) (fun _ => (de_add (de_name 3) (de_lst (da_cons (de_nameF 2) da_nil)))))) sc_l_sets.nd)) (fun hg hi hb => ps_for PassesOwn.never rfl hi hg hb))
  (dss_one (ds_ret (de_nameF 1)))))) ?_
  rintro ds Q ⟨n, rfl, hn, hQ⟩
  refine ⟨by simp [ini], ?_⟩
  refine ⟨n, rfl, ⟨by omega, by omega⟩, ?_⟩
  rw [Int.toNat_natCast]
  refine ⟨fun i ρ => ∃ (fr : Fr) (b : Sl), (fr = .n ∨ fr = .h) ∧ ρ = [.val (.int n) .o, .ml ((subs i).map iL) fr, b, .no], ⟨.n, .no, .inl rfl, rfl⟩, ?_, ?_⟩
  · rintro i d ρ hd ⟨fr, b, hfr, rfl⟩
    obtain ⟨hi, rfl⟩ := upto_at hd
    have h2 := p16 (show i ≤ 16 by omega)
    have hsz : (2 : Nat) ^ i + 2 ^ i ≤ sizeLine := by rw [sizeLine_eq]; omega
    refine ⟨_, rfl, ?_⟩
    rcases hfr with rfl | rfl
    all_goals
      refine ⟨rfl, .h, fun j acc ρ => acc = (((subs i).take j).map (· ++ [i])).map iL ∧ ρ = [.val (.int n) .o, .val (.lst ((subs i).map iL)) _, .val (.int i) .h, .no], ⟨rfl, rfl⟩, ?_, ?_⟩
      · rintro j d acc ρ hd ⟨rfl, rfl⟩
        rw [List.getElem?_map] at hd
        cases ej : (subs i)[j]? with
        | none => rw [ej] at hd; cases hd
        | some l =>
          rw [ej] at hd
          cases hd
          have hj := (List.getElem?_eq_some_iff.mp ej).1
          rw [subs_len] at hj
          refine ⟨_, rfl, fun _ => ?_, fun h => Bool.noConfusion h⟩
          have hm : l ∈ subs i := List.mem_of_getElem? ej
          have hll : l.length ≤ i := by
            unfold subs at hm
            obtain ⟨A, _, rfl⟩ := List.mem_map.mp hm
            have := List.length_filter_le (fun p => A.testBit p) (List.range i)
            rw [List.length_range] at this
            exact this
          refine ⟨by rw [List.length_map, sizeLine_eq]; show l.length + 1 ≤ _; omega, _, rfl, rfl, ?_, ?_, rfl⟩
          · rw [List.length_map, List.length_map, List.length_take, subs_len, sizeLine_eq]; omega
          · have et : (subs i).take (j + 1) = (subs i).take j ++ [l] := by rw [List.take_succ, ej]; rfl
            rw [et, List.map_append, List.map_append]
            show _ = _ ++ [iL (l ++ [i])]
            congr 2
            show D.lst (_ ++ [D.int (i : Nat)]) = _
            unfold iL
            rw [List.map_append]; rfl
      · rintro acc ρ ⟨rfl, rfl⟩
        rw [List.length_map, List.take_length]
        refine ⟨by rw [List.length_map, List.length_map, List.length_map, subs_len]; exact hsz, by simp [mergeE], .h, .val (.int (i : Nat)) .h, .inr rfl, ?_⟩
        rw [subs_succ, List.map_append]
        rfl
  · rintro ρ ⟨fr, b, hfr, rfl⟩
    rw [upto_len]
    refine ⟨_, rfl, ?_, hQ⟩
    rcases hfr with rfl | rfl <;> rfl
end
end K9

namespace K9
open PySem L2 DL
section
variable {P : Program} {w : World} {K : PySem.W.Frag} {mg : Str → Option Value} {base : Heap} {f : Addr} {fd : FuncData}
/-! ### what the law finds by trying -/
inductive GTh where
  | pl (k : Nat) | st (l : List Nat)
abbrev GE := List (Str × GTh)
def gD : GTh → D
  | .pl k => .int (k : Nat)
  | .st l => iL l
def gT : GTh → Th
  | .pl k => .pl k
  | .st l => .st fun p => decide (p ∈ l)
def gS : GTh → Bool
  | .pl _ => true
  | .st _ => false
def GOk (n : Nat) : GTh → Prop
  | .pl k => k < n
  | .st _ => True
def envG (e : GE) : List (Str × Th) := e.map fun p => (p.1, gT p.2)
def srtG (e : GE) : Sk := e.map fun p => (p.1, gS p.2)
def encG (p : Str × GTh) : D := .tup [.str p.1, gD p.2]
def gvL (e : GE) : List D := (e.map encG).reverse
theorem gvL_cons (p : Str × GTh) (e : GE) : gvL e ++ [encG p] = gvL (p :: e) := by unfold gvL; rw [List.map_cons, List.reverse_cons]
theorem gvL_len (e : GE) : (gvL e).length = e.length := by unfold gvL; rw [List.length_reverse, List.length_map]
theorem gvL_at {e : GE} {i : Nat} {d : D} (h : (gvL e)[i]? = some d) : ∃ p, e.reverse[i]? = some p ∧ d = encG p := by
  unfold gvL at h
  rw [← List.map_reverse, List.getElem?_map] at h
  cases q : e.reverse[i]? with
  | none => rw [q] at h; cases h
  | some p => rw [q] at h; cases h; exact ⟨p, rfl, rfl⟩
theorem look_filter {n : Str} {t : GTh} : ∀ {e : GE}, look n e = some t → ∃ r, e.filter (fun p => decide (p.1 = n)) = (n, t) :: r
  | (m, b) :: r, h => by
    unfold look at h
    by_cases hm : m = n
    · rw [if_pos hm] at h
      cases h
      subst hm
      exact ⟨_, by rw [List.filter_cons_of_pos (by simp)]⟩
    · rw [if_neg hm] at h
      obtain ⟨r', e⟩ := look_filter h
      exact ⟨r', by rw [List.filter_cons_of_neg (by simp [hm])]; exact e⟩
/-- the things of that name, the innermost last -/
def ths (n : Str) (l : GE) : List D := (l.filter fun p => decide (p.1 = n)).map fun p => gD p.2
theorem atI_last {α : Type} {l : List α} {x : α} : atI (l ++ [x]) (-1) = some x := by
  unfold atI ixN
  rw [if_neg (by decide), if_pos (by rw [List.length_append]; show -((l.length + 1 : Nat) : Int) ≤ -1; omega)]
  show (l ++ [x])[((-1 : Int) + ((l ++ [x]).length : Nat)).toNat]? = _
  rw [List.length_append, show ((-1 : Int) + ((l.length + [x].length : Nat) : Int)).toNat = l.length by show ((-1 : Int) + ((l.length + 1 : Nat) : Int)).toNat = _; omega, List.getElem?_append_right (Nat.le_refl _), Nat.sub_self]
  rfl
theorem ths_last {n : Str} {t : GTh} {e : GE} (h : look n e = some t) : atI (ths n e.reverse) (-1) = some (gD t) := by
  obtain ⟨r, er⟩ := look_filter h
  unfold ths
  rw [List.filter_reverse, er, List.reverse_cons, List.map_append]
  exact atI_last
theorem ths_step {n : Str} {l : GE} {i : Nat} {p : Str × GTh} (h : l[i]? = some p) : ths n (l.take (i + 1)) = if decide (p.1 = n) = true then ths n (l.take i) ++ [gD p.2] else ths n (l.take i) := by
  unfold ths
  rw [List.take_succ, h]
  show ((l.take i ++ [p]).filter _).map _ = _
  rw [List.filter_append, List.map_append]
  by_cases hp : decide (p.1 = n) = true
  · rw [if_pos hp]; simp [of_decide_eq_true hp]
  · have hp' : ¬ p.1 = n := fun z => hp (decide_eq_true z)
    rw [if_neg hp]; simp [hp']
theorem g_pl {m : Str} {e : GE} (h : look m (srtG e) = some true) : ∃ k, look m e = some (.pl k) := by
  unfold srtG at h
  rw [look_map] at h
  cases q : look m e with
  | none => rw [q] at h; cases h
  | some t =>
    cases t with
    | pl k => exact ⟨k, rfl⟩
    | st l => rw [q] at h; cases h
theorem g_st {m : Str} {e : GE} (h : look m (srtG e) = some false) : ∃ l, look m e = some (.st l) := by
  unfold srtG at h
  rw [look_map] at h
  cases q : look m e with
  | none => rw [q] at h; cases h
  | some t =>
    cases t with
    | pl k => rw [q] at h; cases h
    | st l => exact ⟨l, rfl⟩
theorem g_look {m : Str} {e : GE} {t : GTh} (h : look m e = some t) : look m (envG e) = some (gT t) := by
  unfold envG
  rw [look_map, h]; rfl
theorem g_ok {n : Nat} {m : Str} {t : GTh} : ∀ {e : GE}, (∀ p ∈ e, GOk n p.2) → look m e = some t → GOk n t
  | (x, b) :: r, h, q => by
    unfold look at q
    by_cases hm : x = m
    · rw [if_pos hm] at q; cases q; exact h _ List.mem_cons_self
    · rw [if_neg hm] at q; exact g_ok (fun p hp => h p (List.mem_cons_of_mem _ hp)) q
theorem g_refl {n : Nat} : ∀ {e : GE}, (∀ p ∈ e, GOk n p.2) → EnvEq n (envG e) (envG e) (srtG e)
  | [], _ => .nil
  | (m, t) :: e, h => by
    show EnvEq n ((m, gT t) :: envG e) ((m, gT t) :: envG e) ((m, gS t) :: srtG e)
    have hs : gS t = sortOf (gT t) := by cases t <;> rfl
    rw [hs]
    refine .cons ?_ (g_refl fun p hp => h p (List.mem_cons_of_mem _ hp))
    have h0 := h _ List.mem_cons_self
    cases t with
    | pl k => exact ⟨rfl, h0⟩
    | st l => exact fun p _ => rfl
theorem sub_sem {wd : Str} {x : Sy Str} {m : Str} {e : GE} {A : Nat} (hw : Wh x ((m, false) :: srtG e)) (he : ∀ p ∈ e, GOk wd.length p.2) : sem (wl wd) x (envG ((m, .st (sub wd.length A)) :: e)) = sem (wl wd) x ((m, .st fun p => A.testBit p) :: envG e) := by
  refine sem_eq hw ?_
  rw [wl_len]
  show EnvEq _ ((m, gT (.st (sub wd.length A))) :: envG e) _ ((m, sortOf (gT (.st (sub wd.length A)))) :: srtG e)
  refine .cons (fun p hp => ?_) (g_refl he)
  show decide (p ∈ (List.range wd.length).filter fun p => A.testBit p) = A.testBit p
  rw [Bool.eq_iff_iff, decide_eq_true_eq, List.mem_filter, List.mem_range]
  exact ⟨fun z => z.2, fun z => ⟨hp, z⟩⟩
theorem ix_at {i : Nat} {rest : List D} {kd : Str} {f : Fr} {ρ : En} {Q : Rv → En → Prop} (h : ρ.getD i .no = .val (.tup (.str kd :: rest)) f) (q : ∀ g, Q (.v (.str kd) g) ρ) : dOp pIx (dVar i) (dC (.int 0)) ρ Q := by
  unfold dOp
  refine var_at h ?_
  exact ⟨_, 0, .str kd, rfl, rfl, atI_nat (k := 0) rfl, q _⟩
theorem jF {i : Nat} {lit kd : Str} {rest : List D} {f : Fr} {ρ : En} {E : ED} {A U : TSD} (h : ρ.getD i .no = .val (.tup (.str kd :: rest)) f) (n : kd ≠ lit) (u : U E ρ) : dSeq (dIf (dTest (dOp (pEq false) (dOp pIx (dVar i) (dC (.int 0))) (dC (.str lit)))) A dNext) U E ρ := by
  show dOp (pEq false) (dOp pIx (dVar i) (dC (.int 0))) (dC (.str lit)) ρ _
  unfold dOp
  refine ix_at h fun g => ?_
  refine ⟨rfl, _, rfl, fun z => ?_, fun _ => u⟩
  change (false ^^ eqD (.str kd) (.str lit)) = true at z
  rw [Bool.false_xor, eqD_str] at z
  exact absurd (of_decide_eq_true z) n
theorem jT {i : Nat} {lit : Str} {rest : List D} {f : Fr} {ρ : En} {E : ED} {A U : TSD} (h : ρ.getD i .no = .val (.tup (.str lit :: rest)) f) (u : A { E with nx := U E } ρ) : dSeq (dIf (dTest (dOp (pEq false) (dOp pIx (dVar i) (dC (.int 0))) (dC (.str lit)))) A dNext) U E ρ := by
  show dOp (pEq false) (dOp pIx (dVar i) (dC (.int 0))) (dC (.str lit)) ρ _
  unfold dOp
  refine ix_at h fun g => ?_
  refine ⟨rfl, _, rfl, fun _ => u, fun z => ?_⟩
  change (false ^^ eqD (.str lit) (.str lit)) = false at z
  rw [Bool.false_xor, eqD_str, decide_eq_true rfl] at z
  cases z
theorem look_lc {kd a b nm wd : Str} {j : Int} {e : GE} {t : GTh} {s3 : Sl} {Q : Rv → En → Prop} (hj : atI [D.str kd, .str a, .str b] j = some (.str nm)) (hl : e.length ≤ 500) (h : look nm e = some t)
    (q : ∀ g, Q (.v (gD t) g) [.val (.tup [.str kd, .str a, .str b]) .o, .val (.str wd) .o, .val (.lst (gvL e)) .o, s3, .no, .no, .no, .no, .no]) :
    dOp pIx (dLc (dItL (dVarF 2)) (.tup [7, 8]) (dTest (dOp (pEq false) (dVar 7) (dOp pIx (dVar 0) (dC (.int j))))) (dVarF 8) [7, 8]) (dNeg (dC (.int 1))) [.val (.tup [.str kd, .str a, .str b]) .o, .val (.str wd) .o, .val (.lst (gvL e)) .o, s3, .no, .no, .no, .no, .no] Q := by
  refine ⟨rfl, .o, fun i acc ρ => acc = ths nm (e.reverse.take i) ∧ ρ = [.val (.tup [.str kd, .str a, .str b]) .o, .val (.str wd) .o, .val (.lst (gvL e)) .o, s3, .no, .no, .no, .no, .no], ⟨rfl, rfl⟩, ?_, ?_⟩
  · rintro i d acc ρ hd ⟨rfl, rfl⟩
    obtain ⟨p, ep, rfl⟩ := gvL_at hd
    have hi := (List.getElem?_eq_some_iff.mp ep).1
    rw [List.length_reverse] at hi
    refine ⟨_, rfl, ?_⟩
    refine ⟨_, j, .str nm, rfl, rfl, hj, rfl, _, rfl, fun z => ?_, fun z => ?_⟩
    · change (false ^^ eqD (.str p.1) (.str nm)) = true at z
      rw [Bool.false_xor, eqD_str] at z
      refine ⟨_, rfl, rfl, ?_, ?_, rfl⟩
      · have h1 : (ths nm (e.reverse.take i)).length ≤ i := by
          unfold ths
          rw [List.length_map]
          refine Nat.le_trans (List.length_filter_le _ _) ?_
          rw [List.length_take]; omega
        rw [sizeLine_eq]; omega
      · rw [ths_step ep, if_pos z]
    · change (false ^^ eqD (.str p.1) (.str nm)) = false at z
      rw [Bool.false_xor, eqD_str] at z
      refine ⟨?_, rfl⟩
      rw [ths_step ep, if_neg (by rw [z]; exact Bool.false_ne_true)]
  · rintro acc ρ ⟨rfl, rfl⟩
    have e1 : e.reverse.take (gvL e).length = e.reverse := by rw [gvL_len]; exact List.take_of_length_le (by rw [List.length_reverse]; exact Nat.le_refl _)
    refine ⟨1, rfl, _, -1, gD t, rfl, rfl, ?_, q _⟩
    show atI (ths nm (e.reverse.take (gvL e).length)) (-1) = _
    rw [e1]
    exact ths_last h
/- _law_true: 0 _law_saying_here, 1 _law_word, 2 _law_given, 3 _law_one, 4 _law_other, 5 _law_k, 6 _law_some, 7 _law_name, 8 _law_thing -/
abbrev s_l_true : Stmt := top 20
abbrev N_l_true : List Str := ["_law_saying_here", "_law_word", "_law_given", "_law_one", "_law_other", "_law_k", "_law_some", "_law_name", "_law_thing"]
theorem sc_l_true : FnScope N_l_true ["_law_saying_here", "_law_word", "_law_given"] (defScope s_l_true) := ⟨rfl, rfl, rfl, by decide +kernel, rfl, by decide +kernel, by decide +kernel⟩
def spLT (n : Nat) : SpD := fun ds P => ∃ s wd e, ds = [toD s, .str wd, .lst (gvL e)] ∧ depth s < n ∧ Wh s (srtG e) ∧ wd.length ≤ 16 ∧ e.length + n ≤ 500 ∧ (∀ p ∈ e, GOk wd.length p.2) ∧ P (.bl (sem (wl wd) s (envG e)))
theorem ok_ltrue {n : Nat} (F : Fun K "_law_true" "_law_true" s_l_true f fd) (m_range : mg "range" = none) (m_len : mg "len" = none) (m_any : mg "any" = none) (C_l_sets : Cal P w K mg base "_law_sets" 1 (spP K spSets))
    (C_l_true : Cal P w K mg base "_law_true" (n + 1) (spP K (spLT n))) : FnOk P w K mg base CX0 (n + 2) f fd ["_law_saying_here", "_law_word", "_law_given"] (spP K (spLT (n + 1))) := by
  refine dfn (N := N_l_true) F sc_l_true (by decide) (fun ds Q ⟨_, _, _, e, _⟩ => by rw [e]; rfl) (fun cdv A outer s H E hr => (dss_cons (ds_if (dt_eq hr (de_ix (de_name 0) de_int) de_str)
  (dss_one (ds_ret (de_not (de_call C_l_true hr (by omega) (da_cons (de_ix (de_name 0) de_int) (da_cons (de_name 1) (da_cons (de_name 2) da_nil)))))))
  dss_nil)
  (dss_cons (ds_if (dt_eq hr (de_ix (de_name 0) de_int) de_str)
  (dss_one (ds_ret (de_andV (de_call C_l_true hr (by omega) (da_cons (de_ix (de_name 0) de_int) (da_cons (de_name 1) (da_cons (de_name 2) da_nil)))) (de_one (de_call C_l_true hr (by omega) (da_cons (de_ix (de_name 0) de_int) (da_cons (de_name 1) (da_cons (de_name 2) da_nil))))))))
  dss_nil)
  (dss_cons (ds_if (dt_eq hr (de_ix (de_name 0) de_int) de_str)
  (dss_one (ds_ret (de_orV (de_call C_l_true hr (by omega) (da_cons (de_ix (de_name 0) de_int) (da_cons (de_name 1) (da_cons (de_name 2) da_nil)))) (de_one (de_call C_l_true hr (by omega) (da_cons (de_ix (de_name 0) de_int) (da_cons (de_name 1) (da_cons (de_name 2) da_nil))))))))
  dss_nil)
  (dss_cons (ds_if (dt_eq hr (de_ix (de_name 0) de_int) de_str)
  (dss_one (ds_ret (de_any rfl m_any (da_cons (de_lc rfl sc_l_true.nd (di_range1 m_range (da_cons (de_len m_len (da_cons (de_name 1) da_nil)) da_nil)) (blkOk_by (own := [("_law_k", 5)]) (N := N_l_true) (sc := defScope s_l_true) (by decide +kernel)) (g := (.one 5)) (by decide) (fun _ => (dg_name (i := 5) sc_l_true.nd)) (fun _ => dts_nil) (fun _ => (de_call C_l_true hr (by omega) (da_cons (de_ix (de_name 0) de_int) (da_cons (de_name 1) (da_cons (de_add (de_name 2) (de_lst (da_cons (de_tup (da_cons (de_ix (de_name 0) de_int) (da_cons (de_nameF 5) da_nil))) da_nil))) da_nil)))))) da_nil))))
  dss_nil)
  (dss_cons (ds_if (dt_eq hr (de_ix (de_name 0) de_int) de_str)
  (dss_one (ds_ret (de_any rfl m_any (da_cons (de_lc rfl sc_l_true.nd (di_list (de_call C_l_sets hr (by omega) (da_cons (de_len m_len (da_cons (de_name 1) da_nil)) da_nil))) (blkOk_by (own := [("_law_some", 6)]) (N := N_l_true) (sc := defScope s_l_true) (by decide +kernel)) (g := (.one 6)) (by decide) (fun _ => (dg_name (i := 6) sc_l_true.nd)) (fun _ => dts_nil) (fun _ => (de_call C_l_true hr (by omega) (da_cons (de_ix (de_name 0) de_int) (da_cons (de_name 1) (da_cons (de_add (de_name 2) (de_lst (da_cons (de_tup (da_cons (de_ix (de_name 0) de_int) (da_cons (de_nameF 6) da_nil))) da_nil))) da_nil)))))) da_nil))))
  dss_nil)
  (dss_cons (ds_set (i := 3) (de_ix (de_lc rfl sc_l_true.nd (di_list (de_nameF 2)) (blkOk_by (own := [("_law_name", 7), ("_law_thing", 8)]) (N := N_l_true) (sc := defScope s_l_true) (by decide +kernel)) (g := (.tup [7, 8])) (by decide) (fun _ => (dg_tup rfl (dgs_cons (i := 7) sc_l_true.nd (dgs_cons (i := 8) sc_l_true.nd dgs_nil)) (fun h => pg_tup rfl h))) (fun _ => (dts_one (dt_eq hr (de_name 7) (de_ix (de_name 0) de_int)))) (fun _ => (de_nameF 8))) (de_neg de_int)) sc_l_true.nd)
  (dss_cons (ds_if (dt_eq hr (de_ix (de_name 0) de_int) de_str)
  (dss_one (ds_ret (de_eq hr (de_ix (de_name 1) (de_name 3)) (de_ix (de_name 0) de_int))))
  dss_nil)
  (dss_cons (ds_set (i := 4) (de_ix (de_lc rfl sc_l_true.nd (di_list (de_nameF 2)) (blkOk_by (own := [("_law_name", 7), ("_law_thing", 8)]) (N := N_l_true) (sc := defScope s_l_true) (by decide +kernel)) (g := (.tup [7, 8])) (by decide) (fun _ => (dg_tup rfl (dgs_cons (i := 7) sc_l_true.nd (dgs_cons (i := 8) sc_l_true.nd dgs_nil)) (fun h => pg_tup rfl h))) (fun _ => (dts_one (dt_eq hr (de_name 7) (de_ix (de_name 0) de_int)))) (fun _ => (de_nameF 8))) (de_neg de_int)) sc_l_true.nd)
  (dss_cons (ds_if (dt_eq hr (de_ix (de_name 0) de_int) de_str)
  (dss_one (ds_ret (de_in (de_name 3) (de_name 4))))
  dss_nil)
  (dss_one (ds_ret (de_orV (de_andV (de_lt (de_name 3) (de_name 4)) (de_one (de_eq hr (de_ix (de_name 0) de_int) de_str))) (de_one (de_andV (de_eq hr (de_name 3) (de_name 4)) (de_one (de_eq hr (de_ix (de_name 0) de_int) de_str))))))))))))))))) ?_
  rintro ds Q ⟨s, wd, e, rfl, hd, hw, hwd, hel, he, hQ⟩
  have hlen : wd.length ≤ sizeLine := by rw [sizeLine_eq]; omega
  have h3 := p16 hwd
  cases s with
  | not x =>
    have hd : depth x + 1 < n + 1 := hd
    refine jT (f := .o) rfl ?_
    exact ⟨_, 1, toD x, rfl, rfl, rfl, x, wd, e, rfl, by omega, hw, hwd, by omega, he, _, rfl, _, rfl, rfl, hQ⟩
  | and x y =>
    have hd : max (depth x) (depth y) + 1 < n + 1 := hd
    refine jF (kd := "and") (f := .o) rfl (by decide) (jT (f := .o) rfl ?_)
    refine ⟨_, 1, toD x, rfl, rfl, rfl, x, wd, e, rfl, by omega, hw.1, hwd, by omega, he, _, rfl, fun z => ?_, fun z => ?_⟩
    · refine ⟨_, 2, toD y, rfl, rfl, rfl, y, wd, e, rfl, by omega, hw.2, hwd, by omega, he, _, rfl, rfl, ?_⟩
      have : sem (wl wd) (.and x y) (envG e) = sem (wl wd) y (envG e) := by show (_ && _) = _; rw [z, Bool.true_and]
      rw [this] at hQ
      exact hQ
    · have : sem (wl wd) (.and x y) (envG e) = false := by show (_ && _) = _; rw [z, Bool.false_and]
      rw [this] at hQ
      exact ⟨_, rfl, rfl, hQ⟩
  | or x y =>
    have hd : max (depth x) (depth y) + 1 < n + 1 := hd
    refine jF (kd := "or") (f := .o) rfl (by decide) (jF (kd := "or") (f := .o) rfl (by decide) (jT (f := .o) rfl ?_))
    refine ⟨_, 1, toD x, rfl, rfl, rfl, x, wd, e, rfl, by omega, hw.1, hwd, by omega, he, _, rfl, fun z => ?_, fun z => ?_⟩
    · have : sem (wl wd) (.or x y) (envG e) = true := by show (_ || _) = _; rw [z, Bool.true_or]
      rw [this] at hQ
      exact ⟨_, rfl, rfl, hQ⟩
    · refine ⟨_, 2, toD y, rfl, rfl, rfl, y, wd, e, rfl, by omega, hw.2, hwd, by omega, he, _, rfl, rfl, ?_⟩
      have : sem (wl wd) (.or x y) (envG e) = sem (wl wd) y (envG e) := by show (_ || _) = _; rw [z, Bool.false_or]
      rw [this] at hQ
      exact hQ
  | place m x =>
    have hd : depth x + 1 < n + 1 := hd
    refine jF (kd := "place") (f := .o) rfl (by decide) (jF (kd := "place") (f := .o) rfl (by decide) (jF (kd := "place") (f := .o) rfl (by decide) (jT (f := .o) rfl ?_)))
    refine ⟨hlen, wd.length, rfl, ⟨by omega, by omega⟩, ?_⟩
    rw [Int.toNat_natCast]
    refine ⟨rfl, .n, fun i acc ρ => acc = ((List.range i).map fun k => sem (wl wd) x ((m, .pl k) :: envG e)).map D.bl ∧ ρ = [.val (toD (.place m x)) .o, .val (.str wd) .o, .val (.lst (gvL e)) .o, .no, .no, .no, .no, .no, .no], ⟨rfl, rfl⟩, ?_, ?_⟩
    · rintro i d acc ρ hdi ⟨rfl, rfl⟩
      obtain ⟨hi, rfl⟩ := upto_at hdi
      refine ⟨_, rfl, fun _ => ?_, fun h => Bool.noConfusion h⟩
      refine ⟨_, 2, toD x, rfl, rfl, rfl, _, 1, .str m, rfl, rfl, rfl, ?_, x, wd, (m, .pl i) :: e, ?_, by omega, hw, hwd, by rw [List.length_cons]; omega, ?_, _, rfl, rfl, ?_, ?_, rfl⟩
      · rw [gvL_len, sizeLine_eq]; show e.length + 1 ≤ _; omega
      · rw [← gvL_cons]; rfl
      · exact fun p hp => (List.mem_cons.mp hp).elim (fun z => by rw [z]; exact hi) (he p)
      · rw [List.length_map, List.length_map, List.length_range, sizeLine_eq]; omega
      · rw [List.range_succ, List.map_append, List.map_append]; rfl
    · rintro acc ρ ⟨rfl, rfl⟩
      rw [upto_len]
      refine ⟨_, rfl, _, rfl, rfl, ?_⟩
      have : sem (wl wd) (.place m x) (envG e) = ((List.range wd.length).map fun k => sem (wl wd) x ((m, .pl k) :: envG e)).any id := by
        show (List.range (wl wd).length).any _ = _
        rw [wl_len, List.any_map]; rfl
      rw [this] at hQ
      exact hQ
  | set m x =>
    have hd : depth x + 1 < n + 1 := hd
    refine jF (kd := "set") (f := .o) rfl (by decide) (jF (kd := "set") (f := .o) rfl (by decide) (jF (kd := "set") (f := .o) rfl (by decide) (jF (kd := "set") (f := .o) rfl (by decide) (jT (f := .o) rfl ?_))))
    refine ⟨hlen, wd.length, rfl, hwd, ?_⟩
    refine ⟨rfl, .n, fun i acc ρ => acc = ((List.range i).map fun A => sem (wl wd) x ((m, .st fun p => A.testBit p) :: envG e)).map D.bl ∧ ρ = [.val (toD (.set m x)) .o, .val (.str wd) .o, .val (.lst (gvL e)) .o, .no, .no, .no, .no, .no, .no], ⟨rfl, rfl⟩, ?_, ?_⟩
    · rintro i d acc ρ hdi ⟨rfl, rfl⟩
      unfold subs at hdi
      rw [List.map_map] at hdi
      obtain ⟨hi, rfl⟩ := range_map hdi
      refine ⟨_, rfl, fun _ => ?_, fun h => Bool.noConfusion h⟩
      refine ⟨_, 2, toD x, rfl, rfl, rfl, _, 1, .str m, rfl, rfl, rfl, ?_, x, wd, (m, .st (sub wd.length i)) :: e, ?_, by omega, hw, hwd, by rw [List.length_cons]; omega, ?_, _, rfl, rfl, ?_, ?_, rfl⟩
      · rw [gvL_len, sizeLine_eq]; show e.length + 1 ≤ _; omega
      · rw [← gvL_cons]; rfl
      · exact fun p hp => (List.mem_cons.mp hp).elim (fun z => by rw [z]; exact True.intro) (he p)
      · rw [List.length_map, List.length_map, List.length_range, sizeLine_eq]; omega
      · rw [List.range_succ, List.map_append, List.map_append]
        show _ ++ [D.bl (sem (wl wd) x (envG ((m, .st (sub wd.length i)) :: e)))] = _
        rw [sub_sem hw he]; rfl
    · rintro acc ρ ⟨rfl, rfl⟩
      rw [List.length_map, subs_len]
      refine ⟨_, rfl, _, rfl, rfl, ?_⟩
      have : sem (wl wd) (.set m x) (envG e) = ((List.range (2 ^ wd.length)).map fun A => sem (wl wd) x ((m, .st fun p => A.testBit p) :: envG e)).any id := by
        show (List.range (2 ^ (wl wd).length)).any _ = _
        rw [wl_len, List.any_map]; rfl
      rw [this] at hQ
      exact hQ
  | letter a c =>
    obtain ⟨k, hk⟩ := g_pl hw
    have hkn : k < wd.length := g_ok he hk
    obtain ⟨ch, c1, c2⟩ := wl_get (z := wd) hkn
    refine jF (kd := "letter") (f := .o) rfl (by decide) (jF (kd := "letter") (f := .o) rfl (by decide) (jF (kd := "letter") (f := .o) rfl (by decide) (jF (kd := "letter") (f := .o) rfl (by decide) (jF (kd := "letter") (f := .o) rfl (by decide) ?_))))
    refine look_lc (j := 1) (t := .pl k) rfl (by omega) hk fun g => ⟨by simp, ?_⟩
    dsimp only
    refine jT (f := .o) rfl ?_
    refine ⟨k, ch, rfl, hlen, atI_nat c1, _, 2, .str c, rfl, rfl, rfl, rfl, _, rfl, rfl, ?_⟩
    have : sem (wl wd) (.letter a c) (envG e) = (false ^^ eqD (.str ⟨#[ch]⟩) (.str c)) := by
      unfold sem
      rw [g_look hk]
      show decide ((wl wd)[k]? = some c) = _
      rw [c2, Bool.false_xor, eqD_str]; simp
    rw [this] at hQ
    exact hQ
  | within a m =>
    obtain ⟨k, hk⟩ := g_pl hw.1
    obtain ⟨l, hl⟩ := g_st hw.2
    refine jF (kd := "within") (f := .o) rfl (by decide) (jF (kd := "within") (f := .o) rfl (by decide) (jF (kd := "within") (f := .o) rfl (by decide) (jF (kd := "within") (f := .o) rfl (by decide) (jF (kd := "within") (f := .o) rfl (by decide) ?_))))
    refine look_lc (j := 1) (t := .pl k) rfl (by omega) hk fun g => ⟨by simp, ?_⟩
    dsimp only
    refine jF (kd := "within") (f := .o) rfl (by decide) ?_
    refine look_lc (j := 2) (t := .st l) rfl (by omega) hl fun g2 => ⟨by simp, ?_⟩
    dsimp only
    refine jT (f := .o) rfl ?_
    refine ⟨_, rfl, rfl, ?_, _, rfl, rfl, ?_⟩
    · rw [List.all_eq_true]
      intro d hd
      obtain ⟨x, _, rfl⟩ := List.mem_map.mp hd
      rfl
    · have hin : ∀ l : List Nat, inF (.int (k : Nat)) (l.map fun k : Nat => D.int (k : Nat)) = decide (k ∈ l) := fun l => by
        induction l with
        | nil => rfl
        | cons y l ih =>
          rw [List.map_cons]
          show (((y : Nat) : Int) == (k : Int) || inF (.int (k : Nat)) (l.map fun k : Nat => D.int (k : Nat))) = _
          rw [ih]
          by_cases h : y = k
          · subst h; simp
          · have h2 : ¬ k = y := fun e => h e.symm
            have h4 : ¬ ((y : Nat) : Int) = (k : Int) := fun e => h (by omega)
            simp [h2, h4]
      have : sem (wl wd) (.within a m) (envG e) = (false ^^ inF (.int (k : Nat)) (l.map fun k : Nat => D.int (k : Nat))) := by
        unfold sem
        rw [g_look hk, g_look hl, hin, Bool.false_xor]; rfl
      rw [this] at hQ
      exact hQ
  | ahead a m =>
    obtain ⟨k, hk⟩ := g_pl hw.1
    obtain ⟨j, hj⟩ := g_pl hw.2
    refine jF (kd := "ahead") (f := .o) rfl (by decide) (jF (kd := "ahead") (f := .o) rfl (by decide) (jF (kd := "ahead") (f := .o) rfl (by decide) (jF (kd := "ahead") (f := .o) rfl (by decide) (jF (kd := "ahead") (f := .o) rfl (by decide) ?_))))
    refine look_lc (j := 1) (t := .pl k) rfl (by omega) hk fun g => ⟨by simp, ?_⟩
    dsimp only
    refine jF (kd := "ahead") (f := .o) rfl (by decide) ?_
    refine look_lc (j := 2) (t := .pl j) rfl (by omega) hj fun g2 => ⟨by simp, ?_⟩
    dsimp only
    refine jF (kd := "ahead") (f := .o) rfl (by decide) ?_
    have es : sem (wl wd) (.ahead a m) (envG e) = decide (k < j) := by
      unfold sem
      rw [g_look hk, g_look hj]; rfl
    rw [es] at hQ
    refine ⟨True.intro, _, rfl, fun z => ?_, fun z => ?_⟩
    · have z := of_decide_eq_true z
      rw [decide_eq_true (by omega : k < j)] at hQ
      refine ⟨_, 0, .str "ahead", rfl, rfl, rfl, rfl, _, rfl, fun _ => ⟨_, rfl, rfl, hQ⟩, fun z2 => ?_⟩
      change (false ^^ eqD (.str "ahead") (.str "ahead")) = false at z2
      rw [Bool.false_xor, eqD_str, decide_eq_true rfl] at z2
      cases z2
    · have z := of_decide_eq_false z
      rw [decide_eq_false (by omega : ¬ k < j)] at hQ
      refine ⟨_, rfl, fun h => Bool.noConfusion h, fun _ => ?_⟩
      refine ⟨rfl, _, rfl, fun z2 => ?_, fun z2 => ⟨_, rfl, rfl, hQ⟩⟩
      exact ⟨_, 0, .str "ahead", rfl, rfl, rfl, rfl, _, rfl, rfl, hQ⟩
  | same a m =>
    obtain ⟨k, hk⟩ := g_pl hw.1
    obtain ⟨j, hj⟩ := g_pl hw.2
    refine jF (kd := "same") (f := .o) rfl (by decide) (jF (kd := "same") (f := .o) rfl (by decide) (jF (kd := "same") (f := .o) rfl (by decide) (jF (kd := "same") (f := .o) rfl (by decide) (jF (kd := "same") (f := .o) rfl (by decide) ?_))))
    refine look_lc (j := 1) (t := .pl k) rfl (by omega) hk fun g => ⟨by simp, ?_⟩
    dsimp only
    refine jF (kd := "same") (f := .o) rfl (by decide) ?_
    refine look_lc (j := 2) (t := .pl j) rfl (by omega) hj fun g2 => ⟨by simp, ?_⟩
    dsimp only
    refine jF (kd := "same") (f := .o) rfl (by decide) ?_
    have es : sem (wl wd) (.same a m) (envG e) = decide (k = j) := by
      unfold sem
      rw [g_look hk, g_look hj]; rfl
    rw [es] at hQ
    have fin : ∀ ρ : En, ρ = ρ → True := fun _ _ => True.intro
    refine ⟨True.intro, _, rfl, fun z => ?_, fun z => ?_⟩
    · have z := of_decide_eq_true z
      rw [decide_eq_false (by omega : ¬ k = j)] at hQ
      refine ⟨_, 0, .str "same", rfl, rfl, rfl, rfl, _, rfl, fun z2 => ?_, fun _ => ?_⟩
      · change (false ^^ eqD (.str "same") (.str "ahead")) = true at z2
        rw [Bool.false_xor, eqD_str] at z2
        exact absurd (of_decide_eq_true z2) (by decide)
      · refine ⟨rfl, _, rfl, fun z2 => ?_, fun z2 => ⟨_, rfl, rfl, hQ⟩⟩
        change (false ^^ eqD (.int (k : Nat)) (.int (j : Nat))) = true at z2
        rw [Bool.false_xor, eqD_int] at z2
        have := of_decide_eq_true z2
        omega
    · refine ⟨_, rfl, fun h => Bool.noConfusion h, fun _ => ?_⟩
      refine ⟨rfl, _, rfl, fun z2 => ?_, fun z2 => ?_⟩
      · change (false ^^ eqD (.int (k : Nat)) (.int (j : Nat))) = true at z2
        rw [Bool.false_xor, eqD_int] at z2
        have z2 := of_decide_eq_true z2
        rw [decide_eq_true (by omega : k = j)] at hQ
        exact ⟨_, 0, .str "same", rfl, rfl, rfl, rfl, _, rfl, rfl, hQ⟩
      · change (false ^^ eqD (.int (k : Nat)) (.int (j : Nat))) = false at z2
        rw [Bool.false_xor, eqD_int] at z2
        have z2 := of_decide_eq_false z2
        rw [decide_eq_false (by omega : ¬ k = j)] at hQ
        exact ⟨_, rfl, rfl, hQ⟩
end
end K9

namespace K9
open PySem L2 DL
section
variable {P : Program} {w : World} {K : PySem.W.Frag} {mg : Str → Option Value} {base : Heap} {f : Addr} {fd : FuncData}
/- _law_sets_around: 0 _law_saying_here, 1 _law_part -/
abbrev s_l_sets_around : Stmt := top 21
abbrev N_l_sets_around : List Str := ["_law_saying_here", "_law_part"]
theorem sc_l_sets_around : FnScope N_l_sets_around ["_law_saying_here"] (defScope s_l_sets_around) := ⟨rfl, rfl, rfl, by decide +kernel, rfl, by decide +kernel, by decide +kernel⟩
/-- how many sets: any number will do -/
def spAr (n : Nat) : SpD := fun ds P => ∃ s, ds = [toD s] ∧ depth s < n ∧ ∀ c : Int, P (.int c)
theorem it_tail {kd : Str} {parts : List (Sy Str)} {k : Nat} {s1 : Sl} {Q : List D → Fr → En → Prop} (hcut : cutD (.str kd :: parts.map toD) (some 1) none = parts.map toD) (hk : (parts.map toD).length = k) (hs : ¬ (HT.sIx (k + 1) 0 (some 1) = 0 ∧ HT.sIx (k + 1) (k + 1) none = k + 1))
    (q : Q (parts.map toD) .o [.val (.tup (.str kd :: parts.map toD)) .o, s1]) : dItT (dSl (dVar 0) (dPart (dC (.int 1))) dNoP) [.val (.tup (.str kd :: parts.map toD)) .o, s1] Q := by
  refine ⟨1, rfl, ?_, ?_⟩
  · show ¬ (HT.sIx ((parts.map toD).length + 1) 0 (some 1) = 0 ∧ HT.sIx ((parts.map toD).length + 1) ((parts.map toD).length + 1) none = (parts.map toD).length + 1)
    rw [hk]; exact hs
  · show Q (cutD (.str kd :: parts.map toD) (some 1) none) .o _
    rw [hcut]; exact q
theorem max_lc {n : Nat} {kd : Str} {parts : List (Sy Str)} {k : Nat} {E : ED} (hcut : cutD (.str kd :: parts.map toD) (some 1) none = parts.map toD) (hk : (parts.map toD).length = k) (hs : ¬ (HT.sIx (k + 1) 0 (some 1) = 0 ∧ HT.sIx (k + 1) (k + 1) none = k + 1)) (h0 : 0 < parts.length) (hl : parts.length ≤ 100) (hd : ∀ p ∈ parts, depth p < n) (q : ∀ (c : Int) (ρ : En), E.rt (.int c) ρ) :
    dRet (dCB (pMax fun y m => y ≤ m) (dCons (dLc (dItT (dSl (dVar 0) (dPart (dC (.int 1))) dNoP)) (.one 1) dYes (dCall (spAr n) (dCons (dVar 1) dNil)) [1]) dNil)) E [.val (.tup (.str kd :: parts.map toD)) .o, .no] := by
  unfold dRet dCB dCons dLc
  refine it_tail hcut hk hs ?_
  refine ⟨rfl, .n, fun i acc ρ => ∃ l : List Int, l.length = i ∧ acc = l.map D.int ∧ ρ = [.val (.tup (.str kd :: parts.map toD)) .o, .no], ⟨[], rfl, rfl, rfl⟩, ?_, ?_⟩
  · rintro i d acc ρ hdi ⟨l, rfl, rfl, rfl⟩
    rw [List.getElem?_map] at hdi
    cases ep : parts[l.length]? with
    | none => rw [ep] at hdi; cases hdi
    | some p =>
      rw [ep] at hdi
      cases hdi
      have hi := (List.getElem?_eq_some_iff.mp ep).1
      refine ⟨_, rfl, fun _ => ?_, fun h => Bool.noConfusion h⟩
      exact ⟨p, rfl, hd p (List.mem_of_getElem? ep), fun c => ⟨_, rfl, rfl, len_lt (by rw [List.length_map]; omega), l ++ [c], by simp, by simp, rfl⟩⟩
  · rintro acc ρ ⟨l, hll, rfl, rfl⟩
    rw [List.length_map] at hll
    exact ⟨l, rfl, by omega, fun m _ _ => ⟨_, rfl, rfl, q m _⟩⟩
theorem ok_around {n : Nat} (F : Fun K "_law_sets_around" "_law_sets_around" s_l_sets_around f fd) (m_max : mg "max" = none) (C_l_sets_around : Cal P w K mg base "_law_sets_around" (n + 1) (spP K (spAr n))) : FnOk P w K mg base CX0 (n + 2) f fd ["_law_saying_here"] (spP K (spAr (n + 1))) := by
  refine dfn (N := N_l_sets_around) F sc_l_sets_around (by decide) (fun ds Q ⟨_, e, _⟩ => by rw [e]; rfl) (fun cdv A outer s H E hr => (dss_cons (ds_if (dt_eq hr (de_ix (de_name 0) de_int) de_str)
  (dss_one (ds_ret (de_add de_int (de_call C_l_sets_around hr (by omega) (da_cons (de_ix (de_name 0) de_int) da_nil)))))
  dss_nil)
  (dss_cons (ds_if (dt_eq hr (de_ix (de_name 0) de_int) de_str)
  (dss_one (ds_ret (de_call C_l_sets_around hr (by omega) (da_cons (de_ix (de_name 0) de_int) da_nil))))
  dss_nil)
  (dss_cons (ds_if (dt_in (de_ix (de_name 0) de_int) (de_tup (da_cons de_str (da_cons de_str (da_cons de_str da_nil)))))
  (dss_one (ds_ret (de_max rfl m_max (da_cons (de_lc rfl sc_l_sets_around.nd (di_tup (de_slice (de_name 0) (do_some de_int) do_none)) (blkOk_by (own := [("_law_part", 1)]) (N := N_l_sets_around) (sc := defScope s_l_sets_around) (by decide +kernel)) (g := (.one 1)) (by decide) (fun _ => (dg_name (i := 1) sc_l_sets_around.nd)) (fun _ => dts_nil) (fun _ => (de_call C_l_sets_around hr (by omega) (da_cons (de_name 1) da_nil)))) da_nil))))
  dss_nil)
  (dss_one (ds_ret de_int)))))) ?_
  rintro ds Q ⟨s, rfl, hd, hQ⟩
  have tl : ∀ (kd : Str) (rest : List D) (U : TSD) (A : TSD) (E : ED), ((inF (.str kd) [.str "not", .str "and", .str "or"] = true → A { E with nx := U E } [.val (.tup (.str kd :: rest)) .o, .no]) ∧ (inF (.str kd) [.str "not", .str "and", .str "or"] = false → U E [.val (.tup (.str kd :: rest)) .o, .no])) →
      dSeq (dIf (dTest (dOp (pIn false) (dOp pIx (dVar 0) (dC (.int 0))) (dTup (dCons (dC (.str "not")) (dCons (dC (.str "and")) (dCons (dC (.str "or")) dNil)))))) A dNext) U E [.val (.tup (.str kd :: rest)) .o, .no] := fun kd rest U A E ⟨h1, h2⟩ =>
    ⟨_, 0, .str kd, rfl, rfl, atI_nat (k := 0) rfl, _, rfl, rfl, rfl, _, rfl, fun z => h1 ((Bool.false_xor _).symm.trans z), fun z => h2 ((Bool.false_xor _).symm.trans z)⟩
  cases s with
  | set m x =>
    have hd : depth x + 1 < n + 1 := hd
    refine jT (f := .o) rfl ?_
    exact ⟨_, 2, toD x, rfl, rfl, rfl, x, rfl, by omega, fun c => ⟨_, rfl, rfl, hQ _⟩⟩
  | place m x =>
    have hd : depth x + 1 < n + 1 := hd
    refine jF (kd := "place") (f := .o) rfl (by decide) (jT (f := .o) rfl ?_)
    exact ⟨_, 2, toD x, rfl, rfl, rfl, x, rfl, by omega, fun c => ⟨_, rfl, rfl, hQ _⟩⟩
  | not x =>
    have hd : depth x + 1 < n + 1 := hd
    refine jF (kd := "not") (f := .o) rfl (by decide) (jF (kd := "not") (f := .o) rfl (by decide) (tl "not" _ _ _ _ ⟨fun _ => ?_, fun h => absurd h (by decide)⟩))
    exact max_lc (parts := [x]) (k := 1) rfl rfl (by decide) (by simp) (by simp) (fun p hp => by rw [List.mem_singleton.mp hp]; omega) fun c ρ => hQ c
  | and x y =>
    have hd : max (depth x) (depth y) + 1 < n + 1 := hd
    refine jF (kd := "and") (f := .o) rfl (by decide) (jF (kd := "and") (f := .o) rfl (by decide) (tl "and" _ _ _ _ ⟨fun _ => ?_, fun h => absurd h (by decide)⟩))
    exact max_lc (parts := [x, y]) (k := 2) rfl rfl (by decide) (by simp) (by simp) (fun p hp => by simp at hp; rcases hp with rfl | rfl <;> omega) fun c ρ => hQ c
  | or x y =>
    have hd : max (depth x) (depth y) + 1 < n + 1 := hd
    refine jF (kd := "or") (f := .o) rfl (by decide) (jF (kd := "or") (f := .o) rfl (by decide) (tl "or" _ _ _ _ ⟨fun _ => ?_, fun h => absurd h (by decide)⟩))
    exact max_lc (parts := [x, y]) (k := 2) rfl rfl (by decide) (by simp) (by simp) (fun p hp => by simp at hp; rcases hp with rfl | rfl <;> omega) fun c ρ => hQ c
  | letter a m =>
    exact jF (kd := "letter") (f := .o) rfl (by decide) (jF (kd := "letter") (f := .o) rfl (by decide) (tl "letter" _ _ _ _ ⟨fun h => absurd h (by decide), fun _ => ⟨_, rfl, rfl, hQ 0⟩⟩))
  | ahead a m =>
    exact jF (kd := "ahead") (f := .o) rfl (by decide) (jF (kd := "ahead") (f := .o) rfl (by decide) (tl "ahead" _ _ _ _ ⟨fun h => absurd h (by decide), fun _ => ⟨_, rfl, rfl, hQ 0⟩⟩))
  | same a m =>
    exact jF (kd := "same") (f := .o) rfl (by decide) (jF (kd := "same") (f := .o) rfl (by decide) (tl "same" _ _ _ _ ⟨fun h => absurd h (by decide), fun _ => ⟨_, rfl, rfl, hQ 0⟩⟩))
  | within a m =>
    exact jF (kd := "within") (f := .o) rfl (by decide) (jF (kd := "within") (f := .o) rfl (by decide) (tl "within" _ _ _ _ ⟨fun h => absurd h (by decide), fun _ => ⟨_, rfl, rfl, hQ 0⟩⟩))
end
end K9

namespace K9
open PySem L2 DL
section
variable {P : Program} {w : World} {K : PySem.W.Frag} {mg : Str → Option Value} {base : Heap} {f : Addr} {fd : FuncData}
theorem last_ch {z : Str} (h : 0 < z.length) : ∃ c, atI z.cps.toList (-1) = some c := by
  have hl : 0 < z.cps.toList.length := by rw [Array.length_toList]; exact h
  have hne : z.cps.toList ≠ [] := List.length_pos_iff.mp hl
  refine ⟨z.cps.toList.getLast hne, ?_⟩
  have e := List.dropLast_concat_getLast hne
  have := atI_last (l := z.cps.toList.dropLast) (x := z.cps.toList.getLast hne)
  rw [e] at this
  exact this
theorem first_ch {z : Str} (h : 0 < z.length) : ∃ c, atI z.cps.toList 0 = some c := by
  have hl : 0 < z.cps.toList.length := by rw [Array.length_toList]; exact h
  exact ⟨z.cps.toList[0], atI_nat (k := 0) (List.getElem?_eq_getElem hl)⟩
theorem rep_len (c k : Nat) : (strRep ⟨#[c]⟩ (k : Int)).length ≤ k := by
  unfold strRep
  by_cases h1 : (k : Int) < 1
  · rw [if_pos h1]; exact Nat.zero_le _
  · rw [if_neg h1]
    by_cases h2 : ((k : Int) == 1 || (⟨#[c]⟩ : Str).length == 0) = true
    · rw [if_pos h2]
      show 1 ≤ k
      omega
    · rw [if_neg h2]
      show ((List.replicate (k : Int).toNat #[c]).foldl (· ++ ·) #[]).size ≤ k
      rw [foldl_size, Int.toNat_natCast]
      show 0 + k * 1 ≤ k
      omega
/- law: 0 _law_script, 1 _law_tape, 2 _law_world_here, 3 _law_saying_here, 4 _law_size, 5 _law_sets_here, 6 _law_letters, 7 _law_word, 8 _law_turn, 9 _law_found, 10 _law_k -/
abbrev s_law : Stmt := top 22
abbrev N_law : List Str := ["_law_script", "_law_tape", "_law_world_here", "_law_saying_here", "_law_size", "_law_sets_here", "_law_letters", "_law_word", "_law_turn", "_law_found", "_law_k"]
theorem sc_law : FnScope N_law ["_law_script"] (defScope s_law) := ⟨rfl, rfl, rfl, by decide +kernel, rfl, by decide +kernel, by decide +kernel⟩
def spLawD : SpD := fun ds P => ∃ ns : List Int, ds = [scD ns] ∧ ns.length ≤ 63 ∧ P (.bl true)
theorem ok_law {L : Nat} (hL : 30 ≤ L) (F : Fun K "law" "law" s_law f fd) (m_range : mg "range" = none) (m_len : mg "len" = none) (m_isinstance : mg "isinstance" = none) (m_bool : mg "bool" = none)
    (C_l_draw : Cal P w K mg base "_law_draw" 1 (spT K 1 spDraw)) (C_l_world : Cal P w K mg base "_law_world" 3 (spT K 1 spWorld)) (C_l_saying : Cal P w K mg base "_law_saying" 8 (spT K 1 (spSay 5)))
    (C_l_sets_around : Cal P w K mg base "_law_sets_around" 10 (spP K (spAr 9))) (C_true_of : Cal P w K mg base "true_of" L (spP K (spTrue 26))) (C_l_true : Cal P w K mg base "_law_true" 27 (spP K (spLT 26))) :
    FnOk P w K mg base CX0 (L + 1) f fd ["_law_script"] (spP K spLawD) := by
  refine dfn (N := N_law) F sc_law (by decide) (fun ds Q ⟨_, e, _⟩ => by rw [e]; rfl) (fun cdv A outer s H E hr => (dss_cons (ds_set (i := 1) (de_lst (da_cons de_int da_nil)) sc_law.nd)
  (dss_cons (ds_set (i := 2) (de_callT C_l_world hr (by omega) (da_cons (de_name 0) (da_cons (de_name 1) da_nil))) sc_law.nd)
  (dss_cons (ds_set (i := 3) (de_callT C_l_saying hr (by omega) (da_cons (de_name 0) (da_cons (de_name 1) (da_cons (de_name 2) (da_cons (de_lst da_nil) (da_cons de_int da_nil)))))) sc_law.nd)
  (dss_cons (ds_set (i := 4) (de_callT C_l_draw hr (by omega) (da_cons (de_name 0) (da_cons (de_name 1) (da_cons de_int da_nil)))) sc_law.nd)
  (dss_cons (ds_set (i := 5) (de_call C_l_sets_around hr (by omega) (da_cons (de_name 3) da_nil)) sc_law.nd)
  (dss_cons (ds_cut (ds_if (dt_w (dw_and (dt_lt (de_name 5) de_int) (dw_and1 (dt_eq hr (de_callT C_l_draw hr (by omega) (da_cons (de_name 0) (da_cons (de_name 1) (da_cons de_int da_nil)))) de_int))))
  (dss_one (ds_set (i := 4) (de_add de_int (de_callT C_l_draw hr (by omega) (da_cons (de_name 0) (da_cons (de_name 1) (da_cons de_int da_nil))))) sc_law.nd))
  dss_nil))
  (dss_cons (ds_set (i := 6) (de_ix (de_name 2) de_int) sc_law.nd)
  (dss_cons (ds_set (i := 7) (de_join de_str (de_lc rfl sc_law.nd (di_range1 m_range (da_cons (de_name 4) da_nil)) (blkOk_by (own := [("_law_k", 10)]) (N := N_law) (sc := defScope s_law) (by decide +kernel)) (g := (.one 10)) (by decide) (fun _ => (dg_name (i := 10) sc_law.nd)) (fun _ => dts_nil) (fun _ => (de_ix (de_name 6) (de_mod (de_callT C_l_draw hr (by omega) (da_cons (de_name 0) (da_cons (de_name 1) (da_cons de_int da_nil)))) (de_len m_len (da_cons (de_name 6) da_nil))))))) sc_law.nd)
  (dss_cons (ds_cut (ds_if (dt_w (dw_and (dt_eq hr (de_callT C_l_draw hr (by omega) (da_cons (de_name 0) (da_cons (de_name 1) (da_cons de_int da_nil)))) de_int) (dw_and1 (dt_eq hr (de_name 5) de_int))))
  (dss_one (ds_set (i := 7) (de_add (de_mul (de_ix (de_name 6) de_int) (de_add de_int (de_callT C_l_draw hr (by omega) (da_cons (de_name 0) (da_cons (de_name 1) (da_cons de_int da_nil)))))) (de_ix (de_name 6) (de_neg de_int))) sc_law.nd))
  dss_nil))
  (dss_cons (ds_for (di_range1 m_range (da_cons (de_ix (de_lst (da_cons de_int (da_cons de_int (da_cons de_int (da_cons de_int da_nil))))) (de_callT C_l_draw hr (by omega) (da_cons (de_name 0) (da_cons (de_name 1) (da_cons de_int da_nil))))) da_nil)) (dg_name (i := 8) sc_law.nd)
  (dss_one (ds_set (i := 3) (de_tup (da_cons de_str (da_cons (de_nameF 3) da_nil))) sc_law.nd)) (fun hg hi hb => ps_for PassesOwn.never rfl hi hg hb))
  (dss_cons (ds_set (i := 9) (de_call C_true_of hr (by omega) (da_cons (de_name 3) (da_cons (de_name 7) da_nil))) sc_law.nd)
  (dss_one (ds_ret (de_andV (de_isi (T := "bool") m_isinstance m_bool (by decide +kernel) (de_name 9)) (de_one (de_eq hr (de_name 9) (de_call C_l_true hr (by omega) (da_cons (de_name 3) (da_cons (de_name 7) (da_cons (de_lst da_nil) da_nil))))))))))))))))))))) ?_
  rintro ds Q ⟨ns, rfl, hl, hQ⟩
  refine ⟨by simp [ini], ?_⟩
  refine ⟨rfl, rfl, ns, 0, rfl, rfl, by omega, hl, fun lt a b c n1 hl1 hl4 _ hn1 => ⟨by simp [ini], ?_⟩⟩
  have hlt : lt.length ≤ sizeLine := by rw [sizeLine_eq]; omega
  refine ⟨rfl, rfl, 4, ns, n1, lt, a, b, c, [], by decide, rfl, rfl, by omega, hl, hl1, hl4, by decide, fun s n2 hs hw _ hn2 => ⟨by simp [ini], ?_⟩⟩
  refine ⟨rfl, rfl, ns, n2, 4, rfl, rfl, by omega, by omega, hl, fun sz hsz => ⟨by simp [ini], ?_⟩⟩
  refine ⟨s, rfl, by omega, fun sa => ⟨by simp [ini], ?_⟩⟩
  show dSeq _ _ _ [.val (scD ns) .o, .ml (tp (n2 + 1)) .n, .val (woD lt a b c) .n, .val (toD s) .n, .val (.int sz) .n, .val (.int sa) .n, .no, .no, .no, .no, .no]
  refine ⟨fun ρ => ∃ (sz n3 : Nat), sz ≤ 5 ∧ n3 ≤ 500 ∧ ρ = [.val (scD ns) .o, .ml (tp n3) .n, .val (woD lt a b c) .n, .val (toD s) .n, .val (.int sz) .n, .val (.int sa) .n, .no, .no, .no, .no, .no],
    ⟨True.intro, _, rfl, fun _ => ⟨rfl, rfl, ns, n2 + 1, 3, rfl, rfl, by omega, by omega, hl, fun r hr => ⟨rfl, _, rfl, fun _ => ?_, fun _ => ⟨sz, n2 + 2, by omega, by omega, rfl⟩⟩⟩, fun _ => ⟨fun h => Bool.noConfusion h, fun _ => ⟨sz, n2 + 1, by omega, by omega, rfl⟩⟩⟩, ?_⟩
  · exact ⟨rfl, rfl, ns, n2 + 2, 2, rfl, rfl, by omega, by omega, hl, fun r2 hr2 => ⟨by simp, 4 + r2, n2 + 3, by omega, by omega, rfl⟩⟩
  clear hsz sz
  rintro ρ ⟨sz, n3, hsz, hn3, rfl⟩
  refine ⟨_, 0, .str lt, rfl, rfl, rfl, by simp, ?_⟩
  refine ⟨"", rfl, sz, rfl, ⟨by omega, by omega⟩, rfl, .n, fun i acc ρ => ∃ (l : List Nat) (n4 : Nat), l.length = i ∧ acc = chD l ∧ n4 ≤ n3 + i ∧ ρ = [.val (scD ns) .o, .ml (tp n4) .n, .val (woD lt a b c) .n, .val (toD s) .n, .val (.int sz) .n, .val (.int sa) .n, .val (.str lt) .h, .no, .no, .no, .no], ⟨[], n3, rfl, rfl, by omega, rfl⟩, ?_, ?_⟩
  · rintro i d acc ρ hd ⟨l, n4, rfl, rfl, hn4, rfl⟩
    obtain ⟨hi, rfl⟩ := upto_at hd
    rw [Int.toNat_natCast] at hi
    refine ⟨_, rfl, fun _ => ?_, fun h => Bool.noConfusion h⟩
    refine ⟨rfl, rfl, ns, n4, 12, rfl, rfl, by omega, by omega, hl, fun r hr => ?_⟩
    obtain ⟨ch, _, ech⟩ := pickc (z := lt) (by omega) (r : Int)
    exact ⟨hlt, by omega, _, ch, rfl, hlt, ech, _, rfl, rfl, len_lt (by rw [List.length_map]; omega), l ++ [ch], n4 + 1, by simp, by simp, by omega, rfl⟩
  rintro acc ρ ⟨l, n4, hll, rfl, hn4, rfl⟩
  rw [upto_len, Int.toNat_natCast] at hll hn4
  refine ⟨chs l, by rw [chs_str]; rfl, ?_, by simp [mergeE], ?_⟩
  · rw [chs_sum]; show l.length + l.length * 0 ≤ _; omega
  have hwd := chs_join l
  generalize Txt.join "" (chs l) = wd at hwd ⊢
  dsimp only
  show dSeq _ _ _ [.val (scD ns) .o, .ml (tp n4) .n, .val (woD lt a b c) .n, .val (toD s) .n, .val (.int sz) .n, .val (.int sa) .n, .val (.str lt) .h, .val (.str wd) .n, .no, .no, .no]
  refine ⟨fun ρ => ∃ (wd : Str) (n5 : Nat), wd.length ≤ 16 ∧ n5 ≤ 600 ∧ ρ = [.val (scD ns) .o, .ml (tp n5) .n, .val (woD lt a b c) .n, .val (toD s) .n, .val (.int sz) .n, .val (.int sa) .n, .val (.str lt) .h, .val (.str wd) .n, .no, .no, .no],
    ⟨rfl, rfl, ns, n4, 2, rfl, rfl, by omega, by omega, hl, fun r hr => ⟨rfl, _, rfl, fun _ => ⟨rfl, _, rfl, fun _ => ?_, fun _ => ⟨wd, n4 + 1, by omega, by omega, rfl⟩⟩, fun _ => ⟨fun h => Bool.noConfusion h, fun _ => ⟨wd, n4 + 1, by omega, by omega, rfl⟩⟩⟩⟩, ?_⟩
  · obtain ⟨c0, ec0⟩ := first_ch (z := lt) (by omega)
    obtain ⟨c1, ec1⟩ := last_ch (z := lt) (by omega)
    refine ⟨0, c0, rfl, hlt, ec0, rfl, rfl, ns, n4 + 1, 3, rfl, rfl, by omega, by omega, hl, fun r2 hr2 => ?_⟩
    have e5 : (5 : Int) + (r2 : Nat) = ((5 + r2 : Nat) : Int) := by omega
    have hrep := rep_len c0 (5 + r2)
    dsimp only
    refine ⟨by omega, by omega, by show (1 : Int) * _ ≤ _; omega, 1, rfl, -1, c1, rfl, hlt, ec1, ?_, by simp, _, n4 + 2, ?_, by omega, rfl⟩
    · rw [e5, sizeLine_eq]; show _ + 1 ≤ _; omega
    · rw [e5, str_len]; show _ + 1 ≤ _; omega
  clear hwd wd
  rintro ρ ⟨wd, n5, hwd, hn5, rfl⟩
  refine ⟨rfl, rfl, ns, n5, 4, rfl, rfl, by omega, by omega, hl, fun r hr => ?_⟩
  obtain ⟨q, hq, eq⟩ : ∃ q : Nat, q ≤ 20 ∧ atI [D.int 0, .int 0, .int 0, .int 20] (r : Int) = some (.int (q : Nat)) := by
    match r, hr with
    | 0, _ => exact ⟨0, by decide, rfl⟩
    | 1, _ => exact ⟨0, by decide, rfl⟩
    | 2, _ => exact ⟨0, by decide, rfl⟩
    | 3, _ => exact ⟨20, by decide, rfl⟩
  refine ⟨_, r, .int q, rfl, rfl, eq, q, rfl, ⟨by omega, by omega⟩, ?_⟩
  refine ⟨fun i ρ => ∃ (s : Sy Str) (fx : Fr) (b8 : Sl), depth s ≤ 5 + i ∧ Wh s [] ∧ ρ = [.val (scD ns) .o, .ml (tp (n5 + 1)) .n, .val (woD lt a b c) .n, .val (toD s) fx, .val (.int sz) .n, .val (.int sa) .n, .val (.str lt) .h, .val (.str wd) .n, b8, .no, .no], ⟨s, _, _, hs, hw, rfl⟩, ?_, ?_⟩
  · rintro i d ρ hd ⟨s, fx, b8, h1, h2, rfl⟩
    obtain ⟨hi, rfl⟩ := upto_at hd
    exact ⟨_, rfl, by simp, .not s, _, _, by show depth s + 1 ≤ _; omega, h2, rfl⟩
  · rintro ρ ⟨s, fx, b8, h1, h2, rfl⟩
    rw [upto_len, Int.toNat_natCast] at h1
    refine ⟨s, wd, rfl, by omega, h2, hwd, by simp, ?_⟩
    refine ⟨true, rfl, _, rfl, fun _ => ?_, fun h => Bool.noConfusion h⟩
    refine ⟨s, wd, [], rfl, by omega, h2, hwd, by decide, fun p hp => absurd hp (by simp), rfl, _, rfl, rfl, ?_⟩
    show Q (.bl (false ^^ eqD (.bl (sem (wl wd) s [])) (.bl (sem (wl wd) s (envG [])))))
    rw [Bool.false_xor, eqD_bl]
    show Q (.bl (decide (sem (wl wd) s [] = sem (wl wd) s [])))
    rw [decide_eq_true rfl]
    exact hQ
end
end K9

namespace K9
open PySem L2 DL
theorem no_fn {P : Program} {w : World} {K : PySem.W.Frag} {mg : Str → Option Value} {base : Heap} {k : Nat} {f : Addr} {fd : FuncData} {ps : List Str} {sp : Sp} (h : ∀ vs H Q E, ¬ sp vs H Q E) : FnOk P w K mg base CX0 k f fd ps sp :=
  ⟨fun vs H Q E q => absurd q (h vs H Q E), fun _ _ _ H _ _ vs Q E _ _ _ _ q => absurd q (h vs H Q E)⟩
theorem all_mk {l : PySem.W.OpenLaw} {w : World} {K : PySem.W.Frag} {h : Heap} {mg : Str → Option Value} {fa f_always f_spread f_fold f_sbs f_alone f_holds f_plc f_sst f_tr f_true f_ldraw f_lmarks f_lworld f_lnear f_lplain f_lsay f_lsets f_ltrue f_laround f_law : Addr} {tk : Tok} (X : K.In h) (G : h.Ns mainGlobals mg) (hfa : mg "law" = some (.ref fa))
    {od_always an_always : Option Addr} {sl_always : Array (Option Value)} {oc_always kV_always dc_always pm_always cd_always ct_always : Value}
    {od_spread an_spread : Option Addr} {sl_spread : Array (Option Value)} {oc_spread kV_spread dc_spread pm_spread cd_spread ct_spread : Value}
    {od_fold an_fold : Option Addr} {sl_fold : Array (Option Value)} {oc_fold kV_fold dc_fold pm_fold cd_fold ct_fold : Value}
    {od_sbs an_sbs : Option Addr} {sl_sbs : Array (Option Value)} {oc_sbs kV_sbs dc_sbs pm_sbs cd_sbs ct_sbs : Value}
    {od_alone an_alone : Option Addr} {sl_alone : Array (Option Value)} {oc_alone kV_alone dc_alone pm_alone cd_alone ct_alone : Value}
    {od_holds an_holds : Option Addr} {sl_holds : Array (Option Value)} {oc_holds kV_holds dc_holds pm_holds cd_holds ct_holds : Value}
    {od_plc an_plc : Option Addr} {sl_plc : Array (Option Value)} {oc_plc kV_plc dc_plc pm_plc cd_plc ct_plc : Value}
    {od_sst an_sst : Option Addr} {sl_sst : Array (Option Value)} {oc_sst kV_sst dc_sst pm_sst cd_sst ct_sst : Value}
    {od_tr an_tr : Option Addr} {sl_tr : Array (Option Value)} {oc_tr kV_tr dc_tr pm_tr cd_tr ct_tr : Value}
    {od_true an_true : Option Addr} {sl_true : Array (Option Value)} {oc_true kV_true dc_true pm_true cd_true ct_true : Value}
    {od_ldraw an_ldraw : Option Addr} {sl_ldraw : Array (Option Value)} {oc_ldraw kV_ldraw dc_ldraw pm_ldraw cd_ldraw ct_ldraw : Value}
    {od_lmarks an_lmarks : Option Addr} {sl_lmarks : Array (Option Value)} {oc_lmarks kV_lmarks dc_lmarks pm_lmarks cd_lmarks ct_lmarks : Value}
    {od_lworld an_lworld : Option Addr} {sl_lworld : Array (Option Value)} {oc_lworld kV_lworld dc_lworld pm_lworld cd_lworld ct_lworld : Value}
    {od_lnear an_lnear : Option Addr} {sl_lnear : Array (Option Value)} {oc_lnear kV_lnear dc_lnear pm_lnear cd_lnear ct_lnear : Value}
    {od_lplain an_lplain : Option Addr} {sl_lplain : Array (Option Value)} {oc_lplain kV_lplain dc_lplain pm_lplain cd_lplain ct_lplain : Value}
    {od_lsay an_lsay : Option Addr} {sl_lsay : Array (Option Value)} {oc_lsay kV_lsay dc_lsay pm_lsay cd_lsay ct_lsay : Value}
    {od_lsets an_lsets : Option Addr} {sl_lsets : Array (Option Value)} {oc_lsets kV_lsets dc_lsets pm_lsets cd_lsets ct_lsets : Value}
    {od_ltrue an_ltrue : Option Addr} {sl_ltrue : Array (Option Value)} {oc_ltrue kV_ltrue dc_ltrue pm_ltrue cd_ltrue ct_ltrue : Value}
    {od_laround an_laround : Option Addr} {sl_laround : Array (Option Value)} {oc_laround kV_laround dc_laround pm_laround cd_laround ct_laround : Value}
    {od_law an_law : Option Addr} {sl_law : Array (Option Value)} {oc_law kV_law dc_law pm_law cd_law ct_law : Value}
    (a_always : PySem.W.nsIn K mainGlobals "always" = some (some (.ref f_always)))
    (l_always : K.lookup f_always = some ⟨oc_always, od_always, .func (PySem.W.fnOf "always" "always" (defArgs s_always) (defBody s_always) (defScope s_always) .none kV_always dc_always pm_always an_always cd_always ct_always), sl_always⟩)
    (c_always : PySem.W.codeIn K cd_always "always" = true) (k_always : PySem.W.keepIn K (.ref f_always) = true)
    (a_spread : PySem.W.nsIn K mainGlobals "spread" = some (some (.ref f_spread)))
    (l_spread : K.lookup f_spread = some ⟨oc_spread, od_spread, .func (PySem.W.fnOf "spread" "spread" (defArgs s_spread) (defBody s_spread) (defScope s_spread) .none kV_spread dc_spread pm_spread an_spread cd_spread ct_spread), sl_spread⟩)
    (c_spread : PySem.W.codeIn K cd_spread "spread" = true) (k_spread : PySem.W.keepIn K (.ref f_spread) = true)
    (a_fold : PySem.W.nsIn K mainGlobals "fold" = some (some (.ref f_fold)))
    (l_fold : K.lookup f_fold = some ⟨oc_fold, od_fold, .func (PySem.W.fnOf "fold" "fold" (defArgs s_fold) (defBody s_fold) (defScope s_fold) .none kV_fold dc_fold pm_fold an_fold cd_fold ct_fold), sl_fold⟩)
    (c_fold : PySem.W.codeIn K cd_fold "fold" = true) (k_fold : PySem.W.keepIn K (.ref f_fold) = true)
    (a_sbs : PySem.W.nsIn K mainGlobals "set_side_by_side" = some (some (.ref f_sbs)))
    (l_sbs : K.lookup f_sbs = some ⟨oc_sbs, od_sbs, .func (PySem.W.fnOf "set_side_by_side" "set_side_by_side" (defArgs s_set_side_by_side) (defBody s_set_side_by_side) (defScope s_set_side_by_side) .none kV_sbs dc_sbs pm_sbs an_sbs cd_sbs ct_sbs), sl_sbs⟩)
    (c_sbs : PySem.W.codeIn K cd_sbs "set_side_by_side" = true) (k_sbs : PySem.W.keepIn K (.ref f_sbs) = true)
    (a_alone : PySem.W.nsIn K mainGlobals "set_alone" = some (some (.ref f_alone)))
    (l_alone : K.lookup f_alone = some ⟨oc_alone, od_alone, .func (PySem.W.fnOf "set_alone" "set_alone" (defArgs s_set_alone) (defBody s_set_alone) (defScope s_set_alone) .none kV_alone dc_alone pm_alone an_alone cd_alone ct_alone), sl_alone⟩)
    (c_alone : PySem.W.codeIn K cd_alone "set_alone" = true) (k_alone : PySem.W.keepIn K (.ref f_alone) = true)
    (a_holds : PySem.W.nsIn K mainGlobals "holds" = some (some (.ref f_holds)))
    (l_holds : K.lookup f_holds = some ⟨oc_holds, od_holds, .func (PySem.W.fnOf "holds" "holds" (defArgs s_holds) (defBody s_holds) (defScope s_holds) .none kV_holds dc_holds pm_holds an_holds cd_holds ct_holds), sl_holds⟩)
    (c_holds : PySem.W.codeIn K cd_holds "holds" = true) (k_holds : PySem.W.keepIn K (.ref f_holds) = true)
    (a_plc : PySem.W.nsIn K mainGlobals "some_place" = some (some (.ref f_plc)))
    (l_plc : K.lookup f_plc = some ⟨oc_plc, od_plc, .func (PySem.W.fnOf "some_place" "some_place" (defArgs s_some_place) (defBody s_some_place) (defScope s_some_place) .none kV_plc dc_plc pm_plc an_plc cd_plc ct_plc), sl_plc⟩)
    (c_plc : PySem.W.codeIn K cd_plc "some_place" = true) (k_plc : PySem.W.keepIn K (.ref f_plc) = true)
    (a_sst : PySem.W.nsIn K mainGlobals "some_set" = some (some (.ref f_sst)))
    (l_sst : K.lookup f_sst = some ⟨oc_sst, od_sst, .func (PySem.W.fnOf "some_set" "some_set" (defArgs s_some_set) (defBody s_some_set) (defScope s_some_set) .none kV_sst dc_sst pm_sst an_sst cd_sst ct_sst), sl_sst⟩)
    (c_sst : PySem.W.codeIn K cd_sst "some_set" = true) (k_sst : PySem.W.keepIn K (.ref f_sst) = true)
    (a_tr : PySem.W.nsIn K mainGlobals "truths_of" = some (some (.ref f_tr)))
    (l_tr : K.lookup f_tr = some ⟨oc_tr, od_tr, .func (PySem.W.fnOf "truths_of" "truths_of" (defArgs s_truths_of) (defBody s_truths_of) (defScope s_truths_of) .none kV_tr dc_tr pm_tr an_tr cd_tr ct_tr), sl_tr⟩)
    (c_tr : PySem.W.codeIn K cd_tr "truths_of" = true) (k_tr : PySem.W.keepIn K (.ref f_tr) = true)
    (a_true : PySem.W.nsIn K mainGlobals "true_of" = some (some (.ref f_true)))
    (l_true : K.lookup f_true = some ⟨oc_true, od_true, .func (PySem.W.fnOf "true_of" "true_of" (defArgs s_true_of) (defBody s_true_of) (defScope s_true_of) .none kV_true dc_true pm_true an_true cd_true ct_true), sl_true⟩)
    (c_true : PySem.W.codeIn K cd_true "true_of" = true) (k_true : PySem.W.keepIn K (.ref f_true) = true)
    (a_ldraw : PySem.W.nsIn K mainGlobals "_law_draw" = some (some (.ref f_ldraw)))
    (l_ldraw : K.lookup f_ldraw = some ⟨oc_ldraw, od_ldraw, .func (PySem.W.fnOf "_law_draw" "_law_draw" (defArgs s_l_draw) (defBody s_l_draw) (defScope s_l_draw) .none kV_ldraw dc_ldraw pm_ldraw an_ldraw cd_ldraw ct_ldraw), sl_ldraw⟩)
    (c_ldraw : PySem.W.codeIn K cd_ldraw "_law_draw" = true) (k_ldraw : PySem.W.keepIn K (.ref f_ldraw) = true)
    (a_lmarks : PySem.W.nsIn K mainGlobals "_law_marks" = some (some (.ref f_lmarks)))
    (l_lmarks : K.lookup f_lmarks = some ⟨oc_lmarks, od_lmarks, .func (PySem.W.fnOf "_law_marks" "_law_marks" (defArgs s_l_marks) (defBody s_l_marks) (defScope s_l_marks) .none kV_lmarks dc_lmarks pm_lmarks an_lmarks cd_lmarks ct_lmarks), sl_lmarks⟩)
    (c_lmarks : PySem.W.codeIn K cd_lmarks "_law_marks" = true) (k_lmarks : PySem.W.keepIn K (.ref f_lmarks) = true)
    (a_lworld : PySem.W.nsIn K mainGlobals "_law_world" = some (some (.ref f_lworld)))
    (l_lworld : K.lookup f_lworld = some ⟨oc_lworld, od_lworld, .func (PySem.W.fnOf "_law_world" "_law_world" (defArgs s_l_world) (defBody s_l_world) (defScope s_l_world) .none kV_lworld dc_lworld pm_lworld an_lworld cd_lworld ct_lworld), sl_lworld⟩)
    (c_lworld : PySem.W.codeIn K cd_lworld "_law_world" = true) (k_lworld : PySem.W.keepIn K (.ref f_lworld) = true)
    (a_lnear : PySem.W.nsIn K mainGlobals "_law_near" = some (some (.ref f_lnear)))
    (l_lnear : K.lookup f_lnear = some ⟨oc_lnear, od_lnear, .func (PySem.W.fnOf "_law_near" "_law_near" (defArgs s_l_near) (defBody s_l_near) (defScope s_l_near) .none kV_lnear dc_lnear pm_lnear an_lnear cd_lnear ct_lnear), sl_lnear⟩)
    (c_lnear : PySem.W.codeIn K cd_lnear "_law_near" = true) (k_lnear : PySem.W.keepIn K (.ref f_lnear) = true)
    (a_lplain : PySem.W.nsIn K mainGlobals "_law_plain" = some (some (.ref f_lplain)))
    (l_lplain : K.lookup f_lplain = some ⟨oc_lplain, od_lplain, .func (PySem.W.fnOf "_law_plain" "_law_plain" (defArgs s_l_plain) (defBody s_l_plain) (defScope s_l_plain) .none kV_lplain dc_lplain pm_lplain an_lplain cd_lplain ct_lplain), sl_lplain⟩)
    (c_lplain : PySem.W.codeIn K cd_lplain "_law_plain" = true) (k_lplain : PySem.W.keepIn K (.ref f_lplain) = true)
    (a_lsay : PySem.W.nsIn K mainGlobals "_law_saying" = some (some (.ref f_lsay)))
    (l_lsay : K.lookup f_lsay = some ⟨oc_lsay, od_lsay, .func (PySem.W.fnOf "_law_saying" "_law_saying" (defArgs s_l_saying) (defBody s_l_saying) (defScope s_l_saying) .none kV_lsay dc_lsay pm_lsay an_lsay cd_lsay ct_lsay), sl_lsay⟩)
    (c_lsay : PySem.W.codeIn K cd_lsay "_law_saying" = true) (k_lsay : PySem.W.keepIn K (.ref f_lsay) = true)
    (a_lsets : PySem.W.nsIn K mainGlobals "_law_sets" = some (some (.ref f_lsets)))
    (l_lsets : K.lookup f_lsets = some ⟨oc_lsets, od_lsets, .func (PySem.W.fnOf "_law_sets" "_law_sets" (defArgs s_l_sets) (defBody s_l_sets) (defScope s_l_sets) .none kV_lsets dc_lsets pm_lsets an_lsets cd_lsets ct_lsets), sl_lsets⟩)
    (c_lsets : PySem.W.codeIn K cd_lsets "_law_sets" = true) (k_lsets : PySem.W.keepIn K (.ref f_lsets) = true)
    (a_ltrue : PySem.W.nsIn K mainGlobals "_law_true" = some (some (.ref f_ltrue)))
    (l_ltrue : K.lookup f_ltrue = some ⟨oc_ltrue, od_ltrue, .func (PySem.W.fnOf "_law_true" "_law_true" (defArgs s_l_true) (defBody s_l_true) (defScope s_l_true) .none kV_ltrue dc_ltrue pm_ltrue an_ltrue cd_ltrue ct_ltrue), sl_ltrue⟩)
    (c_ltrue : PySem.W.codeIn K cd_ltrue "_law_true" = true) (k_ltrue : PySem.W.keepIn K (.ref f_ltrue) = true)
    (a_laround : PySem.W.nsIn K mainGlobals "_law_sets_around" = some (some (.ref f_laround)))
    (l_laround : K.lookup f_laround = some ⟨oc_laround, od_laround, .func (PySem.W.fnOf "_law_sets_around" "_law_sets_around" (defArgs s_l_sets_around) (defBody s_l_sets_around) (defScope s_l_sets_around) .none kV_laround dc_laround pm_laround an_laround cd_laround ct_laround), sl_laround⟩)
    (c_laround : PySem.W.codeIn K cd_laround "_law_sets_around" = true) (k_laround : PySem.W.keepIn K (.ref f_laround) = true)
    (a_law : PySem.W.nsIn K mainGlobals "law" = some (some (.ref f_law)))
    (l_law : K.lookup f_law = some ⟨oc_law, od_law, .func (PySem.W.fnOf "law" "law" (defArgs s_law) (defBody s_law) (defScope s_law) .none kV_law dc_law pm_law an_law cd_law ct_law), sl_law⟩)
    (c_law : PySem.W.codeIn K cd_law "law" = true) (k_law : PySem.W.keepIn K (.ref f_law) = true)
    (z_range : PySem.W.nsIn K mainGlobals "range" = some none)
    (z_len : PySem.W.nsIn K mainGlobals "len" = some none)
    (z_reversed : PySem.W.nsIn K mainGlobals "reversed" = some none)
    (z_any : PySem.W.nsIn K mainGlobals "any" = some none)
    (z_max : PySem.W.nsIn K mainGlobals "max" = some none)
    (z_isinstance : PySem.W.nsIn K mainGlobals "isinstance" = some none)
    (z_bool : PySem.W.nsIn K mainGlobals "bool" = some none)
    (z_mw : PySem.W.nsIn K mainGlobals "MOST_WIDTH" = some (some (.int 16 tk))) :
    ∃ fd : FuncData, (∀ (s : Shared) (v : Value), BindsTo s fd ⟨[v], []⟩ [("_law_script", v)]) ∧ ∀ base : Heap, K.In base → base.Ns mainGlobals mg → FnOk l.prog w K mg base CX0 60 fa fd ["_law_script"] (spP K spLawD) := by
  have e := hfa.symm.trans (PySem.W.mg_of X G a_law)
  cases e
  have F_always := fun_mk (st := s_always) l_always c_always k_always
  have b_always := F_always.binds (ps := ["width"]) fun _ _ _ _ _ _ us hl => match us, hl with | [_], _ => rfl
  have g_always := PySem.W.mg_of X G a_always
  have F_spread := fun_mk (st := s_spread) l_spread c_spread k_spread
  have b_spread := F_spread.binds (ps := ["truths", "width", "wider"]) fun _ _ _ _ _ _ us hl => match us, hl with | [_, _, _], _ => rfl
  have g_spread := PySem.W.mg_of X G a_spread
  have F_fold := fun_mk (st := s_fold) l_fold c_fold k_fold
  have b_fold := F_fold.binds (ps := ["truths", "width", "wider"]) fun _ _ _ _ _ _ us hl => match us, hl with | [_, _, _], _ => rfl
  have g_fold := PySem.W.mg_of X G a_fold
  have F_sbs := fun_mk (st := s_set_side_by_side) l_sbs c_sbs k_sbs
  have b_sbs := F_sbs.binds (ps := ["width", "wider"]) fun _ _ _ _ _ _ us hl => match us, hl with | [_, _], _ => rfl
  have g_sbs := PySem.W.mg_of X G a_sbs
  have F_alone := fun_mk (st := s_set_alone) l_alone c_alone k_alone
  have b_alone := F_alone.binds (ps := ["choice", "many"]) fun _ _ _ _ _ _ us hl => match us, hl with | [_, _], _ => rfl
  have g_alone := PySem.W.mg_of X G a_alone
  have F_holds := fun_mk (st := s_holds) l_holds c_holds k_holds
  have b_holds := F_holds.binds (ps := ["leaf", "word", "around"]) fun _ _ _ _ _ _ us hl => match us, hl with | [_, _, _], _ => rfl
  have g_holds := PySem.W.mg_of X G a_holds
  have F_plc := fun_mk (st := s_some_place) l_plc c_plc k_plc
  have b_plc := F_plc.binds (ps := ["part", "word", "around", "width"]) fun _ _ _ _ _ _ us hl => match us, hl with | [_, _, _, _], _ => rfl
  have g_plc := PySem.W.mg_of X G a_plc
  have F_sst := fun_mk (st := s_some_set) l_sst c_sst k_sst
  have b_sst := F_sst.binds (ps := ["part", "word", "around", "width"]) fun _ _ _ _ _ _ us hl => match us, hl with | [_, _, _, _], _ => rfl
  have g_sst := PySem.W.mg_of X G a_sst
  have F_tr := fun_mk (st := s_truths_of) l_tr c_tr k_tr
  have b_tr := F_tr.binds (ps := ["part", "word", "around", "width"]) fun _ _ _ _ _ _ us hl => match us, hl with | [_, _, _, _], _ => rfl
  have g_tr := PySem.W.mg_of X G a_tr
  have F_true := fun_mk (st := s_true_of) l_true c_true k_true
  have b_true := F_true.binds (ps := ["saying", "word"]) fun _ _ _ _ _ _ us hl => match us, hl with | [_, _], _ => rfl
  have g_true := PySem.W.mg_of X G a_true
  have F_ldraw := fun_mk (st := s_l_draw) l_ldraw c_ldraw k_ldraw
  have b_ldraw := F_ldraw.binds (ps := ["_law_script", "_law_tape", "_law_many"]) fun _ _ _ _ _ _ us hl => match us, hl with | [_, _, _], _ => rfl
  have g_ldraw := PySem.W.mg_of X G a_ldraw
  have F_lmarks := fun_mk (st := s_l_marks) l_lmarks c_lmarks k_lmarks
  have b_lmarks := F_lmarks.binds (ps := ["_law_script", "_law_tape", "_law_many"]) fun _ _ _ _ _ _ us hl => match us, hl with | [_, _, _], _ => rfl
  have g_lmarks := PySem.W.mg_of X G a_lmarks
  have F_lworld := fun_mk (st := s_l_world) l_lworld c_lworld k_lworld
  have b_lworld := F_lworld.binds (ps := ["_law_script", "_law_tape"]) fun _ _ _ _ _ _ us hl => match us, hl with | [_, _], _ => rfl
  have g_lworld := PySem.W.mg_of X G a_lworld
  have F_lnear := fun_mk (st := s_l_near) l_lnear c_lnear k_lnear
  have b_lnear := F_lnear.binds (ps := ["_law_scope", "_law_sort"]) fun _ _ _ _ _ _ us hl => match us, hl with | [_, _], _ => rfl
  have g_lnear := PySem.W.mg_of X G a_lnear
  have F_lplain := fun_mk (st := s_l_plain) l_lplain c_lplain k_lplain
  have b_lplain := F_lplain.binds (ps := ["_law_script", "_law_tape", "_law_letters", "_law_scope"]) fun _ _ _ _ _ _ us hl => match us, hl with | [_, _, _, _], _ => rfl
  have g_lplain := PySem.W.mg_of X G a_lplain
  have F_lsay := fun_mk (st := s_l_saying) l_lsay c_lsay k_lsay
  have b_lsay := F_lsay.binds (ps := ["_law_script", "_law_tape", "_law_world_here", "_law_scope", "_law_deep"]) fun _ _ _ _ _ _ us hl => match us, hl with | [_, _, _, _, _], _ => rfl
  have g_lsay := PySem.W.mg_of X G a_lsay
  have F_lsets := fun_mk (st := s_l_sets) l_lsets c_lsets k_lsets
  have b_lsets := F_lsets.binds (ps := ["_law_size"]) fun _ _ _ _ _ _ us hl => match us, hl with | [_], _ => rfl
  have g_lsets := PySem.W.mg_of X G a_lsets
  have F_ltrue := fun_mk (st := s_l_true) l_ltrue c_ltrue k_ltrue
  have b_ltrue := F_ltrue.binds (ps := ["_law_saying_here", "_law_word", "_law_given"]) fun _ _ _ _ _ _ us hl => match us, hl with | [_, _, _], _ => rfl
  have g_ltrue := PySem.W.mg_of X G a_ltrue
  have F_laround := fun_mk (st := s_l_sets_around) l_laround c_laround k_laround
  have b_laround := F_laround.binds (ps := ["_law_saying_here"]) fun _ _ _ _ _ _ us hl => match us, hl with | [_], _ => rfl
  have g_laround := PySem.W.mg_of X G a_laround
  have F_law := fun_mk (st := s_law) l_law c_law k_law
  have b_law := F_law.binds (ps := ["_law_script"]) fun _ _ _ _ _ _ us hl => match us, hl with | [_], _ => rfl
  have g_law := PySem.W.mg_of X G a_law
  have m_range := PySem.W.mg_none_of X G z_range
  have m_len := PySem.W.mg_none_of X G z_len
  have m_reversed := PySem.W.mg_none_of X G z_reversed
  have m_any := PySem.W.mg_none_of X G z_any
  have m_max := PySem.W.mg_none_of X G z_max
  have m_isinstance := PySem.W.mg_none_of X G z_isinstance
  have m_bool := PySem.W.mg_none_of X G z_bool
  have m_mw := PySem.W.mg_of X G z_mw
  refine ⟨PySem.W.fnOf "law" "law" (defArgs s_law) (defBody s_law) (defScope s_law) .none kV_law dc_law pm_law an_law cd_law ct_law, fun s v => .of_eq rfl, fun base _ _ => ?_⟩
  have C_always := Cal.mk ⟨_, _, _, ok_always (P := l.prog) (w := w) (base := base) F_always, g_always, k_always, b_always⟩
  have C_spread := Cal.mk ⟨_, _, _, ok_spread (P := l.prog) (w := w) (base := base) F_spread m_range, g_spread, k_spread, b_spread⟩
  have C_fold := Cal.mk ⟨_, _, _, ok_fold (P := l.prog) (w := w) (base := base) F_fold m_range C_always, g_fold, k_fold, b_fold⟩
  have C_sbs := Cal.mk ⟨_, _, _, ok_side (P := l.prog) (w := w) (base := base) F_sbs m_range C_always, g_sbs, k_sbs, b_sbs⟩
  have C_alone := Cal.mk ⟨_, _, _, ok_alone (P := l.prog) (w := w) (base := base) F_alone m_range, g_alone, k_alone, b_alone⟩
  have C_holds := Cal.mk ⟨_, _, _, ok_holds (P := l.prog) (w := w) (base := base) F_holds, g_holds, k_holds, b_holds⟩
  have T : ∀ n : Nat, FnOk l.prog w K mg base CX0 (2 + 2 * n) f_tr (PySem.W.fnOf "truths_of" "truths_of" (defArgs s_truths_of) (defBody s_truths_of) (defScope s_truths_of) .none kV_tr dc_tr pm_tr an_tr cd_tr ct_tr) ["part", "word", "around", "width"] (spP K (spTr n)) := fun n => by
    induction n with
    | zero => exact tr_base F_tr
    | succ n ih =>
      have C_tr := Cal.mk ⟨_, _, _, ih, g_tr, k_tr, b_tr⟩
      have C_plc := Cal.mk ⟨_, _, _, ok_place (L := 2 + 2 * n) (by omega) F_plc m_range m_len C_always C_tr, g_plc, k_plc, b_plc⟩
      have C_sst := Cal.mk ⟨_, _, _, ok_set (L := 2 + 2 * n) (by omega) F_sst m_range m_len m_mw C_always C_sbs C_alone C_fold C_tr, g_sst, k_sst, b_sst⟩
      exact FnOk.mono (k := 2 + 2 * (n + 1)) (ok_truths_of (L := 2 + 2 * n) (by omega) F_tr C_always C_spread C_holds C_tr C_plc C_sst) (by omega)
  have C_tr := Cal.mk ⟨_, _, _, T 26, g_tr, k_tr, b_tr⟩
  have C_true := Cal.mk ⟨_, _, _, ok_true_of (n := 26) (by decide) F_true C_tr, g_true, k_true, b_true⟩
  have C_ldraw := Cal.mk ⟨_, _, _, ok_draw (P := l.prog) (w := w) (base := base) F_ldraw m_len, g_ldraw, k_ldraw, b_ldraw⟩
  have C_lmarks := Cal.mk ⟨_, _, _, ok_marks F_lmarks m_range C_ldraw, g_lmarks, k_lmarks, b_lmarks⟩
  have C_lworld := Cal.mk ⟨_, _, _, ok_world F_lworld m_range C_ldraw C_lmarks, g_lworld, k_lworld, b_lworld⟩
  have C_lnear := Cal.mk ⟨_, _, _, ok_near (P := l.prog) (w := w) (base := base) F_lnear m_reversed, g_lnear, k_lnear, b_lnear⟩
  have C_lplain := Cal.mk ⟨_, _, _, ok_plain F_lplain m_len C_ldraw C_lnear, g_lplain, k_lplain, b_lplain⟩
  have S : ∀ n : Nat, FnOk l.prog w K mg base CX0 (n + 3) f_lsay (PySem.W.fnOf "_law_saying" "_law_saying" (defArgs s_l_saying) (defBody s_l_saying) (defScope s_l_saying) .none kV_lsay dc_lsay pm_lsay an_lsay cd_lsay ct_lsay) ["_law_script", "_law_tape", "_law_world_here", "_law_scope", "_law_deep"] (spT K 1 (spSay n)) := fun n => by
    induction n with
    | zero => exact no_fn fun vs H Q E ⟨_, _, _, _, _, _, _, _, _, ⟨_, _, _, _, _, _, _, _, h, _⟩, _⟩ => absurd h (Nat.not_lt_zero _)
    | succ n ih => exact ok_saying F_lsay m_len C_ldraw C_lnear C_lplain (Cal.mk ⟨_, _, _, ih, g_lsay, k_lsay, b_lsay⟩)
  have C_lsay := Cal.mk ⟨_, _, _, S 5, g_lsay, k_lsay, b_lsay⟩
  have C_lsets := Cal.mk ⟨_, _, _, ok_sets (P := l.prog) (w := w) (base := base) F_lsets m_range, g_lsets, k_lsets, b_lsets⟩
  have U : ∀ n : Nat, FnOk l.prog w K mg base CX0 (n + 1) f_ltrue (PySem.W.fnOf "_law_true" "_law_true" (defArgs s_l_true) (defBody s_l_true) (defScope s_l_true) .none kV_ltrue dc_ltrue pm_ltrue an_ltrue cd_ltrue ct_ltrue) ["_law_saying_here", "_law_word", "_law_given"] (spP K (spLT n)) := fun n => by
    induction n with
    | zero => exact no_fn fun vs H Q E ⟨_, _, _, ⟨_, _, _, _, h, _⟩, _⟩ => absurd h (Nat.not_lt_zero _)
    | succ n ih => exact ok_ltrue F_ltrue m_range m_len m_any C_lsets (Cal.mk ⟨_, _, _, ih, g_ltrue, k_ltrue, b_ltrue⟩)
  have C_ltrue := Cal.mk ⟨_, _, _, U 26, g_ltrue, k_ltrue, b_ltrue⟩
  have V : ∀ n : Nat, FnOk l.prog w K mg base CX0 (n + 1) f_laround (PySem.W.fnOf "_law_sets_around" "_law_sets_around" (defArgs s_l_sets_around) (defBody s_l_sets_around) (defScope s_l_sets_around) .none kV_laround dc_laround pm_laround an_laround cd_laround ct_laround) ["_law_saying_here"] (spP K (spAr n)) := fun n => by
    induction n with
    | zero => exact no_fn fun vs H Q E ⟨_, _, _, ⟨_, _, h, _⟩, _⟩ => absurd h (Nat.not_lt_zero _)
    | succ n ih => exact ok_around F_laround m_max (Cal.mk ⟨_, _, _, ih, g_laround, k_laround, b_laround⟩)
  have C_laround := Cal.mk ⟨_, _, _, V 9, g_laround, k_laround, b_laround⟩
  exact (ok_law (L := 55) (by decide) F_law m_range m_len m_isinstance m_bool C_ldraw C_lworld C_lsay C_laround C_true C_ltrue).mono (by decide)
theorem sp_law {K : PySem.W.Frag} {H : Hp} {a : Addr} {ns : List Int} (hl : ns.length ≤ 63) (hO : Only H) (hS : SqL K H a (ns.map V.int)) : spP K spLawD [.ref a] H (fun v _ => v = .bl true) fun _ _ _ => False := by
  have hn : NM K H a (ns.map V.int) := by
    rcases hS with (hS | ⟨o, hS⟩) | hS
    · rcases hO a with h | ⟨o, xs, h⟩
      · rw [h] at hS; cases hS
      · rw [h] at hS; cases hS
    · exact .inl ⟨o, hS⟩
    · exact .inr (.inr hS)
  refine ⟨[scD ns], fun d => d = .bl true, Rs.cons ?_ Rs.nil, ⟨ns, rfl, hl, rfl⟩, fun d v H' e _ r => ?_⟩
  · unfold R; exact ⟨a, _, rfl, hn, Rs.ofInts ns⟩
  · subst e
    unfold R at r
    exact r
theorem walk {l : PySem.W.OpenLaw} {q : Program} {loose : List Str} {XP : (Str → Option Value) → Heap → Prop} {YP : World → Heap → Prop} {d : DefRec} {K : Params → PySem.W.Frag} (hn : l.most = some 63) (hdf : d.params.defaults = [])
    (hY : ∀ (w : World) (h : Heap), YP w h → (K w.params).In h)
    (F : ∀ (w : World) (mg : Str → Option Value) (fa : Addr) (h : Heap), (K w.params).In h → h.Ns mainGlobals mg → mg d.name = some (.ref fa) →
      ∃ fd : FuncData, (∀ (s : Shared) (u : Value), BindsTo s fd ⟨[u], []⟩ [("_law_script", u)]) ∧ ∀ base : Heap, (K w.params).In base → base.Ns mainGlobals mg → FnOk l.prog w (K w.params) mg base CX0 60 fa fd ["_law_script"] (spP (K w.params) spLawD)) :
    PySem.W.WalkO q loose XP YP l.row.toRowW d [] (fun f vs => PySem.call f vs) :=
  L2.walk_of (n := 63) (k := 60) (x := "_law_script") (CX := fun _ => CX0) (sp := fun w => spP (K w.params) spLawD) hn (by rw [sizeLine_eq]; decide) hdf ⟨rfl, by decide, by decide⟩ hY F (fun _ _ a ns hl hO hS => sp_law hl hO hS) fun _ _ _ _ _ z => z
end K9

open PySem PySem.W PyProof.Rows
set_option maxRecDepth 100000 in
set_option maxHeartbeats 0 in
theorem PySem.Challenge.cw_placesay_k09_true_by_trying_holds : PySem.Challenge.rw_placesay_k09_true_by_trying.Holds := by
  w_on; o_law; k_head; (case hw => w_witness2)
  k_fill
  refine K9.walk (l := PySem.Challenge.rw_placesay_k09_true_by_trying) rfl rfl (fun w h Y => PySem.W.kIn_of Y) ?F
  case F =>
    intro w mg fa h KX G hmg
    refine' K9.all_mk KX G hmg ?a_always ?l_always ?c_always ?k_always ?a_spread ?l_spread ?c_spread ?k_spread ?a_fold ?l_fold ?c_fold ?k_fold ?a_sbs ?l_sbs ?c_sbs ?k_sbs ?a_alone ?l_alone ?c_alone ?k_alone ?a_holds ?l_holds ?c_holds ?k_holds ?a_plc ?l_plc ?c_plc ?k_plc ?a_sst ?l_sst ?c_sst ?k_sst ?a_tr ?l_tr ?c_tr ?k_tr ?a_true ?l_true ?c_true ?k_true ?a_ldraw ?l_ldraw ?c_ldraw ?k_ldraw ?a_lmarks ?l_lmarks ?c_lmarks ?k_lmarks ?a_lworld ?l_lworld ?c_lworld ?k_lworld ?a_lnear ?l_lnear ?c_lnear ?k_lnear ?a_lplain ?l_lplain ?c_lplain ?k_lplain ?a_lsay ?l_lsay ?c_lsay ?k_lsay ?a_lsets ?l_lsets ?c_lsets ?k_lsets ?a_ltrue ?l_ltrue ?c_ltrue ?k_ltrue ?a_laround ?l_laround ?c_laround ?k_laround ?a_law ?l_law ?c_law ?k_law ?z_range ?z_len ?z_reversed ?z_any ?z_max ?z_isinstance ?z_bool ?z_mw
    (case a_always => k_is)
    (case l_always => k_is)
    (case c_always => k_is)
    (case k_always => k_is)
    (case a_spread => k_is)
    (case l_spread => k_is)
    (case c_spread => k_is)
    (case k_spread => k_is)
    (case a_fold => k_is)
    (case l_fold => k_is)
    (case c_fold => k_is)
    (case k_fold => k_is)
    (case a_sbs => k_is)
    (case l_sbs => k_is)
    (case c_sbs => k_is)
    (case k_sbs => k_is)
    (case a_alone => k_is)
    (case l_alone => k_is)
    (case c_alone => k_is)
    (case k_alone => k_is)
    (case a_holds => k_is)
    (case l_holds => k_is)
    (case c_holds => k_is)
    (case k_holds => k_is)
    (case a_plc => k_is)
    (case l_plc => k_is)
    (case c_plc => k_is)
    (case k_plc => k_is)
    (case a_sst => k_is)
    (case l_sst => k_is)
    (case c_sst => k_is)
    (case k_sst => k_is)
    (case a_tr => k_is)
    (case l_tr => k_is)
    (case c_tr => k_is)
    (case k_tr => k_is)
    (case a_true => k_is)
    (case l_true => k_is)
    (case c_true => k_is)
    (case k_true => k_is)
    (case a_ldraw => k_is)
    (case l_ldraw => k_is)
    (case c_ldraw => k_is)
    (case k_ldraw => k_is)
    (case a_lmarks => k_is)
    (case l_lmarks => k_is)
    (case c_lmarks => k_is)
    (case k_lmarks => k_is)
    (case a_lworld => k_is)
    (case l_lworld => k_is)
    (case c_lworld => k_is)
    (case k_lworld => k_is)
    (case a_lnear => k_is)
    (case l_lnear => k_is)
    (case c_lnear => k_is)
    (case k_lnear => k_is)
    (case a_lplain => k_is)
    (case l_lplain => k_is)
    (case c_lplain => k_is)
    (case k_lplain => k_is)
    (case a_lsay => k_is)
    (case l_lsay => k_is)
    (case c_lsay => k_is)
    (case k_lsay => k_is)
    (case a_lsets => k_is)
    (case l_lsets => k_is)
    (case c_lsets => k_is)
    (case k_lsets => k_is)
    (case a_ltrue => k_is)
    (case l_ltrue => k_is)
    (case c_ltrue => k_is)
    (case k_ltrue => k_is)
    (case a_laround => k_is)
    (case l_laround => k_is)
    (case c_laround => k_is)
    (case k_laround => k_is)
    (case a_law => k_is)
    (case l_law => k_is)
    (case c_law => k_is)
    (case k_law => k_is)
    (case z_range => k_is)
    (case z_len => k_is)
    (case z_reversed => k_is)
    (case z_any => k_is)
    (case z_max => k_is)
    (case z_isinstance => k_is)
    (case z_bool => k_is)
    (case z_mw => k_is)
