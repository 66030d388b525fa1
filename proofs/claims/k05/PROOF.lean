import PyProof.Rows.All
import Wide.All
import OpenK.AllK
import Wide.FinOn
import HandS.Base
import HandS.Call
import HandS.List
import HandS.Comp
import HandS.Dict
import HandS.Iter
import HandS.Text
import HandS.Ends
import HandS.Nested
import HandS.WideBits
import HandS.Words
import HandS.IsInst
import HandS.SortInts
import HandS.WordsList
import HandS.Deep
import HandS.Strs
import HandS.ForExc
import HandS.TryMany
import HandS.Small
import HandS.FStr
import HandS.ExcIs
import HandS.RaiseMore
import HandS.NestedK
import HandS.WordsExc
import HandS.Zip
import HandS.Conv
import HandS.SetFor
import HandS.Set
import HandS.EndTab
import KE.KDictDisplayH
import KE.KDictZip
import KE.KDictList
import KE.KTurns
import HandS.Rev
import HandS.SortKw
import KE.SortKeyHeap
import HandS.SetKeys
import KE.KDictCopyH
import HandS.DictComp
import HandS.Walk
import HandS.WordsDict
import HandS.SetBool
import HandS.TupLen
import PySem.Challenge.RW_placesay_k05_whole_least
set_option Elab.async false
set_option linter.all false
set_option maxRecDepth 100000
set_option maxHeartbeats 2000000
namespace DL
open PySem L2

/-- data, as trees -/
inductive D where
  | non | bl (b : Bool) | int (i : Int) | str (s : Str) | tup (xs : List D) | lst (xs : List D)
  | fz (xs : List D) | dic (ks : List Key) (ds : List D) | dit (ks : List (List Key)) (ds : List D)
  /-- a list of which no more is known than that it has at most n items -/
  | un (n : Nat)
  /-- a tuple that is known to be a plain object: one that .index may be asked of -/
  | tux (xs : List D)
  /-- a tuple of whole numbers, texts: a key -/
  | tk (ks : List Key)
  /-- a thing that is not looked into -/
  | obj (φ : V → Prop)
  /-- the same, that leans on all that H0 knows -/
  | clo (H0 : Hp) (φ : V → Prop)
instance : Inhabited D := ⟨.non⟩

/-- the tables of code objects that a law's defs may write, each with the names of what it tells -/
class Tabs where
  T : List NdefX.NTab
variable [Tabs]
/-- no table -/
class Nt (o : HO) : Prop where
  h : ∀ ps : Array Value, o ≠ .tbl ps
instance {x} : Nt (.lst x) := ⟨fun _ z => by cases z⟩
instance {x} : Nt (.tup x) := ⟨fun _ z => by cases z⟩
instance {x} : Nt (.dK x) := ⟨fun _ z => by cases z⟩
instance {x} : Nt (.dT x) := ⟨fun _ z => by cases z⟩
instance {x y} : Nt (.set x y) := ⟨fun _ z => by cases z⟩
instance {x y z} : Nt (.ins x y z) := ⟨fun _ z => by cases z⟩
instance {x} : Nt (.own x) := ⟨fun _ z => by cases z⟩
instance {x} : Nt (.xd x) := ⟨fun _ z => by cases z⟩
instance {x y} : Nt (.met x y) := ⟨fun _ z => by cases z⟩
instance {x y} : Nt (.rng x y) := ⟨fun _ z => by cases z⟩
instance {x y} : Nt (.frz x y) := ⟨fun _ z => by cases z⟩
instance {x} : Nt (.ext x) := ⟨fun _ z => by cases z⟩
instance {f F} : Nt (NdefX.FnO f F) := ⟨fun _ => NdefX.fnO_ne _⟩
/-- what no statement writes -/
def Im : HO → Prop
  | .lst _ => False
  | .dK _ => False
  | .dT _ => False
  | _ => True
/-- a list that stands still: frozen, or written in the module -/
def NM (K : PySem.W.Frag) (H : Hp) (a : Addr) (vs : List V) : Prop := (∃ o, H a = some (.frz o (.lst vs))) ∨ SqL K (fun _ => none) a vs
theorem NM.seq {K : PySem.W.Frag} {H : Hp} {a : Addr} {vs : List V} (h : NM K H a vs) : SqL K H a vs := by
  rcases h with ⟨o, h⟩ | (h | h)
  · exact .inl (.inr ⟨o, h⟩)
  · rcases h with h | ⟨o, h⟩ <;> cases h
  · exact .inr h

mutual
/-- v stands for the data d in H; G holds of each list's and dict's address in it -/
def R (K : PySem.W.Frag) (G : Addr → Prop) (H : Hp) : D → V → Prop
  | .non, v => v = .non
  | .bl b, v => v = .bl b
  | .int i, v => v = .int i
  | .str s, v => v = .str s
  | .tup ds, v => ∃ a vs, v = .ref a ∧ SqT K H a vs ∧ Rs K G H ds vs
  | .lst ds, v => ∃ a vs, v = .ref a ∧ H a = some (.lst vs) ∧ G a ∧ Rs K G H ds vs
  | .fz ds, v => ∃ a vs, v = .ref a ∧ NM K H a vs ∧ Rs K G H ds vs
  | .dic ks ds, v => ∃ a vs, v = .ref a ∧ H a = some (.dK (ks.zip vs)) ∧ ks.length = vs.length ∧ G a ∧ Rs K G H ds vs
  | .dit ks ds, v => ∃ a vs, v = .ref a ∧ H a = some (.dT (ks.zip vs)) ∧ ks.length = vs.length ∧ G a ∧ Rs K G H ds vs
  | .un n, v => ∃ a vs, v = .ref a ∧ H a = some (.lst vs) ∧ vs.length ≤ n ∧ G a
  | .tux ds, v => ∃ a vs o, v = .ref a ∧ H a = some (.frz o (.tup vs)) ∧ o.cls = .type "tuple" ∧ o.dict = none ∧ Rs K G H ds vs
  | .tk ks, v => ∃ a, v = .ref a ∧ H a = some (.tup (ks.map kV))
  | .obj φ, v => (∃ a, v = .ref a) ∧ φ v
  | .clo H0 φ, v => (∃ a, v = .ref a) ∧ φ v ∧ ∀ a o, H0 a = some o → ∀ [Nt o], H a = some o ∧ (Im o ∨ G a)
def Rs (K : PySem.W.Frag) (G : Addr → Prop) (H : Hp) : List D → List V → Prop
  | [], vs => vs = []
  | d :: ds, vs => ∃ v r, vs = v :: r ∧ R K G H d v ∧ Rs K G H ds r
end

/-- from H to H': what is not written stays, and so does what G names -/
def Keep (G : Addr → Prop) (H H' : Hp) : Prop := ∀ a o, H a = some o → (G a ∨ Im o) → ∀ [Nt o], H' a = some o
theorem Keep.tup {K : PySem.W.Frag} {G : Addr → Prop} {H H' : Hp} (k : Keep G H H') {a : Addr} {vs : List V} (h : SqT K H a vs) : SqT K H' a vs := by
  rcases h with (h | ⟨o, h⟩) | h
  · exact .inl (.inl (k _ _ h (.inr True.intro)))
  · exact .inl (.inr ⟨o, k _ _ h (.inr True.intro)⟩)
  · exact .inr h
theorem Keep.nm {K : PySem.W.Frag} {G : Addr → Prop} {H H' : Hp} (k : Keep G H H') {a : Addr} {vs : List V} (h : NM K H a vs) : NM K H' a vs := by
  rcases h with ⟨o, h⟩ | h
  · exact .inl ⟨o, k _ _ h (.inr True.intro)⟩
  · exact .inr h

mutual
theorem R.mono {K : PySem.W.Frag} {G G' : Addr → Prop} {H H' : Hp} (k : Keep G H H') (g : ∀ a, H a ≠ none → G a → G' a) : ∀ {d : D} {v : V}, R K G H d v → R K G' H' d v
  | .non, _, h => by unfold R at h ⊢; exact h
  | .bl _, _, h => by unfold R at h ⊢; exact h
  | .int _, _, h => by unfold R at h ⊢; exact h
  | .str _, _, h => by unfold R at h ⊢; exact h
  | .tup _, _, h => by
    unfold R at h ⊢
    obtain ⟨a, vs, e, s, r⟩ := h
    exact ⟨a, vs, e, k.tup s, Rs.mono k g r⟩
  | .lst _, _, h => by
    unfold R at h ⊢
    obtain ⟨a, vs, e, s, ga, r⟩ := h
    exact ⟨a, vs, e, k a _ s (.inl ga), g a (by rw [s]; exact Option.some_ne_none _) ga, Rs.mono k g r⟩
  | .fz _, _, h => by
    unfold R at h ⊢
    obtain ⟨a, vs, e, s, r⟩ := h
    exact ⟨a, vs, e, k.nm s, Rs.mono k g r⟩
  | .dic _ _, _, h => by
    unfold R at h ⊢
    obtain ⟨a, vs, e, s, l, ga, r⟩ := h
    exact ⟨a, vs, e, k a _ s (.inl ga), l, g a (by rw [s]; exact Option.some_ne_none _) ga, Rs.mono k g r⟩
  | .dit _ _, _, h => by
    unfold R at h ⊢
    obtain ⟨a, vs, e, s, l, ga, r⟩ := h
    exact ⟨a, vs, e, k a _ s (.inl ga), l, g a (by rw [s]; exact Option.some_ne_none _) ga, Rs.mono k g r⟩
  | .un _, _, h => by
    unfold R at h ⊢
    obtain ⟨a, vs, e, s, l, ga⟩ := h
    exact ⟨a, vs, e, k a _ s (.inl ga), l, g a (by rw [s]; exact Option.some_ne_none _) ga⟩
  | .tux _, _, h => by
    unfold R at h ⊢
    obtain ⟨a, vs, o, e, s, c, dn, r⟩ := h
    exact ⟨a, vs, o, e, k a _ s (.inr True.intro), c, dn, Rs.mono k g r⟩
  | .tk _, _, h => by
    unfold R at h ⊢
    obtain ⟨a, e, s⟩ := h
    exact ⟨a, e, k a _ s (.inr True.intro)⟩
  | .obj _, _, h => by unfold R at h ⊢; exact h
  | .clo _ _, _, h => by
    unfold R at h ⊢
    exact ⟨h.1, h.2.1, fun a o e => let ⟨e1, e2⟩ := h.2.2 a o e; ⟨k a o e1 e2.symm, e2.imp id (g a (by rw [e1]; exact Option.some_ne_none _))⟩⟩
theorem Rs.mono {K : PySem.W.Frag} {G G' : Addr → Prop} {H H' : Hp} (k : Keep G H H') (g : ∀ a, H a ≠ none → G a → G' a) : ∀ {ds : List D} {vs : List V}, Rs K G H ds vs → Rs K G' H' ds vs
  | [], _, h => by unfold Rs at h ⊢; exact h
  | _ :: _, _, h => by
    unfold Rs at h ⊢
    obtain ⟨v, r, e, h1, h2⟩ := h
    exact ⟨v, r, e, R.mono k g h1, Rs.mono k g h2⟩
end
theorem Keep.refl {G : Addr → Prop} {H : Hp} : Keep G H H := fun _ _ h _ => h
theorem Keep.weak {G G' : Addr → Prop} {H H' : Hp} (k : Keep G H H') (g : ∀ a, G' a → G a) : Keep G' H H' := fun a o h q => k a o h (q.imp (g a) id)

/-! ### lists of data -/
section
variable {K : PySem.W.Frag} {G : Addr → Prop} {H : Hp}
theorem Rs.nil : Rs K G H [] [] := by unfold Rs; rfl
theorem Rs.cons {d : D} {ds : List D} {v : V} {vs : List V} (h : R K G H d v) (t : Rs K G H ds vs) : Rs K G H (d :: ds) (v :: vs) := by unfold Rs; exact ⟨v, vs, rfl, h, t⟩
theorem Rs.len : ∀ {ds : List D} {vs : List V}, Rs K G H ds vs → ds.length = vs.length
  | [], _, h => by unfold Rs at h; subst h; rfl
  | _ :: _, _, h => by
    unfold Rs at h
    obtain ⟨v, r, rfl, _, t⟩ := h
    rw [List.length_cons, List.length_cons, Rs.len t]
theorem Rs.get : ∀ {ds : List D} {vs : List V} {i : Nat} {d : D}, Rs K G H ds vs → ds[i]? = some d → ∃ v, vs[i]? = some v ∧ R K G H d v
  | [], _, _, _, _, e => by simp at e
  | x :: ds, _, 0, d, h, e => by
    unfold Rs at h
    obtain ⟨v, r, rfl, h1, _⟩ := h
    simp at e; subst e
    exact ⟨v, rfl, h1⟩
  | x :: ds, _, i + 1, d, h, e => by
    unfold Rs at h
    obtain ⟨v, r, rfl, _, t⟩ := h
    obtain ⟨u, h1, h2⟩ := Rs.get (i := i) t (by simpa using e)
    exact ⟨u, by simpa using h1, h2⟩
theorem Rs.getV : ∀ {ds : List D} {vs : List V} {i : Nat} {v : V}, Rs K G H ds vs → vs[i]? = some v → ∃ d, ds[i]? = some d ∧ R K G H d v
  | [], _, _, _, h, e => by unfold Rs at h; subst h; simp at e
  | x :: ds, _, 0, d, h, e => by
    unfold Rs at h
    obtain ⟨v, r, rfl, h1, _⟩ := h
    simp at e; subst e
    exact ⟨x, rfl, h1⟩
  | x :: ds, _, i + 1, d, h, e => by
    unfold Rs at h
    obtain ⟨v, r, rfl, _, t⟩ := h
    obtain ⟨u, h1, h2⟩ := Rs.getV (i := i) t (by simpa using e)
    exact ⟨u, by simpa using h1, h2⟩
theorem Rs.append : ∀ {ds es : List D} {vs ws : List V}, Rs K G H ds vs → Rs K G H es ws → Rs K G H (ds ++ es) (vs ++ ws)
  | [], _, _, _, h, t => by unfold Rs at h; subst h; exact t
  | _ :: _, _, _, _, h, t => by
    unfold Rs at h
    obtain ⟨v, r, rfl, h1, h2⟩ := h
    exact Rs.cons h1 (Rs.append h2 t)
theorem Rs.snoc {ds : List D} {vs : List V} {d : D} {v : V} (h : Rs K G H ds vs) (t : R K G H d v) : Rs K G H (ds ++ [d]) (vs ++ [v]) := h.append (.cons t .nil)
theorem Rs.take : ∀ {ds : List D} {vs : List V} (n : Nat), Rs K G H ds vs → Rs K G H (ds.take n) (vs.take n)
  | _, _, 0, _ => by rw [List.take_zero, List.take_zero]; exact Rs.nil
  | [], _, _ + 1, h => by unfold Rs at h; subst h; exact Rs.nil
  | _ :: _, _, n + 1, h => by
    unfold Rs at h
    obtain ⟨v, r, rfl, h1, h2⟩ := h
    exact Rs.cons h1 (Rs.take n h2)
theorem Rs.drop : ∀ {ds : List D} {vs : List V} (n : Nat), Rs K G H ds vs → Rs K G H (ds.drop n) (vs.drop n)
  | _, _, 0, h => h
  | [], _, _ + 1, h => by unfold Rs at h; subst h; exact Rs.nil
  | _ :: _, _, n + 1, h => by
    unfold Rs at h
    obtain ⟨v, r, rfl, h1, h2⟩ := h
    exact Rs.drop n h2
theorem Rs.set : ∀ {ds : List D} {vs : List V} (i : Nat) {d : D} {v : V}, Rs K G H ds vs → R K G H d v → Rs K G H (ds.set i d) (vs.set i v)
  | [], _, _, _, _, h, _ => by unfold Rs at h; subst h; exact Rs.nil
  | _ :: _, _, 0, _, _, h, q => by
    unfold Rs at h
    obtain ⟨v, r, rfl, h1, h2⟩ := h
    exact Rs.cons q h2
  | _ :: _, _, i + 1, _, _, h, q => by
    unfold Rs at h
    obtain ⟨v, r, rfl, h1, h2⟩ := h
    exact Rs.cons h1 (Rs.set i h2 q)
theorem Rs.ints : ∀ {ns : List Int} {vs : List V}, Rs K G H (ns.map D.int) vs → vs = ns.map V.int
  | [], _, h => by unfold List.map Rs at h; subst h; rfl
  | n :: ns, _, h => by
    rw [List.map_cons] at h
    unfold Rs at h
    obtain ⟨v, r, rfl, h1, h2⟩ := h
    unfold R at h1; subst h1
    rw [List.map_cons, Rs.ints h2]
theorem Rs.bls : ∀ {ns : List Bool} {vs : List V}, Rs K G H (ns.map D.bl) vs → vs = ns.map V.bl
  | [], _, h => by unfold List.map Rs at h; subst h; rfl
  | n :: ns, _, h => by
    rw [List.map_cons] at h
    unfold Rs at h
    obtain ⟨v, r, rfl, h1, h2⟩ := h
    unfold R at h1; subst h1
    rw [List.map_cons, Rs.bls h2]
theorem Rs.strs : ∀ {ns : List Str} {vs : List V}, Rs K G H (ns.map D.str) vs → vs = ns.map V.str
  | [], _, h => by unfold List.map Rs at h; subst h; rfl
  | n :: ns, _, h => by
    rw [List.map_cons] at h
    unfold Rs at h
    obtain ⟨v, r, rfl, h1, h2⟩ := h
    unfold R at h1; subst h1
    rw [List.map_cons, Rs.strs h2]
theorem Rs.ofInts : ∀ (ns : List Int), Rs K G H (ns.map D.int) (ns.map V.int)
  | [] => Rs.nil
  | n :: ns => Rs.cons (by unfold R; rfl) (Rs.ofInts ns)
end

/-! ### data without a list or dict in it -/
mutual
def nol : D → Bool
  | .tup ds => nols ds
  | .tux ds => nols ds
  | .clo _ _ => false
  | .lst _ => false
  | .dic _ _ => false
  | .dit _ _ => false
  | .un _ => false
  | .fz ds => nols ds
  | _ => true
def nols : List D → Bool
  | [] => true
  | d :: ds => nol d && nols ds
end
mutual
theorem R.nol {K : PySem.W.Frag} {G G' : Addr → Prop} {H : Hp} : ∀ {d : D} {v : V}, nol d = true → R K G H d v → R K G' H d v
  | .non, _, _, h => by unfold R at h ⊢; exact h
  | .bl _, _, _, h => by unfold R at h ⊢; exact h
  | .int _, _, _, h => by unfold R at h ⊢; exact h
  | .str _, _, _, h => by unfold R at h ⊢; exact h
  | .tup _, _, q, h => by
    unfold R at h ⊢
    unfold DL.nol at q
    obtain ⟨a, vs, e, s, r⟩ := h
    exact ⟨a, vs, e, s, Rs.nol q r⟩
  | .lst _, _, q, _ => by unfold DL.nol at q; cases q
  | .fz _, _, q, h => by
    unfold R at h ⊢
    unfold DL.nol at q
    obtain ⟨a, vs, e, s, r⟩ := h
    exact ⟨a, vs, e, s, Rs.nol q r⟩
  | .dic _ _, _, q, _ => by unfold DL.nol at q; cases q
  | .dit _ _, _, q, _ => by unfold DL.nol at q; cases q
  | .un _, _, q, _ => by unfold DL.nol at q; cases q
  | .tux _, _, q, h => by
    unfold R at h ⊢
    unfold DL.nol at q
    obtain ⟨a, vs, o, e, s, c, dn, r⟩ := h
    exact ⟨a, vs, o, e, s, c, dn, Rs.nol q r⟩
  | .tk _, _, _, h => by unfold R at h ⊢; exact h
  | .obj _, _, _, h => by unfold R at h ⊢; exact h
  | .clo _ _, _, q, _ => by unfold DL.nol at q; cases q
theorem Rs.nol {K : PySem.W.Frag} {G G' : Addr → Prop} {H : Hp} : ∀ {ds : List D} {vs : List V}, nols ds = true → Rs K G H ds vs → Rs K G' H ds vs
  | [], _, _, h => by unfold Rs at h ⊢; exact h
  | _ :: _, _, q, h => by
    unfold Rs at h ⊢
    unfold nols at q
    rw [Bool.and_eq_true] at q
    obtain ⟨v, r, e, h1, h2⟩ := h
    exact ⟨v, r, e, R.nol q.1 h1, Rs.nol q.2 h2⟩
end
theorem nols_all : ∀ {ds : List D}, nols ds = true ↔ ∀ d ∈ ds, nol d = true
  | [] => by simp [nols]
  | d :: ds => by
    unfold nols
    rw [Bool.and_eq_true, nols_all (ds := ds)]
    simp

/-! ### how new a thing's lists are: o any, p there at the base, h made since, n made in this expression, z no list in it at all -/
inductive Fr where
  | o | p | h | n | z
  deriving DecidableEq
/-- stored: no longer of this expression -/
def fdn : Fr → Fr
  | .n => .h
  | f => f
/-- of a new list or dict whose parts are f -/
def cf : Fr → Fr
  | .p => .o
  | .z => .n
  | f => f
structure Bx where
  H0 : Hp
  Mp : List Addr
  Av : List Addr
def Bx.add (B : Bx) (p : Addr) : Bx := { B with Av := p :: B.Av }
def bas (f : Fr) (x : Option HO) : Prop := match f with
  | .o => True
  | .p => x ≠ none
  | .z => False
  | _ => x = none
theorem bas_n {f : Fr} {x : Option HO} (h : bas f x) (e : f = .n) : x = none := by subst e; exact h
theorem bas_fdn {f : Fr} {x : Option HO} (h : bas f x) : bas (fdn f) x := by cases f <;> exact h
theorem bas_cf {f : Fr} {x : Option HO} (h : bas f x) : bas (cf f) x := by cases f <;> first | exact h | exact True.intro | exact h.elim
theorem bas_new {f : Fr} {x : Option HO} (h : x = none) : bas (cf f) x := by cases f <;> first | exact h | exact True.intro
def GF (B : Bx) (M : Addr → Prop) (Hs : Hp) (f : Fr) (a : Addr) : Prop := ¬ M a ∧ a ∉ B.Av ∧ bas f (B.H0 a) ∧ (f = .n → Hs a = none)

/-- what is known of a slot -/
inductive Sl where
  | no
  | val (d : D) (f : Fr)
  /-- a list that may be changed here: made here -/
  | ml (ds : List D) (f : Fr)
  /-- the k-th list that was handed in to be changed -/
  | mp (k : Nat) (ds : List D)
  | md (ks : List Key) (ds : List D) (f : Fr)
  | mt (ks : List (List Key)) (ds : List D) (f : Fr)
instance : Inhabited Sl := ⟨.no⟩
abbrev En := List Sl
def Sl.isM : Sl → Bool
  | .ml _ _ => true
  | .mp _ _ => true
  | .md _ _ _ => true
  | .mt _ _ _ => true
  | _ => false
def mset (σ : L2.St) (ρ : En) (a : Addr) : Prop := ∃ (i : Nat) (s : Sl), ρ[i]? = some s ∧ s.isM = true ∧ σ[i]? = some (some (.ref a))

def SlOk (K : PySem.W.Frag) (B : Bx) (H : Hp) (σ : L2.St) (M : Addr → Prop) (i : Nat) : Sl → Prop
  | .no => True
  | .val d f => ∃ v, σ[i]? = some (some v) ∧ R K (GF B M B.H0 f) H d v
  | .ml ds f => ∃ p vs, σ[i]? = some (some (.ref p)) ∧ H p = some (.lst vs) ∧ Rs K (GF B M B.H0 f) H ds vs ∧ B.H0 p = none ∧ p ∉ B.Av
  | .mp k ds => ∃ p vs, σ[i]? = some (some (.ref p)) ∧ H p = some (.lst vs) ∧ Rs K (fun _ => False) H ds vs ∧ B.Mp[k]? = some p ∧ p ∉ B.Av
  | .md ks ds f => ∃ p vs, σ[i]? = some (some (.ref p)) ∧ H p = some (.dK (ks.zip vs)) ∧ ks.length = vs.length ∧ Rs K (GF B M B.H0 f) H ds vs ∧ B.H0 p = none ∧ p ∉ B.Av
  | .mt ks ds f => ∃ p vs, σ[i]? = some (some (.ref p)) ∧ H p = some (.dT (ks.zip vs)) ∧ ks.length = vs.length ∧ Rs K (GF B M B.H0 f) H ds vs ∧ B.H0 p = none ∧ p ∉ B.Av

structure Ok (K : PySem.W.Frag) (B : Bx) (H : Hp) (σ : L2.St) (ρ : En) : Prop where
  len : ρ.length = σ.length
  dom : ∀ a, B.H0 a ≠ none → H a ≠ none
  av : ∀ a ∈ B.Av, H a ≠ none
  ext : ∀ a o, B.H0 a = some o → a ∉ B.Mp → ∀ [Nt o], H a = some o
  sl : ∀ (i : Nat) (s : Sl), ρ[i]? = some s → SlOk K B H σ (mset σ ρ) i s
  inj : ∀ (i j : Nat) (s t : Sl) (a : Addr), ρ[i]? = some s → s.isM = true → ρ[j]? = some t → t.isM = true → σ[i]? = some (some (.ref a)) → σ[j]? = some (some (.ref a)) → i = j
  tb : NdefX.TabsN Tabs.T H

/-- the change by an expression -/
structure Stp (σ : L2.St) (H : Hp) (ρ : En) (H' : Hp) (ρ' : En) : Prop where
  keep : Keep (fun a => ¬ mset σ ρ a) H H'
  dom : ∀ a, H a ≠ none → H' a ≠ none
  sub : ∀ a, mset σ ρ' a → mset σ ρ a
theorem Stp.refl {σ : L2.St} {H : Hp} {ρ : En} : Stp σ H ρ H ρ := ⟨Keep.refl, fun _ h => h, fun _ h => h⟩
theorem Stp.trans {σ : L2.St} {H H1 H2 : Hp} {ρ ρ1 ρ2 : En} (a : Stp σ H ρ H1 ρ1) (b : Stp σ H1 ρ1 H2 ρ2) : Stp σ H ρ H2 ρ2 :=
  ⟨fun x o h q => b.keep x o (a.keep x o h q) (q.imp (fun z w => z (a.sub x w)) id), fun x h => b.dom x (a.dom x h), fun x h => a.sub x (b.sub x h)⟩

/-- what an expression gives -/
inductive Rv where
  | v (d : D) (f : Fr)
  /-- a list, dict that nothing else holds; f: of what is in it -/
  | nl (ds : List D) (f : Fr)
  | nd (ks : List Key) (ds : List D) (f : Fr)
  | nt (ks : List (List Key)) (ds : List D) (f : Fr)
  /-- what the slot i holds -/
  | m (i : Nat)
def RelR (K : PySem.W.Frag) (B : Bx) (Hs H : Hp) (σ : L2.St) (ρ : En) (v : V) : Rv → Prop
  | .v d f => R K (GF B (mset σ ρ) Hs f) H d v
  | .nl ds f => ∃ p vs, v = .ref p ∧ H p = some (.lst vs) ∧ Hs p = none ∧ ¬ mset σ ρ p ∧ p ∉ B.Av ∧ Ok K (B.add p) H σ ρ ∧ Rs K (GF (B.add p) (mset σ ρ) Hs f) H ds vs
  | .nd ks ds f => ∃ p vs, v = .ref p ∧ H p = some (.dK (ks.zip vs)) ∧ ks.length = vs.length ∧ Hs p = none ∧ ¬ mset σ ρ p ∧ p ∉ B.Av ∧ Ok K (B.add p) H σ ρ ∧ Rs K (GF (B.add p) (mset σ ρ) Hs f) H ds vs
  | .nt ks ds f => ∃ p vs, v = .ref p ∧ H p = some (.dT (ks.zip vs)) ∧ ks.length = vs.length ∧ Hs p = none ∧ ¬ mset σ ρ p ∧ p ∉ B.Av ∧ Ok K (B.add p) H σ ρ ∧ Rs K (GF (B.add p) (mset σ ρ) Hs f) H ds vs
  | .m i => σ[i]? = some (some v) ∧ ∃ s : Sl, ρ[i]? = some s ∧ s ≠ .no

/-- what is seen of a result: the data, how new its parts are -/
structure Ob where
  d : D
  f : Fr
def obS : Sl → Ob
  | .no => ⟨.non, .o⟩
  | .val d f => ⟨d, fdn f⟩
  | .ml ds f => ⟨.lst ds, fdn f⟩
  | .mp _ ds => ⟨.lst ds, .n⟩
  | .md ks ds f => ⟨.dic ks ds, fdn f⟩
  | .mt ks ds f => ⟨.dit ks ds, fdn f⟩
def ob (ρ : En) : Rv → Ob
  | .v d f => ⟨d, f⟩
  | .nl ds f => ⟨.lst ds, cf f⟩
  | .nd ks ds f => ⟨.dic ks ds, cf f⟩
  | .nt ks ds f => ⟨.dit ks ds, cf f⟩
  | .m i => obS (ρ.getD i .no)
/-- v stands for what is seen: as R, the top list or dict at any address -/
def RO (K : PySem.W.Frag) (G : Addr → Prop) (H : Hp) (d : D) (v : V) : Prop := match d with
  | .lst ds => ∃ a vs, v = .ref a ∧ H a = some (.lst vs) ∧ Rs K G H ds vs
  | .dic ks ds => ∃ a vs, v = .ref a ∧ H a = some (.dK (ks.zip vs)) ∧ ks.length = vs.length ∧ Rs K G H ds vs
  | .dit ks ds => ∃ a vs, v = .ref a ∧ H a = some (.dT (ks.zip vs)) ∧ ks.length = vs.length ∧ Rs K G H ds vs
  | d => R K G H d v
theorem R.ro {K : PySem.W.Frag} {G : Addr → Prop} {H : Hp} {d : D} {v : V} (h : R K G H d v) : RO K G H d v := by
  cases d with
  | lst ds => unfold R at h; obtain ⟨a, vs, e, s, _, r⟩ := h; exact ⟨a, vs, e, s, r⟩
  | dic ks ds => unfold R at h; obtain ⟨a, vs, e, s, l, _, r⟩ := h; exact ⟨a, vs, e, s, l, r⟩
  | dit ks ds => unfold R at h; obtain ⟨a, vs, e, s, l, _, r⟩ := h; exact ⟨a, vs, e, s, l, r⟩
  | _ => exact h
theorem RO.all {K : PySem.W.Frag} {G : Addr → Prop} {H : Hp} {d : D} {v : V} (h : RO K G H d v) : R K (fun _ => True) H d v := by
  have m : ∀ {ds : List D} {vs : List V}, Rs K G H ds vs → Rs K (fun _ => True) H ds vs := fun r => Rs.mono Keep.refl (fun _ _ _ => True.intro) r
  cases d with
  | lst ds => obtain ⟨a, vs, e, s, r⟩ := h; unfold R; exact ⟨a, vs, e, s, True.intro, m r⟩
  | dic ks ds => obtain ⟨a, vs, e, s, l, r⟩ := h; unfold R; exact ⟨a, vs, e, s, l, True.intro, m r⟩
  | dit ks ds => obtain ⟨a, vs, e, s, l, r⟩ := h; unfold R; exact ⟨a, vs, e, s, l, True.intro, m r⟩
  | _ => exact R.mono (G := G) Keep.refl (fun _ _ _ => True.intro) h
end DL

namespace DL
open PySem L2
variable [Tabs]

section
variable {K : PySem.W.Frag} {B : Bx} {H H' Hs : Hp} {σ : L2.St} {ρ ρ' : En} {v : V} {r : Rv}

theorem Ok.mdom (k : Ok K B H σ ρ) {a : Addr} (h : mset σ ρ a) : H a ≠ none := by
  obtain ⟨i, s, e, m, z⟩ := h
  have q := k.sl i s e
  cases s with
  | no => cases m
  | val d f => cases m
  | ml ds f => obtain ⟨p, vs, e1, e2, _⟩ := q; rw [z] at e1; cases e1; rw [e2]; exact Option.some_ne_none _
  | mp n ds => obtain ⟨p, vs, e1, e2, _⟩ := q; rw [z] at e1; cases e1; rw [e2]; exact Option.some_ne_none _
  | md ks ds f => obtain ⟨p, vs, e1, e2, _⟩ := q; rw [z] at e1; cases e1; rw [e2]; exact Option.some_ne_none _
  | mt ks ds f => obtain ⟨p, vs, e1, e2, _⟩ := q; rw [z] at e1; cases e1; rw [e2]; exact Option.some_ne_none _
theorem Ok.mav (k : Ok K B H σ ρ) {a : Addr} (h : mset σ ρ a) : a ∉ B.Av := by
  obtain ⟨i, s, e, m, z⟩ := h
  have q := k.sl i s e
  cases s with
  | no => cases m
  | val d f => cases m
  | ml ds f => obtain ⟨p, vs, e1, e2, _, _, e3⟩ := q; rw [z] at e1; cases e1; exact e3
  | mp n ds => obtain ⟨p, vs, e1, e2, _, _, e3⟩ := q; rw [z] at e1; cases e1; exact e3
  | md ks ds f => obtain ⟨p, vs, e1, e2, _, _, _, e3⟩ := q; rw [z] at e1; cases e1; exact e3
  | mt ks ds f => obtain ⟨p, vs, e1, e2, _, _, _, e3⟩ := q; rw [z] at e1; cases e1; exact e3

/-- nothing that is tracked is changed -/
structure All (H H' : Hp) : Prop where
  k : ∀ a o, H a = some o → ∀ [Nt o], H' a = some o
  dm : ∀ a, H a ≠ none → H' a ≠ none
  tb : NdefX.TabsN Tabs.T H → NdefX.TabsN Tabs.T H'
instance : CoeFun (All H H') (fun _ => ∀ a o, H a = some o → ∀ [Nt o], H' a = some o) := ⟨All.k⟩
theorem All.full (h : ∀ a o, H a = some o → H' a = some o) : All H H' := ⟨fun a o e => h a o e, fun a e => by
  cases q : H a with
  | none => exact absurd q e
  | some o => rw [h a o q]; exact Option.some_ne_none _, fun t => t.ext h⟩
theorem All.refl : All H H := .full fun _ _ h => h
theorem All.new {p : Addr} {o : HO} (h : H p = none) : All H (upd H p o) := .full fun a u e => by rw [upd_ne (ne_of_none e h)]; exact e
theorem All.keep {G : Addr → Prop} (a : All H H') : Keep G H H' := fun x o h _ => a x o h
theorem All.dom (k : All H H') {a : Addr} (h : H a ≠ none) : H' a ≠ none := k.dm a h
/-- what may be written is no table, nothing that a table tells -/
theorem tb_upd {H : Hp} {p : Addr} {o old : HO} (hp : H p = some old) (mu : ¬ Im old) (t : NdefX.TabsN Tabs.T H) : NdefX.TabsN Tabs.T (upd H p o) := fun q hq => by
  obtain ⟨ps, h1, h2, h3⟩ := t q hq
  have ne : ∀ {a : Addr} {u : HO}, H a = some u → Im u → upd H p o a = some u := fun {a u} e i => by
    rw [upd_ne]
    · exact e
    · intro z; subst z
      rw [hp] at e; cases e; exact mu i
  refine ⟨ps, ne h1 True.intro, h2, fun pos cv hc => ?_⟩
  obtain ⟨c, e1, e2⟩ := h3 pos cv hc
  exact ⟨c, e1, ne e2 True.intro⟩
theorem All.step (k : All H H') : Stp σ H ρ H' ρ := ⟨k.keep, fun _ h => k.dom h, fun _ h => h⟩
theorem Rs.all {G : Addr → Prop} {ds : List D} {vs : List V} (k : All H H') (h : Rs K G H ds vs) : Rs K G H' ds vs := Rs.mono k.keep (fun _ _ g => g) h
theorem R.all {G : Addr → Prop} {d : D} {v : V} (k : All H H') (h : R K G H d v) : R K G H' d v := R.mono k.keep (fun _ _ g => g) h
/-- more is tracked, all else as it was -/
theorem Ok.all (k : Ok K B H σ ρ) (a : All H H') : Ok K B H' σ ρ := by
  refine ⟨k.len, fun x h => a.dom (k.dom x h), fun x h => a.dom (k.av x h), fun x o h q => a x o (k.ext x o h q), fun i s e => ?_, k.inj, a.tb k.tb⟩
  have q := k.sl i s e
  cases s with
  | no => exact True.intro
  | val d f => obtain ⟨v, e1, e2⟩ := q; exact ⟨v, e1, e2.all a⟩
  | ml ds f => obtain ⟨p, vs, e1, e2, e3, e4⟩ := q; exact ⟨p, vs, e1, a _ _ e2, e3.all a, e4⟩
  | mp n ds => obtain ⟨p, vs, e1, e2, e3, e4⟩ := q; exact ⟨p, vs, e1, a _ _ e2, e3.all a, e4⟩
  | md ks ds f => obtain ⟨p, vs, e1, e2, e0, e3, e4⟩ := q; exact ⟨p, vs, e1, a _ _ e2, e0, e3.all a, e4⟩
  | mt ks ds f => obtain ⟨p, vs, e1, e2, e0, e3, e4⟩ := q; exact ⟨p, vs, e1, a _ _ e2, e0, e3.all a, e4⟩
/-- what H did not know is kept clear of -/
theorem Ok.clear (k : Ok K B H σ ρ) {p : Addr} {o : HO} (hp : H p = none) : Ok K (B.add p) (upd H p o) σ ρ := by
  have A : All H (upd H p o) := All.new hp
  have g : ∀ {f : Fr} (a : Addr), H a ≠ none → GF B (mset σ ρ) B.H0 f a → GF (B.add p) (mset σ ρ) B.H0 f a := fun {f} a ha q =>
    ⟨q.1, fun z => (List.mem_cons.mp z).elim (fun z => ha (z ▸ hp)) q.2.1, q.2.2⟩
  have ne : ∀ {a : Addr} {o : HO}, H a = some o → a ∉ B.Av → a ∉ (B.add p).Av := fun {a o} e q z => (List.mem_cons.mp z).elim (fun z => by rw [z, hp] at e; cases e) q
  refine ⟨k.len, fun a h => A.dom (k.dom a h), fun a h => (List.mem_cons.mp h).elim (fun z => by rw [z, upd_same]; exact Option.some_ne_none _) (fun z => A.dom (k.av a z)), fun x o h q => A x o (k.ext x o h q), fun i s e => ?_, k.inj, A.tb k.tb⟩
  have q := k.sl i s e
  cases s with
  | no => exact True.intro
  | val d f => obtain ⟨v, e1, e2⟩ := q; exact ⟨v, e1, e2.mono A.keep g⟩
  | ml ds f => obtain ⟨p, vs, e1, e2, e3, e4, e5⟩ := q; exact ⟨p, vs, e1, A _ _ e2, e3.mono A.keep g, e4, ne e2 e5⟩
  | mp n ds => obtain ⟨p, vs, e1, e2, e3, e4, e5⟩ := q; exact ⟨p, vs, e1, A _ _ e2, e3.all A, e4, ne e2 e5⟩
  | md ks ds f => obtain ⟨p, vs, e1, e2, e0, e3, e4, e5⟩ := q; exact ⟨p, vs, e1, A _ _ e2, e0, e3.mono A.keep g, e4, ne e2 e5⟩
  | mt ks ds f => obtain ⟨p, vs, e1, e2, e0, e3, e4, e5⟩ := q; exact ⟨p, vs, e1, A _ _ e2, e0, e3.mono A.keep g, e4, ne e2 e5⟩
theorem GF.cf {M : Addr → Prop} {f : Fr} {a : Addr} (h : GF B M Hs f a) : GF B M Hs (DL.cf f) a := ⟨h.1, h.2.1, bas_cf h.2.2.1, fun z => by
  have b := h.2.2.1
  have n := h.2.2.2
  cases f <;> first | exact n rfl | exact b.elim | cases z⟩
theorem GF.unadd {M : Addr → Prop} {f : Fr} {a p : Addr} (h : GF (B.add p) M Hs f a) : GF B M Hs f a := ⟨h.1, fun z => h.2.1 (List.mem_cons_of_mem _ z), h.2.2⟩
theorem Ok.unclear {p : Addr} (k : Ok K (B.add p) H σ ρ) : Ok K B H σ ρ := by
  have ne : ∀ {a : Addr}, a ∉ (B.add p).Av → a ∉ B.Av := fun {a} q z => q (List.mem_cons_of_mem _ z)
  refine ⟨k.len, k.dom, fun a h => k.av a (List.mem_cons_of_mem _ h), k.ext, fun i s e => ?_, k.inj, k.tb⟩
  have q := k.sl i s e
  cases s with
  | no => exact True.intro
  | val d f => obtain ⟨v, e1, e2⟩ := q; exact ⟨v, e1, e2.mono Keep.refl fun a _ g => g.unadd⟩
  | ml ds f => obtain ⟨p, vs, e1, e2, e3, e4, e5⟩ := q; exact ⟨p, vs, e1, e2, e3.mono Keep.refl fun a _ g => g.unadd, e4, ne e5⟩
  | mp n ds => obtain ⟨p, vs, e1, e2, e3, e4, e5⟩ := q; exact ⟨p, vs, e1, e2, e3, e4, ne e5⟩
  | md ks ds f => obtain ⟨p, vs, e1, e2, e0, e3, e4, e5⟩ := q; exact ⟨p, vs, e1, e2, e0, e3.mono Keep.refl fun a _ g => g.unadd, e4, ne e5⟩
  | mt ks ds f => obtain ⟨p, vs, e1, e2, e0, e3, e4, e5⟩ := q; exact ⟨p, vs, e1, e2, e0, e3.mono Keep.refl fun a _ g => g.unadd, e4, ne e5⟩

/-! ### results carried on -/
/-- as RelR, what is new no longer known to be held by nothing else -/
def Rg (K : PySem.W.Frag) (B : Bx) (Hs H : Hp) (σ : L2.St) (ρ : En) (v : V) : Rv → Prop
  | .v d f => R K (GF B (mset σ ρ) Hs f) H d v
  | .nl ds f => R K (GF B (mset σ ρ) Hs (cf f)) H (.lst ds) v
  | .nd ks ds f => R K (GF B (mset σ ρ) Hs (cf f)) H (.dic ks ds) v
  | .nt ks ds f => R K (GF B (mset σ ρ) Hs (cf f)) H (.dit ks ds) v
  | .m i => σ[i]? = some (some v) ∧ ∃ s : Sl, ρ[i]? = some s ∧ s ≠ .no
theorem RelR.rg (hd : ∀ a, B.H0 a ≠ none → Hs a ≠ none) (h : RelR K B Hs H σ ρ v r) : Rg K B Hs H σ ρ v r := by
  have hp : ∀ {p : Addr} {f : Fr}, Hs p = none → ¬ mset σ ρ p → p ∉ B.Av → GF B (mset σ ρ) Hs (cf f) p := fun {p f} e m a =>
    ⟨m, a, bas_new (by
      cases q : B.H0 p with
      | none => rfl
      | some o => exact absurd e (hd p (by rw [q]; exact Option.some_ne_none _))), fun _ => e⟩
  have g : ∀ {p a : Addr} {f : Fr}, H a ≠ none → GF (B.add p) (mset σ ρ) Hs f a → GF B (mset σ ρ) Hs (cf f) a := fun _ q => q.unadd.cf
  cases r with
  | v d f => exact h
  | nl ds f => obtain ⟨p, vs, e, e1, e2, e3, e4, _, e5⟩ := h; unfold Rg R; exact ⟨p, vs, e, e1, hp e2 e3 e4, e5.mono Keep.refl fun a => g⟩
  | nd ks ds f => obtain ⟨p, vs, e, e1, l, e2, e3, e4, _, e5⟩ := h; unfold Rg R; exact ⟨p, vs, e, e1, l, hp e2 e3 e4, e5.mono Keep.refl fun a => g⟩
  | nt ks ds f => obtain ⟨p, vs, e, e1, l, e2, e3, e4, _, e5⟩ := h; unfold Rg R; exact ⟨p, vs, e, e1, l, hp e2 e3 e4, e5.mono Keep.refl fun a => g⟩
  | m i => exact h
/-- kinds: a slot that is known stays known -/
def Kn (ρ ρ' : En) : Prop := ∀ i : Nat, (∃ s : Sl, ρ[i]? = some s ∧ s ≠ .no) → ∃ s : Sl, ρ'[i]? = some s ∧ s ≠ .no
theorem GF.step {f : Fr} {a : Addr} (st : Stp σ H ρ H' ρ') (h : GF B (mset σ ρ) Hs f a) : GF B (mset σ ρ') Hs f a := ⟨fun z => h.1 (st.sub a z), h.2⟩
theorem R.step {d : D} {f : Fr} (st : Stp σ H ρ H' ρ') (h : R K (GF B (mset σ ρ) Hs f) H d v) : R K (GF B (mset σ ρ') Hs f) H' d v :=
  R.mono (st.keep.weak fun _ g => g.1) (fun _ _ g => g.step st) h
theorem Rs.step {ds : List D} {vs : List V} {f : Fr} (st : Stp σ H ρ H' ρ') (h : Rs K (GF B (mset σ ρ) Hs f) H ds vs) : Rs K (GF B (mset σ ρ') Hs f) H' ds vs :=
  Rs.mono (st.keep.weak fun _ g => g.1) (fun _ _ g => g.step st) h
theorem Rg.go (st : Stp σ H ρ H' ρ') (kn : Kn ρ ρ') (h : Rg K B Hs H σ ρ v r) : Rg K B Hs H' σ ρ' v r := by
  cases r with
  | v d f => exact R.step st h
  | nl ds f => exact R.step st h
  | nd ks ds f => exact R.step st h
  | nt ks ds f => exact R.step st h
  | m i => exact ⟨h.1, kn i h.2⟩
theorem GF.fr {M : Addr → Prop} {f : Fr} {a : Addr} (h : GF B M B.H0 f a) : GF B M Hs (fdn f) a := ⟨h.1, h.2.1, bas_fdn h.2.2.1, fun z => by cases f <;> cases z⟩
theorem Rg.ro (k : Ok K B H σ ρ) (h : Rg K B Hs H σ ρ v r) : RO K (GF B (mset σ ρ) Hs (ob ρ r).f) H (ob ρ r).d v := by
  cases r with
  | v d f => exact R.ro h
  | nl ds f => exact R.ro (d := .lst ds) h
  | nd ks ds f => exact R.ro (d := .dic ks ds) h
  | nt ks ds f => exact R.ro (d := .dit ks ds) h
  | m i =>
    obtain ⟨e, s, es, ns⟩ := h
    have eo : ob ρ (.m i) = obS s := by show obS (ρ.getD i .no) = _; rw [List.getD_eq_getElem?_getD, es]; rfl
    rw [eo]
    have q := k.sl i s es
    cases s with
    | no => exact absurd rfl ns
    | val d f =>
      obtain ⟨w, e1, e2⟩ := q
      rw [e] at e1; cases e1
      exact R.ro (R.mono Keep.refl (fun _ _ g => g.fr) e2)
    | ml ds f =>
      obtain ⟨p, vs, e1, e2, e3, _⟩ := q
      rw [e] at e1; cases e1
      exact ⟨p, vs, rfl, e2, Rs.mono Keep.refl (fun _ _ g => g.fr) e3⟩
    | mp n ds =>
      obtain ⟨p, vs, e1, e2, e3, _⟩ := q
      rw [e] at e1; cases e1
      exact ⟨p, vs, rfl, e2, Rs.mono Keep.refl (fun _ _ g => g.elim) e3⟩
    | md ks ds f =>
      obtain ⟨p, vs, e1, e2, l, e3, _⟩ := q
      rw [e] at e1; cases e1
      exact ⟨p, vs, rfl, e2, l, Rs.mono Keep.refl (fun _ _ g => g.fr) e3⟩
    | mt ks ds f =>
      obtain ⟨p, vs, e1, e2, l, e3, _⟩ := q
      rw [e] at e1; cases e1
      exact ⟨p, vs, rfl, e2, l, Rs.mono Keep.refl (fun _ _ g => g.fr) e3⟩
end

/-! ### the judgements -/
abbrev TD := En → (Rv → En → Prop) → Prop
abbrev TB := En → (Bool → En → Prop) → Prop
abbrev TL := En → (List Rv → En → Prop) → Prop
def Ev1 (K : PySem.W.Frag) (te : TE) (t : TD) : Prop := ∀ (B : Bx) (σ : L2.St) (H : Hp) (ρ : En) (Q : Rv → En → Prop) (Q' : VK), Ok K B H σ ρ → t ρ Q →
  (∀ v H' r ρ', Ok K B H' σ ρ' → Stp σ H ρ H' ρ' → Kn ρ ρ' → RelR K B H H' σ ρ' v r → Q r ρ' → Q' v H') → te σ H Q'
def EvT (K : PySem.W.Frag) (te : TT) (t : TB) : Prop := ∀ (B : Bx) (σ : L2.St) (H : Hp) (ρ : En) (Q : Bool → En → Prop) (Q' : Bool → Hp → Prop), Ok K B H σ ρ → t ρ Q →
  (∀ b H' ρ', Ok K B H' σ ρ' → Stp σ H ρ H' ρ' → Kn ρ ρ' → Q b ρ' → Q' b H') → te σ H Q'
/-- the values, each as it is carried to the end -/
inductive RgL (K : PySem.W.Frag) (B : Bx) (Hs H : Hp) (σ : L2.St) (ρ : En) : List V → List Rv → Prop
  | nil : RgL K B Hs H σ ρ [] []
  | cons {v : V} {vs : List V} {r : Rv} {rs : List Rv} : Rg K B Hs H σ ρ v r → RgL K B Hs H σ ρ vs rs → RgL K B Hs H σ ρ (v :: vs) (r :: rs)
def EvL (K : PySem.W.Frag) (ta : TA) (t : TL) : Prop := ∀ (B : Bx) (σ : L2.St) (H : Hp) (ρ : En) (Q : List Rv → En → Prop) (Q' : List V → Hp → Prop), Ok K B H σ ρ → t ρ Q →
  (∀ vs H' rs ρ', Ok K B H' σ ρ' → Stp σ H ρ H' ρ' → Kn ρ ρ' → RgL K B H H' σ ρ' vs rs → Q rs ρ' → Q' vs H') → ta σ H Q'
def DE (X : Cx) (e : Expr) (t : TD) : Prop := ∃ te, PE X e te ∧ Ev1 X.K te t
def DT (X : Cx) (e : Expr) (t : TB) : Prop := ∃ te, PT X e te ∧ EvT X.K te t
def DW (X : Cx) (e : Expr) (t : TB) : Prop := ∃ te, PW X e te ∧ EvT X.K te t
def DA (X : Cx) (es : List Expr) (t : TL) : Prop := ∃ te, PA X es te ∧ EvL X.K te t

section
variable {K : PySem.W.Frag} {B : Bx} {H H' H1 Hs : Hp} {σ : L2.St} {ρ ρ' ρ1 : En} {v : V} {r : Rv}
theorem Kn.refl : Kn ρ ρ := fun _ h => h
theorem Kn.trans {ρ2 : En} (a : Kn ρ ρ1) (b : Kn ρ1 ρ2) : Kn ρ ρ2 := fun i h => b i (a i h)
/-- new ahead of H is new ahead of Hs -/
theorem GF.base {M : Addr → Prop} {f : Fr} {a : Addr} (hd : ∀ a, Hs a ≠ none → H a ≠ none) (h : GF B M H f a) : GF B M Hs f a := ⟨h.1, h.2.1, h.2.2.1, fun z => by
  cases q : Hs a with
  | none => rfl
  | some o => exact absurd (h.2.2.2 z) (hd a (by rw [q]; exact Option.some_ne_none _))⟩
theorem none_back (hd : ∀ a, Hs a ≠ none → H a ≠ none) {p : Addr} (h : H p = none) : Hs p = none := by
  cases q : Hs p with
  | none => rfl
  | some o => exact absurd h (hd p (by rw [q]; exact Option.some_ne_none _))
theorem RelR.base (hd : ∀ a, Hs a ≠ none → H a ≠ none) (h : RelR K B H H' σ ρ v r) : RelR K B Hs H' σ ρ v r := by
  cases r with
  | v d f => exact R.mono Keep.refl (fun _ _ g => g.base hd) h
  | nl ds f => obtain ⟨p, vs, e, e1, e2, e3, e4, e5, e6⟩ := h; exact ⟨p, vs, e, e1, none_back hd e2, e3, e4, e5, e6.mono Keep.refl fun _ _ g => g.base hd⟩
  | nd ks ds f => obtain ⟨p, vs, e, e1, l, e2, e3, e4, e5, e6⟩ := h; exact ⟨p, vs, e, e1, l, none_back hd e2, e3, e4, e5, e6.mono Keep.refl fun _ _ g => g.base hd⟩
  | nt ks ds f => obtain ⟨p, vs, e, e1, l, e2, e3, e4, e5, e6⟩ := h; exact ⟨p, vs, e, e1, l, none_back hd e2, e3, e4, e5, e6.mono Keep.refl fun _ _ g => g.base hd⟩
  | m i => exact h
theorem Rg.base (hd : ∀ a, Hs a ≠ none → H a ≠ none) (h : Rg K B H H' σ ρ v r) : Rg K B Hs H' σ ρ v r := by
  cases r with
  | m i => exact h
  | _ => exact R.mono Keep.refl (fun _ _ g => g.base hd) h
theorem RgL.base (hd : ∀ a, Hs a ≠ none → H a ≠ none) : ∀ {vs : List V} {rs : List Rv}, RgL K B H H' σ ρ vs rs → RgL K B Hs H' σ ρ vs rs
  | _, _, .nil => .nil
  | _, _, .cons h t => .cons (h.base hd) (RgL.base hd t)
theorem Ok.hd (k : Ok K B H σ ρ) : ∀ a, B.H0 a ≠ none → H a ≠ none := k.dom

/-- a new list -/
theorem new_nl {f : Fr} {ds : List D} {vs : List V} {p : Addr} (k : Ok K B H σ ρ) (hd : ∀ a, Hs a ≠ none → H a ≠ none) (hp : H p = none) (h : Rs K (GF B (mset σ ρ) Hs f) H ds vs) :
    Ok K B (upd H p (.lst vs)) σ ρ ∧ RelR K B Hs (upd H p (.lst vs)) σ ρ (.ref p) (.nl ds f) := by
  refine ⟨k.all (All.new hp), p, vs, rfl, upd_same, none_back hd hp, fun z => k.mdom z hp, fun z => k.av p z hp, k.clear hp, ?_⟩
  refine Rs.mono (All.new hp).keep (fun a ha g => ?_) h
  exact ⟨g.1, fun z => (List.mem_cons.mp z).elim (fun z => ha (z ▸ hp)) g.2.1, g.2.2⟩
theorem new_nd {f : Fr} {ks : List Key} {ds : List D} {vs : List V} {p : Addr} (k : Ok K B H σ ρ) (hd : ∀ a, Hs a ≠ none → H a ≠ none) (hp : H p = none) (hl : ks.length = vs.length) (h : Rs K (GF B (mset σ ρ) Hs f) H ds vs) :
    Ok K B (upd H p (.dK (ks.zip vs))) σ ρ ∧ RelR K B Hs (upd H p (.dK (ks.zip vs))) σ ρ (.ref p) (.nd ks ds f) := by
  refine ⟨k.all (All.new hp), p, vs, rfl, upd_same, hl, none_back hd hp, fun z => k.mdom z hp, fun z => k.av p z hp, k.clear hp, ?_⟩
  refine Rs.mono (All.new hp).keep (fun a ha g => ?_) h
  exact ⟨g.1, fun z => (List.mem_cons.mp z).elim (fun z => ha (z ▸ hp)) g.2.1, g.2.2⟩
theorem new_nt {f : Fr} {ks : List (List Key)} {ds : List D} {vs : List V} {p : Addr} (k : Ok K B H σ ρ) (hd : ∀ a, Hs a ≠ none → H a ≠ none) (hp : H p = none) (hl : ks.length = vs.length) (h : Rs K (GF B (mset σ ρ) Hs f) H ds vs) :
    Ok K B (upd H p (.dT (ks.zip vs))) σ ρ ∧ RelR K B Hs (upd H p (.dT (ks.zip vs))) σ ρ (.ref p) (.nt ks ds f) := by
  refine ⟨k.all (All.new hp), p, vs, rfl, upd_same, hl, none_back hd hp, fun z => k.mdom z hp, fun z => k.av p z hp, k.clear hp, ?_⟩
  refine Rs.mono (All.new hp).keep (fun a ha g => ?_) h
  exact ⟨g.1, fun z => (List.mem_cons.mp z).elim (fun z => ha (z ▸ hp)) g.2.1, g.2.2⟩
/-- a new tuple -/
theorem new_tup {f : Fr} {ds : List D} {vs : List V} {p : Addr} (k : Ok K B H σ ρ) (hp : H p = none) (h : Rs K (GF B (mset σ ρ) Hs f) H ds vs) :
    Ok K B (upd H p (.tup vs)) σ ρ ∧ RelR K B Hs (upd H p (.tup vs)) σ ρ (.ref p) (.v (.tup ds) f) := by
  refine ⟨k.all (All.new hp), ?_⟩
  show R K _ _ (.tup ds) (.ref p)
  unfold R
  exact ⟨p, vs, rfl, SqT.of upd_same, h.all (All.new hp)⟩
end
end DL

namespace DL
open PySem L2
variable [Tabs]

/-! ### names, constants -/
def dVar (i : Nat) : TD := fun ρ Q => match ρ.getD i .no with
  | .no => False
  | .val d f => Q (.v d (fdn f)) ρ
  | _ => Q (.m i) ρ
/-- a name whose list is stored elsewhere or handed back: it may no longer be changed -/
def dVarF (i : Nat) : TD := fun ρ Q => match ρ.getD i .no with
  | .no => False
  | .val d f => Q (.v d (fdn f)) ρ
  | .ml ds f => Q (.v (.lst ds) (fdn (cf f))) (ρ.set i (.val (.lst ds) (cf f)))
  | .md ks ds f => Q (.v (.dic ks ds) (fdn (cf f))) (ρ.set i (.val (.dic ks ds) (cf f)))
  | .mt ks ds f => Q (.v (.dit ks ds) (fdn (cf f))) (ρ.set i (.val (.dit ks ds) (cf f)))
  | .mp _ _ => False
def dC (d : D) : TD := fun ρ Q => Q (.v d .n) ρ

section
variable {K : PySem.W.Frag} {B : Bx} {H H' Hs : Hp} {σ : L2.St} {ρ ρ' : En} {v : V} {r : Rv}
theorem getD_some {i : Nat} {s : Sl} (h : ρ.getD i .no = s) (n : s ≠ .no) : ρ[i]? = some s := by
  rw [List.getD_eq_getElem?_getD] at h
  cases e : ρ[i]? with
  | none => rw [e] at h; exact absurd h.symm n
  | some t => rw [e] at h; exact congrArg some h
theorem ev_var (i : Nat) : Ev1 K (tVar i) (dVar i) := by
  intro B σ H ρ Q Q' k h fin
  unfold dVar at h
  have go : ∀ {s : Sl}, ρ[i]? = some s → s ≠ .no → (∃ v, σ[i]? = some (some v)) := fun {s} e n => by
    have q := k.sl i s e
    cases s with
    | no => exact absurd rfl n
    | val d f => obtain ⟨v, e, _⟩ := q; exact ⟨v, e⟩
    | ml ds f => obtain ⟨v, _, e, _⟩ := q; exact ⟨_, e⟩
    | mp n ds => obtain ⟨v, _, e, _⟩ := q; exact ⟨_, e⟩
    | md ks ds f => obtain ⟨v, _, e, _⟩ := q; exact ⟨_, e⟩
    | mt ks ds f => obtain ⟨v, _, e, _⟩ := q; exact ⟨_, e⟩
  have mm : ∀ {s : Sl}, ρ.getD i .no = s → s ≠ .no → Q (.m i) ρ → tVar i σ H Q' := fun {s} e n q => by
    obtain ⟨v, ev⟩ := go (getD_some e n) n
    exact ⟨v, ev, fin v H (.m i) ρ k Stp.refl Kn.refl ⟨ev, s, getD_some e n, n⟩ q⟩
  cases e : ρ.getD i .no with
  | no => rw [e] at h; exact h.elim
  | val d f =>
    rw [e] at h
    have e' := getD_some e (by simp)
    obtain ⟨v, ev, rv⟩ := k.sl i _ e'
    exact ⟨v, ev, fin v H (.v d _) ρ k Stp.refl Kn.refl (R.mono Keep.refl (fun _ _ g => g.fr) rv) h⟩
  | ml ds f => rw [e] at h; exact mm e (by simp) h
  | mp n ds => rw [e] at h; exact mm e (by simp) h
  | md ks ds f => rw [e] at h; exact mm e (by simp) h
  | mt ks ds f => rw [e] at h; exact mm e (by simp) h

/-- a changed slot: what it is now; the lists that may be changed are among those before -/
theorem Ok.slot {i : Nat} {s : Sl} (k : Ok K B H σ ρ) (hi : i < ρ.length) (sub : ∀ a, mset σ (ρ.set i s) a → mset σ ρ a) (hs : SlOk K B H σ (mset σ (ρ.set i s)) i s)
    (hn : s.isM = true → ∃ t : Sl, ρ[i]? = some t ∧ t.isM = true) : Ok K B H σ (ρ.set i s) := by
  have g : ∀ {f : Fr} (a : Addr), H a ≠ none → GF B (mset σ ρ) B.H0 f a → GF B (mset σ (ρ.set i s)) B.H0 f a := fun {f} a _ q => ⟨fun z => q.1 (sub a z), q.2⟩
  refine ⟨by rw [List.length_set]; exact k.len, k.dom, k.av, k.ext, fun j t e => ?_, fun j1 j2 s1 s2 a e1 m1 e2 m2 z1 z2 => ?_, k.tb⟩
  · by_cases hj : i = j
    · subst hj
      rw [List.getElem?_set_self hi] at e
      cases e
      exact hs
    · rw [List.getElem?_set_ne hj] at e
      have q := k.sl j t e
      cases t with
      | no => exact True.intro
      | val d f => obtain ⟨v, e1, e2⟩ := q; exact ⟨v, e1, e2.mono Keep.refl g⟩
      | ml ds f => obtain ⟨p, vs, e1, e2, e3, e4⟩ := q; exact ⟨p, vs, e1, e2, e3.mono Keep.refl g, e4⟩
      | mp n ds => exact q
      | md ks ds f => obtain ⟨p, vs, e1, e2, e0, e3, e4⟩ := q; exact ⟨p, vs, e1, e2, e0, e3.mono Keep.refl g, e4⟩
      | mt ks ds f => obtain ⟨p, vs, e1, e2, e0, e3, e4⟩ := q; exact ⟨p, vs, e1, e2, e0, e3.mono Keep.refl g, e4⟩
  · have f : ∀ {j : Nat} {t : Sl}, (ρ.set i s)[j]? = some t → t.isM = true → ∃ u : Sl, ρ[j]? = some u ∧ u.isM = true := fun {j t} e m => by
      by_cases hj : i = j
      · subst hj
        rw [List.getElem?_set_self hi] at e
        cases e
        exact hn m
      · rw [List.getElem?_set_ne hj] at e
        exact ⟨t, e, m⟩
    obtain ⟨u1, q1, w1⟩ := f e1 m1
    obtain ⟨u2, q2, w2⟩ := f e2 m2
    exact k.inj j1 j2 u1 u2 a q1 w1 q2 w2 z1 z2
/-- the list of a slot is no longer to be changed -/
theorem Ok.frz {i : Nat} {d : D} {f : Fr} {t : Sl} {p : Addr} (k : Ok K B H σ ρ) (e : ρ[i]? = some t) (m : t.isM = true) (ep : σ[i]? = some (some (.ref p)))
    (h : R K (GF B (fun a => mset σ ρ a ∧ a ≠ p) B.H0 f) H d (.ref p)) : Ok K B H σ (ρ.set i (.val d f)) ∧ Stp σ H ρ H (ρ.set i (.val d f)) ∧ Kn ρ (ρ.set i (.val d f)) ∧ R K (GF B (mset σ (ρ.set i (.val d f))) B.H0 f) H d (.ref p) := by
  have hi : i < ρ.length := (List.getElem?_eq_some_iff.mp e).1
  have sub : ∀ a, mset σ (ρ.set i (.val d f)) a → mset σ ρ a ∧ a ≠ p := fun a ⟨j, s, ej, mj, z⟩ => by
    by_cases hj : i = j
    · subst hj
      rw [List.getElem?_set_self hi] at ej
      cases ej; cases mj
    · rw [List.getElem?_set_ne hj] at ej
      refine ⟨⟨j, s, ej, mj, z⟩, fun z' => ?_⟩
      subst z'
      exact hj (k.inj i j t s a e m ej mj ep z)
  have rr : R K (GF B (mset σ (ρ.set i (.val d f))) B.H0 f) H d (.ref p) := R.mono Keep.refl (fun a _ g => ⟨fun z => g.1 (sub a z), g.2⟩) h
  refine ⟨k.slot hi (fun a z => (sub a z).1) ⟨.ref p, ep, rr⟩ (fun z => nomatch z), ⟨Keep.refl, fun _ h => h, fun a z => (sub a z).1⟩, fun j ⟨s, ej, ns⟩ => ?_, rr⟩
  by_cases hj : i = j
  · subst hj
    exact ⟨_, List.getElem?_set_self hi, by simp⟩
  · exact ⟨s, by rw [List.getElem?_set_ne hj]; exact ej, ns⟩
theorem GF.minus {M : Addr → Prop} {f : Fr} {p a : Addr} (h : GF B M Hs f a) : GF B (fun a => M a ∧ a ≠ p) Hs f a := ⟨fun z => h.1 z.1, h.2⟩
theorem ev_varF (i : Nat) : Ev1 K (tVar i) (dVarF i) := by
  intro B σ H ρ Q Q' k h fin
  unfold dVarF at h
  have gp : ∀ {f : Fr} {p : Addr}, B.H0 p = none → p ∉ B.Av → GF B (fun a => mset σ ρ a ∧ a ≠ p) B.H0 (cf f) p := fun h0 av => ⟨fun z => z.2 rfl, av, bas_new h0, fun _ => h0⟩
  cases e : ρ.getD i .no with
  | no => rw [e] at h; exact h.elim
  | val d f =>
    rw [e] at h
    have e' := getD_some e (by simp)
    obtain ⟨v, ev, rv⟩ := k.sl i _ e'
    exact ⟨v, ev, fin v H (.v d _) ρ k Stp.refl Kn.refl (R.mono Keep.refl (fun _ _ g => g.fr) rv) h⟩
  | ml ds f =>
    rw [e] at h
    have e' := getD_some e (by simp)
    obtain ⟨p, vs, ep, hp, rs, h0, av⟩ := k.sl i _ e'
    have rr : R K (GF B (fun a => mset σ ρ a ∧ a ≠ p) B.H0 (cf f)) H (.lst ds) (.ref p) := by unfold R; exact ⟨p, vs, rfl, hp, gp h0 av, rs.mono Keep.refl fun _ _ g => g.minus.cf⟩
    obtain ⟨k2, st, kn, r2⟩ := k.frz e' rfl ep rr
    exact ⟨_, ep, fin _ H (.v (.lst ds) _) _ k2 st kn (R.mono Keep.refl (fun _ _ g => g.fr) r2) h⟩
  | mp n ds => rw [e] at h; exact h.elim
  | md ks ds f =>
    rw [e] at h
    have e' := getD_some e (by simp)
    obtain ⟨p, vs, ep, hp, l, rs, h0, av⟩ := k.sl i _ e'
    have rr : R K (GF B (fun a => mset σ ρ a ∧ a ≠ p) B.H0 (cf f)) H (.dic ks ds) (.ref p) := by unfold R; exact ⟨p, vs, rfl, hp, l, gp h0 av, rs.mono Keep.refl fun _ _ g => g.minus.cf⟩
    obtain ⟨k2, st, kn, r2⟩ := k.frz e' rfl ep rr
    exact ⟨_, ep, fin _ H (.v (.dic ks ds) _) _ k2 st kn (R.mono Keep.refl (fun _ _ g => g.fr) r2) h⟩
  | mt ks ds f =>
    rw [e] at h
    have e' := getD_some e (by simp)
    obtain ⟨p, vs, ep, hp, l, rs, h0, av⟩ := k.sl i _ e'
    have rr : R K (GF B (fun a => mset σ ρ a ∧ a ≠ p) B.H0 (cf f)) H (.dit ks ds) (.ref p) := by unfold R; exact ⟨p, vs, rfl, hp, l, gp h0 av, rs.mono Keep.refl fun _ _ g => g.minus.cf⟩
    obtain ⟨k2, st, kn, r2⟩ := k.frz e' rfl ep rr
    exact ⟨_, ep, fin _ H (.v (.dit ks ds) _) _ k2 st kn (R.mono Keep.refl (fun _ _ g => g.fr) r2) h⟩
theorem ev_c {v : V} {d : D} (h : ∀ G H, R K G H d v) : Ev1 K (tC v) (dC d) := fun B σ H ρ Q Q' k q fin => fin v H (.v d .n) ρ k Stp.refl Kn.refl (h _ _) q
end

/-! ### operators on what is seen -/
abbrev Op2 := Ob → Ob → (Rv → Prop) → Prop
def OpS (K : PySem.W.Frag) (r : R2) (p : Op2) : Prop :=
  ∀ (B : Bx) (σ : L2.St) (Hs H : Hp) (ρ : En) (x y : V) (a b : Ob) (k : Rv → Prop) (Q' : VK), Ok K B H σ ρ → (∀ a, Hs a ≠ none → H a ≠ none) →
    RO K (GF B (mset σ ρ) Hs a.f) H a.d x → RO K (GF B (mset σ ρ) Hs b.f) H b.d y → p a b k →
    (∀ v H' rr, Ok K B H' σ ρ → Stp σ H ρ H' ρ → RelR K B Hs H' σ ρ v rr → k rr → Q' v H') → r x y H Q'
def dOp (p : Op2) (da db : TD) : TD := fun ρ Q => da ρ fun r1 ρ1 => db ρ1 fun r2 ρ2 => p (ob ρ2 r1) (ob ρ2 r2) fun r => Q r ρ2
theorem ev_op {K : PySem.W.Frag} {r : R2} {p : Op2} {ta tb : TE} {da db : TD} (hp : OpS K r p) (ha : Ev1 K ta da) (hb : Ev1 K tb db) : Ev1 K (tOp r ta tb) (dOp p da db) :=
  fun B σ H ρ Q Q' k h fin => ha B σ H ρ _ _ k h fun x H1 r1 ρ1 k1 s1 n1 e1 h1 => hb B σ H1 ρ1 _ _ k1 h1 fun y H2 r2 ρ2 k2 s2 n2 e2 h2 =>
    hp B σ H H2 ρ2 x y _ _ _ _ k2 (s1.trans s2).dom (Rg.ro k2 ((e1.rg k.dom).go s2 n2)) (Rg.ro k2 ((e2.base s1.dom).rg k.dom)) h2
      fun v H3 rr k3 s3 e3 q => fin v H3 rr ρ2 k3 ((s1.trans s2).trans s3) (n1.trans n2) e3 q

def fmin : Fr → Fr → Fr
  | .z, g => g
  | f, .z => f
  | .n, .n => .n
  | .n, .h => .h
  | .h, .n => .h
  | .h, .h => .h
  | .p, .p => .p
  | _, _ => .o
theorem GF.minL {B : Bx} {M : Addr → Prop} {Hs : Hp} {f g : Fr} {a : Addr} (h : GF B M Hs f a) : GF B M Hs (fmin f g) a := by
  have q := h.2.2.1
  have n := h.2.2.2
  refine ⟨h.1, h.2.1, ?_, fun z => ?_⟩
  · cases f <;> cases g <;> first | exact q | exact True.intro | exact q.elim
  · cases f <;> cases g <;> first | exact n rfl | exact q.elim | cases z
theorem GF.minR {B : Bx} {M : Addr → Prop} {Hs : Hp} {f g : Fr} {a : Addr} (h : GF B M Hs g a) : GF B M Hs (fmin f g) a := by
  have q := h.2.2.1
  have n := h.2.2.2
  refine ⟨h.1, h.2.1, ?_, fun z => ?_⟩
  · cases f <;> cases g <;> first | exact q | exact True.intro | exact q.elim
  · cases f <;> cases g <;> first | exact n rfl | exact q.elim | cases z

section
variable {K : PySem.W.Frag} {B : Bx} {H H' Hs : Hp} {σ : L2.St} {ρ ρ' : En} {v : V} {r : Rv} {G : Addr → Prop}
/-- an answer that makes nothing -/
theorem fin_at {d : D} {Q' : VK} {k : Rv → Prop} (ok : Ok K B H σ ρ) (fin : ∀ v H' rr, Ok K B H' σ ρ → Stp σ H ρ H' ρ → RelR K B Hs H' σ ρ v rr → k rr → Q' v H')
    (h : ∀ G, R K G H d v) (q : k (.v d .n)) : Q' v H := fin v H (.v d .n) ok Stp.refl (h _) q
theorem RO.int {i : Int} (h : RO K G H (.int i) v) : v = .int i := by unfold RO R at h; exact h
theorem RO.str {i : Str} (h : RO K G H (.str i) v) : v = .str i := by unfold RO R at h; exact h
theorem RO.bl {i : Bool} (h : RO K G H (.bl i) v) : v = .bl i := by unfold RO R at h; exact h
theorem RO.non (h : RO K G H .non v) : v = .non := by unfold RO R at h; exact h
theorem RO.tup {ds : List D} (h : RO K G H (.tup ds) v) : ∃ a vs, v = .ref a ∧ SqT K H a vs ∧ Rs K G H ds vs := by unfold RO R at h; exact h
theorem RO.fz {ds : List D} (h : RO K G H (.fz ds) v) : ∃ a vs, v = .ref a ∧ NM K H a vs ∧ Rs K G H ds vs := by unfold RO R at h; exact h
theorem R.i {i : Int} : R K G H (.int i) (.int i) := by unfold R; rfl
theorem R.s {i : Str} : R K G H (.str i) (.str i) := by unfold R; rfl
theorem R.b {i : Bool} : R K G H (.bl i) (.bl i) := by unfold R; rfl
theorem R.n : R K G H .non .non := by unfold R; rfl
end

/-- ints in, under C, an atom out -/
def pI (C : Int → Int → Prop) (g : Int → Int → D) : Op2 := fun a b k => match a.d, b.d with
  | .int i, .int j => C i j ∧ k (.v (g i j) .n)
  | _, _ => False
theorem ops_I {K : PySem.W.Frag} {C : Int → Int → Prop} {g : Int → Int → Int} : OpS K (rI C fun i j => .int (g i j)) (pI C fun i j => .int (g i j)) := by
  intro B σ Hs H ρ x y a b k Q' ok hd ra rb h fin
  obtain ⟨d, f⟩ := a
  obtain ⟨e, f2⟩ := b
  unfold pI at h
  cases d <;> try exact h.elim
  cases e <;> try exact h.elim
  rename_i i j
  obtain rfl := ra.int
  obtain rfl := rb.int
  exact ⟨i, j, rfl, rfl, h.1, fin_at ok fin (fun _ => R.i) h.2⟩
theorem ops_IB {K : PySem.W.Frag} {g : Int → Int → Bool} : OpS K (rI0 fun i j => .bl (g i j)) (pI (fun _ _ => True) fun i j => .bl (g i j)) := by
  intro B σ Hs H ρ x y a b k Q' ok hd ra rb h fin
  obtain ⟨d, f⟩ := a
  obtain ⟨e, f2⟩ := b
  unfold pI at h
  cases d <;> try exact h.elim
  cases e <;> try exact h.elim
  rename_i i j
  obtain rfl := ra.int
  obtain rfl := rb.int
  exact ⟨i, j, rfl, rfl, fin_at ok fin (fun _ => R.b) h.2⟩
theorem ops_I0 {K : PySem.W.Frag} {g : Int → Int → Int} : OpS K (rI0 fun i j => .int (g i j)) (pI (fun _ _ => True) fun i j => .int (g i j)) := by
  intro B σ Hs H ρ x y a b k Q' ok hd ra rb h fin
  obtain ⟨d, f⟩ := a
  obtain ⟨e, f2⟩ := b
  unfold pI at h
  cases d <;> try exact h.elim
  cases e <;> try exact h.elim
  rename_i i j
  obtain rfl := ra.int
  obtain rfl := rb.int
  exact ⟨i, j, rfl, rfl, fin_at ok fin (fun _ => R.i) h.2⟩

/-- + -/
def pAdd : Op2 := fun a b k => match a.d, b.d with
  | .int i, .int j => k (.v (.int (i + j)) .n)
  | .str s, .str t => s.length + t.length ≤ sizeLine ∧ k (.v (.str (s ++ t)) .n)
  | .lst xs, .lst ys => xs.length + ys.length ≤ sizeLine ∧ k (.nl (xs ++ ys) (fmin a.f b.f))
  | .tup xs, .tup ys => xs ≠ [] ∧ xs.length + ys.length ≤ sizeLine ∧ k (.v (.tup (xs ++ ys)) (fmin a.f b.f))
  | _, _ => False
def rAdd4 (K : PySem.W.Frag) : R2 := fun x y H Q => (rI0 (fun i j => .int (i + j)) x y H Q) ∨ ((∃ i j, x = .str i ∧ y = .str j ∧ i.length + j.length ≤ sizeLine ∧ Q (.str (i ++ j)) H) ∨ (rCat x y H Q ∨ rCatT K x y H Q))
theorem op_add4 {X : Cx} : OpR X (binaryOp .Add) (rAdd4 X.K) := op_add.or (op_add_str.or (op_cat.or op_catT))
theorem ops_add {K : PySem.W.Frag} : OpS K (rAdd4 K) pAdd := by
  intro B σ Hs H ρ x y a b k Q' ok hd ra rb h fin
  obtain ⟨d, f⟩ := a
  obtain ⟨e, f2⟩ := b
  unfold pAdd at h
  cases d <;> try exact h.elim
  · cases e <;> try exact h.elim
    rename_i i j
    obtain rfl := ra.int
    obtain rfl := rb.int
    exact .inl ⟨i, j, rfl, rfl, fin_at ok fin (fun _ => R.i) h⟩
  · cases e <;> try exact h.elim
    rename_i i j
    obtain rfl := ra.str
    obtain rfl := rb.str
    exact .inr (.inl ⟨i, j, rfl, rfl, h.1, fin_at ok fin (fun _ => R.s) h.2⟩)
  · cases e <;> try exact h.elim
    rename_i xs ys
    obtain ⟨p, vs, rfl, hp, rp⟩ := ra.tup
    obtain ⟨q, ws, rfl, hq, rq⟩ := rb.tup
    obtain ⟨hn, hl, h⟩ := h
    have rr : Rs K (GF B (mset σ ρ) Hs (fmin f f2)) H (xs ++ ys) (vs ++ ws) := (rp.mono Keep.refl fun _ _ g => g.minL).append (rq.mono Keep.refl fun _ _ g => g.minR)
    refine .inr (.inr (.inr ⟨p, q, vs, ws, rfl, rfl, hp, hq, fun z => hn ?_, by rw [← rp.len, ← rq.len]; exact hl, fun z => ?_, fun z u hu => ?_⟩))
    · exact List.length_eq_zero_iff.mp (by rw [rp.len, z]; rfl)
    · have ey : ys = [] := List.length_eq_zero_iff.mp (by rw [rq.len, z]; rfl)
      subst ey
      subst z
      rw [List.append_nil] at h rr
      rw [List.append_nil] at rr
      exact fin _ H (.v (.tup xs) _) ok Stp.refl (show R K _ H (.tup xs) (.ref p) by unfold R; exact ⟨p, vs, rfl, hp, rr⟩) h
    · obtain ⟨o1, o2⟩ := new_tup (Hs := Hs) ok hu rr
      exact fin _ _ _ o1 (All.new hu).step o2 h
  · cases e <;> try exact h.elim
    rename_i xs ys
    obtain ⟨p, vs, rfl, hp, rp⟩ := ra
    obtain ⟨q, ws, rfl, hq, rq⟩ := rb
    obtain ⟨hl, h⟩ := h
    have rr : Rs K (GF B (mset σ ρ) Hs (fmin f f2)) H (xs ++ ys) (vs ++ ws) := (rp.mono Keep.refl fun _ _ g => g.minL).append (rq.mono Keep.refl fun _ _ g => g.minR)
    refine .inr (.inr (.inl ⟨p, q, vs, ws, rfl, rfl, hp, hq, by rw [← rp.len, ← rq.len]; exact hl, fun u hu => ?_⟩))
    obtain ⟨o1, o2⟩ := new_nl ok hd hu rr
    exact fin _ _ _ o1 (All.new hu).step o2 h

/-- * -/
def strRep (x : Str) (n : Int) : Str := if n < 1 then Str.empty else if (n == 1 || x.length == 0) = true then x else ⟨(List.replicate n.toNat x.cps).foldl (· ++ ·) #[]⟩
def pMul : Op2 := fun a b k => match a.d, b.d with
  | .int i, .int j => IntMulOk i j ∧ k (.v (.int (i * j)) .n)
  | .str s, .int n => -1000000 < n ∧ n < 1000000 ∧ (s.length : Int) * n ≤ 1000000 ∧ k (.v (.str (strRep s n)) .n)
  | .lst xs, .int n => -1000000 < n ∧ n < 1000000 ∧ xs.length * n.toNat ≤ 1000000 ∧ k (.nl (List.replicate n.toNat xs).flatten a.f)
  | _, _ => False
theorem op_mulG {X : Cx} : OpR X (binaryOp .Mult) (rI IntMulOk fun i j => .int (i * j)) := opI fun _ _ _ _ _ _ _ hc q => PyProof.Rows.mul_int q hc
theorem foldl_size (xs : Array Nat) : ∀ (k : Nat) (acc : Array Nat), ((List.replicate k xs).foldl (· ++ ·) acc).size = acc.size + k * xs.size
  | 0, acc => by simp
  | k + 1, acc => by
    rw [List.replicate_succ, List.foldl_cons, foldl_size xs k, Array.size_append, Nat.succ_mul]
    omega
def rRepS : R2 := fun x y H Q => ∃ s n, x = .str s ∧ y = .int n ∧ (-1000000 < n ∧ n < 1000000 ∧ (s.length : Int) * n ≤ 1000000) ∧ Q (.str (strRep s n)) H
theorem op_repS {X : Cx} : OpR X (binaryOp .Mult) rRepS := by
  intro pins s σ H x y v u Q I rx ry h
  obtain ⟨z, n, rfl, rfl, ⟨h1, h2, h3⟩, q⟩ := h
  obtain ⟨t, rfl⟩ := rx
  obtain ⟨t', rfl⟩ := ry
  have hz : sizeLine = 16777216 := sizeLine_eq
  refine PySem.P.mul_str ?_ ?_ ?_ ?_
  · have e1 : ¬ n < -(2 ^ 63 : Int) := by omega
    have e2 : ¬ n ≥ 2 ^ 63 := by omega
    rw [decide_eq_false e1, decide_eq_false e2]; rfl
  · intro a b c
    have hn : 1 ≤ n := by omega
    have h4 : (z.length : Int) ≤ 1000000 := by
      have e : ((z.length * n.toNat : Nat) : Int) = (z.length : Int) * n := by
        rw [Int.natCast_mul, Int.toNat_of_nonneg (by omega)]
      have e2 : z.length * 1 ≤ z.length * n.toNat := Nat.mul_le_mul_left _ (by omega)
      omega
    have h5 : (1000000 : Int) ≤ (2 ^ 63 - 1) / n := by
      rw [Int.le_ediv_iff_mul_le (by omega)]
      omega
    omega
  · intro a b
    have hn : 1 ≤ n := by omega
    have e : ((z.length * n.toNat : Nat) : Int) = (z.length : Int) * n := by
      rw [Int.natCast_mul, Int.toNat_of_nonneg (by omega)]
    exact notLongL (by omega)
  · by_cases c1 : n < 1
    · rw [if_pos c1]
      refine ⟨by decide, ?_⟩
      exact ⟨.str (strRep z n), H, I.tok _, ⟨_, by unfold strRep; rw [if_pos c1]⟩, q⟩
    · rw [if_neg c1]
      by_cases c2 : (n == 1 || z.length == 0) = true
      · rw [if_pos c2]
        refine ⟨.str (strRep z n), H, I, ⟨_, by unfold strRep; rw [if_neg c1, if_pos c2]⟩, q⟩
      · rw [if_neg c2]
        have e : ((z.length * n.toNat : Nat) : Int) = (z.length : Int) * n := by
          rw [Int.natCast_mul, Int.toNat_of_nonneg (by omega)]
        refine ⟨?_, ⟨.str (strRep z n), H, I.tok _, ⟨_, by unfold strRep; rw [if_neg c1, if_neg c2]⟩, q⟩⟩
        show ((List.replicate n.toNat z.cps).foldl (· ++ ·) #[]).size ≤ sizeLine
        rw [foldl_size]
        have e3 : z.length = z.cps.size := rfl
        rw [Nat.mul_comm, ← e3]
        show 0 + _ ≤ _
        omega
def rMul3 : R2 := fun x y H Q => (rI IntMulOk (fun i j => .int (i * j)) x y H Q) ∨ (rRepS x y H Q ∨ rRep x y H Q)
theorem op_mul3 {X : Cx} : OpR X (binaryOp .Mult) rMul3 := op_mulG.or (op_repS.or op_rep)
theorem ops_mul {K : PySem.W.Frag} : OpS K rMul3 pMul := by
  intro B σ Hs H ρ x y a b k Q' ok hd ra rb h fin
  obtain ⟨d, f⟩ := a
  obtain ⟨e, f2⟩ := b
  have hz : sizeLine = 16777216 := sizeLine_eq
  unfold pMul at h
  cases d <;> try exact h.elim
  · cases e <;> try exact h.elim
    rename_i i j
    obtain rfl := ra.int
    obtain rfl := rb.int
    exact .inl ⟨i, j, rfl, rfl, h.1, fin_at ok fin (fun _ => R.i) h.2⟩
  · cases e <;> try exact h.elim
    rename_i i j
    obtain rfl := ra.str
    obtain rfl := rb.int
    exact .inr (.inl ⟨i, j, rfl, rfl, ⟨h.1, h.2.1, h.2.2.1⟩, fin_at ok fin (fun _ => R.s) h.2.2.2⟩)
  · cases e <;> try exact h.elim
    rename_i xs n
    obtain ⟨p, vs, rfl, hp, rp⟩ := ra
    obtain rfl := rb.int
    obtain ⟨h1, h2, h3, h⟩ := h
    have hl := rp.len
    refine .inr (.inr ⟨p, n, vs, rfl, rfl, hp, by omega, by omega, by rw [← hl]; omega, fun u hu => ?_⟩)
    have rep : ∀ m : Nat, Rs K (GF B (mset σ ρ) Hs f) H (List.replicate m xs).flatten (List.replicate m vs).flatten := fun m => by
      induction m with
      | zero => exact Rs.nil
      | succ m ih => rw [List.replicate_succ, List.replicate_succ, List.flatten_cons, List.flatten_cons]; exact rp.append ih
    obtain ⟨o1, o2⟩ := new_nl ok hd hu (rep n.toNat)
    exact fin _ _ _ o1 (All.new hu).step o2 h

/-! ### rules -/
section
variable {X : Cx} {e a b c : Expr} {pos : Pos} {da db dc : TD}
theorem de_name (i : Nat) {x : Str} {pos : Pos} (hN : X.N[i]? = some x := by rfl) (hv : Vis X.env.scope x := by first | exact Or.inl rfl | exact Or.inr (Or.inl rfl) | exact Or.inr (Or.inr rfl)) (hd : (x == ("__debug__" : Str)) = false := by decide)
    (hcd : (x == ("__classdict__" : Str)) = false := by decide) : DE X (.Name x pos) (dVar i) := ⟨_, pe_var hN hv hd hcd, ev_var i⟩
theorem de_nameF (i : Nat) {x : Str} {pos : Pos} (hN : X.N[i]? = some x := by rfl) (hv : Vis X.env.scope x := by first | exact Or.inl rfl | exact Or.inr (Or.inl rfl) | exact Or.inr (Or.inr rfl)) (hd : (x == ("__debug__" : Str)) = false := by decide)
    (hcd : (x == ("__classdict__" : Str)) = false := by decide) : DE X (.Name x pos) (dVarF i) := ⟨_, pe_var hN hv hd hcd, ev_varF i⟩
theorem de_int {i j pos} : DE X (.Constant (.int i) j pos) (dC (.int i)) := ⟨_, pe_int, ev_c fun _ _ => R.i⟩
theorem de_bl {b j pos} : DE X (.Constant (.bool b) j pos) (dC (.bl b)) := ⟨_, pe_bl, ev_c fun _ _ => R.b⟩
theorem de_non {j pos} : DE X (.Constant .none j pos) (dC .non) := ⟨_, pe_non, ev_c fun _ _ => R.n⟩
theorem de_str {x j pos} : DE X (.Constant (.str x) j pos) (dC (.str x)) := ⟨_, pe_str, ev_c fun _ _ => R.s⟩
theorem de_globI {x : Str} {i : Int} {t : Tok} {pos : Pos} (hm : X.mg x = some (.int i t)) (hg : Gl X x := by rfl) (hd : (x == ("__debug__" : Str)) = false := by decide) : DE X (.Name x pos) (dC (.int i)) :=
  ⟨_, pe_glob (v := .int i) hg hm ⟨t, rfl⟩ hd, ev_c fun _ _ => R.i⟩
theorem de_add (ha : DE X a da) (hb : DE X b db) : DE X (.BinOp a .Add b pos) (dOp pAdd da db) := let ⟨_, p1, e1⟩ := ha; let ⟨_, p2, e2⟩ := hb; ⟨_, pe_op op_add4 p1 p2, ev_op ops_add e1 e2⟩
theorem de_mul (ha : DE X a da) (hb : DE X b db) : DE X (.BinOp a .Mult b pos) (dOp pMul da db) := let ⟨_, p1, e1⟩ := ha; let ⟨_, p2, e2⟩ := hb; ⟨_, pe_op op_mul3 p1 p2, ev_op ops_mul e1 e2⟩
def pSub : Op2 := pI (fun _ _ => True) fun i j => .int (i - j)
theorem de_sub (ha : DE X a da) (hb : DE X b db) : DE X (.BinOp a .Sub b pos) (dOp pSub da db) := let ⟨_, p1, e1⟩ := ha; let ⟨_, p2, e2⟩ := hb; ⟨_, pe_op op_sub p1 p2, ev_op ops_I0 e1 e2⟩
def pMod : Op2 := pI (fun _ j => 0 < j) fun i j => .int (i % j)
theorem de_mod (ha : DE X a da) (hb : DE X b db) : DE X (.BinOp a .Mod b pos) (dOp pMod da db) := let ⟨_, p1, e1⟩ := ha; let ⟨_, p2, e2⟩ := hb; ⟨_, pe_op op_mod p1 p2, ev_op ops_I e1 e2⟩
def pFdiv : Op2 := pI CDiv fun i j => .int (i / j)
theorem de_fdiv (ha : DE X a da) (hb : DE X b db) : DE X (.BinOp a .FloorDiv b pos) (dOp pFdiv da db) := let ⟨_, p1, e1⟩ := ha; let ⟨_, p2, e2⟩ := hb; ⟨_, pe_op op_fdiv p1 p2, ev_op ops_I e1 e2⟩
def pShl : Op2 := pI CShl fun i j => .int (i * 2 ^ j.toNat)
theorem de_shl (ha : DE X a da) (hb : DE X b db) : DE X (.BinOp a .LShift b pos) (dOp pShl da db) := let ⟨_, p1, e1⟩ := ha; let ⟨_, p2, e2⟩ := hb; ⟨_, pe_op op_shlW p1 p2, ev_op ops_I e1 e2⟩
def pShr : Op2 := pI (fun _ j => 0 ≤ j) fun i j => .int (i / 2 ^ j.toNat)
theorem de_shr (ha : DE X a da) (hb : DE X b db) : DE X (.BinOp a .RShift b pos) (dOp pShr da db) := let ⟨_, p1, e1⟩ := ha; let ⟨_, p2, e2⟩ := hb; ⟨_, pe_op op_shr p1 p2, ev_op ops_I e1 e2⟩
def pAnd : Op2 := pI (fun _ _ => True) fun i j => .int (Builtin.bitAnd i j)
theorem de_and (ha : DE X a da) (hb : DE X b db) : DE X (.BinOp a .BitAnd b pos) (dOp pAnd da db) := let ⟨_, p1, e1⟩ := ha; let ⟨_, p2, e2⟩ := hb; ⟨_, pe_op op_and p1 p2, ev_op ops_I0 e1 e2⟩
def pOr : Op2 := pI (fun _ _ => True) fun i j => .int (Builtin.bitOr i j)
theorem de_or (ha : DE X a da) (hb : DE X b db) : DE X (.BinOp a .BitOr b pos) (dOp pOr da db) := let ⟨_, p1, e1⟩ := ha; let ⟨_, p2, e2⟩ := hb; ⟨_, pe_op L2.op_or p1 p2, ev_op ops_I0 e1 e2⟩
def pXor : Op2 := pI (fun _ _ => True) fun i j => .int (Builtin.bitXor i j)
theorem de_xor (ha : DE X a da) (hb : DE X b db) : DE X (.BinOp a .BitXor b pos) (dOp pXor da db) := let ⟨_, p1, e1⟩ := ha; let ⟨_, p2, e2⟩ := hb; ⟨_, pe_op op_xor p1 p2, ev_op ops_I0 e1 e2⟩
end
end DL

namespace DL
open PySem L2
variable [Tabs]

/-! ### == -/
/-- a key as data -/
def kD : Key → D
  | .inl i => .int i
  | .inr s => .str s
def kP : Key → PyData
  | .inl i => .int i
  | .inr s => .str s
mutual
def toPy : D → PyData
  | .non => .none
  | .bl b => .bool b
  | .int i => .int i
  | .str s => .str s
  | .tup ds => .tuple (toPys ds)
  | .lst ds => .list (toPys ds)
  | .fz ds => .list (toPys ds)
  | .dic _ _ => .dict []
  | .dit _ _ => .dict []
  | .un _ => .dict []
  | .tux ds => .tuple (toPys ds)
  | .tk ks => .tuple (ks.map kP)
  | .obj _ => .dict []
  | .clo _ _ => .dict []
def toPys : List D → List PyData
  | [] => []
  | d :: ds => toPy d :: toPys ds
end
mutual
/-- no dict in it -/
def nod : D → Bool
  | .tup ds => nods ds
  | .tux ds => nods ds
  | .obj _ => false
  | .clo _ _ => false
  | .lst ds => nods ds
  | .fz ds => nods ds
  | .dic _ _ => false
  | .dit _ _ => false
  | .un _ => false
  | _ => true
def nods : List D → Bool
  | [] => true
  | d :: ds => nod d && nods ds
end
theorem dp_keys {K : PySem.W.Frag} {H : Hp} : ∀ ks : List Key, DpAll K H (ks.map kV) (ks.map kP)
  | [] => .nil
  | .inl _ :: ks => .cons (.int _) (dp_keys ks)
  | .inr _ :: ks => .cons (.str _) (dp_keys ks)
mutual
theorem dp_of {K : PySem.W.Frag} {G : Addr → Prop} {H : Hp} : ∀ {d : D} {v : V}, nod d = true → R K G H d v → Dp K H v (toPy d)
  | .non, _, _, h => by unfold R at h; subst h; exact .non
  | .bl _, _, _, h => by unfold R at h; subst h; exact .bl _
  | .int _, _, _, h => by unfold R at h; subst h; exact .int _
  | .str _, _, _, h => by unfold R at h; subst h; exact .str _
  | .tup _, _, q, h => by
    unfold R at h
    unfold nod at q
    obtain ⟨a, vs, rfl, s, r⟩ := h
    exact .tup s (dps_of q r)
  | .lst _, _, q, h => by
    unfold R at h
    unfold nod at q
    obtain ⟨a, vs, rfl, s, _, r⟩ := h
    exact .lst (SqL.of s) (dps_of q r)
  | .fz _, _, q, h => by
    unfold R at h
    unfold nod at q
    obtain ⟨a, vs, rfl, s, r⟩ := h
    exact .lst s.seq (dps_of q r)
  | .dic _ _, _, q, _ => by unfold nod at q; cases q
  | .dit _ _, _, q, _ => by unfold nod at q; cases q
  | .un _, _, q, _ => by unfold nod at q; cases q
  | .tux _, _, q, h => by
    unfold R at h
    unfold nod at q
    obtain ⟨a, vs, o, rfl, s, _, _, r⟩ := h
    exact .tup (.inl (.inr ⟨o, s⟩)) (dps_of q r)
  | .tk ks, _, _, h => by
    unfold R at h
    obtain ⟨a, rfl, s⟩ := h
    exact .tup (.inl (.inl s)) (dp_keys ks)
  | .obj _, _, q, _ => by unfold nod at q; cases q
  | .clo _ _, _, q, _ => by unfold nod at q; cases q
theorem dps_of {K : PySem.W.Frag} {G : Addr → Prop} {H : Hp} : ∀ {ds : List D} {vs : List V}, nods ds = true → Rs K G H ds vs → DpAll K H vs (toPys ds)
  | [], _, _, h => by unfold Rs at h; subst h; exact .nil
  | _ :: _, _, q, h => by
    unfold Rs at h
    unfold nods at q
    rw [Bool.and_eq_true] at q
    obtain ⟨v, r, rfl, h1, h2⟩ := h
    exact .cons (dp_of q.1 h1) (dps_of q.2 h2)
end
def eqD (d e : D) : Bool := PyData.eqv (toPy d) (toPy e)
/-- what may be compared: no dicts, and texts and depths within the line -/
def cmpOk (d : D) : Bool := nod d && SeqAt.shaped (toPy d)
def both (d e : D) : Bool := match d, e with
  | .str _, .str _ => true
  | d, e => cmpOk d && cmpOk e
theorem eqD_str (s t : Str) : eqD (.str s) (.str t) = decide (s = t) := by unfold eqD toPy PyData.eqv; rw [Bool.eq_iff_iff]; simp
theorem eqD_int (i j : Int) : eqD (.int i) (.int j) = decide (i = j) := by unfold eqD toPy PyData.eqv; rw [Bool.eq_iff_iff]; simp
theorem eqD_bl (i j : Bool) : eqD (.bl i) (.bl j) = decide (i = j) := by unfold eqD toPy PyData.eqv; rw [Bool.eq_iff_iff]; simp
def pEq (neg : Bool) : Op2 := fun a b k => both a.d b.d = true ∧ k (.v (.bl (neg ^^ eqD a.d b.d)) .n)
def rEq2 (K : PySem.W.Frag) : R2 := fun x y H Q => rEq x y H Q ∨ rEqD K x y H Q
def rNe2 (K : PySem.W.Frag) : R2 := fun x y H Q => rNe x y H Q ∨ rNeD K x y H Q
theorem ops_eq {K : PySem.W.Frag} : OpS K (rEq2 K) (pEq false) := by
  intro B σ Hs H ρ x y a b k Q' ok hd ra rb h fin
  obtain ⟨d, f⟩ := a
  obtain ⟨e, f2⟩ := b
  obtain ⟨h1, h⟩ := h
  rw [Bool.false_xor] at h
  by_cases hs : (∃ s t, d = .str s ∧ e = .str t)
  · obtain ⟨s, t, rfl, rfl⟩ := hs
    obtain rfl := ra.str
    obtain rfl := rb.str
    refine .inl ⟨rfl, fin_at ok fin (fun _ => R.b) ?_⟩
    have e : decide (V.str s = V.str t) = eqD (.str s) (.str t) := by rw [eqD_str, Bool.eq_iff_iff]; simp
    rw [e]; exact h
  · have hc : cmpOk d = true ∧ cmpOk e = true := by
      unfold both at h1
      cases d <;> cases e <;> first | exact absurd ⟨_, _, rfl, rfl⟩ hs | (rw [Bool.and_eq_true] at h1; exact h1)
    obtain ⟨c1, c2⟩ := hc
    unfold cmpOk at c1 c2
    rw [Bool.and_eq_true] at c1 c2
    exact .inr ⟨toPy d, toPy e, dp_of c1.1 ra.all, dp_of c2.1 rb.all, c1.2, c2.2, fin_at ok fin (fun _ => R.b) h⟩
theorem ops_ne {K : PySem.W.Frag} : OpS K (rNe2 K) (pEq true) := by
  intro B σ Hs H ρ x y a b k Q' ok hd ra rb h fin
  obtain ⟨d, f⟩ := a
  obtain ⟨e, f2⟩ := b
  obtain ⟨h1, h⟩ := h
  rw [Bool.true_xor] at h
  by_cases hs : (∃ s t, d = .str s ∧ e = .str t)
  · obtain ⟨s, t, rfl, rfl⟩ := hs
    obtain rfl := ra.str
    obtain rfl := rb.str
    refine .inl ⟨rfl, fin_at ok fin (fun _ => R.b) ?_⟩
    have e : decide (V.str s = V.str t) = eqD (.str s) (.str t) := by rw [eqD_str, Bool.eq_iff_iff]; simp
    rw [e]; exact h
  · have hc : cmpOk d = true ∧ cmpOk e = true := by
      unfold both at h1
      cases d <;> cases e <;> first | exact absurd ⟨_, _, rfl, rfl⟩ hs | (rw [Bool.and_eq_true] at h1; exact h1)
    obtain ⟨c1, c2⟩ := hc
    unfold cmpOk at c1 c2
    rw [Bool.and_eq_true] at c1 c2
    exact .inr ⟨toPy d, toPy e, dp_of c1.1 ra.all, dp_of c2.1 rb.all, c1.2, c2.2, fin_at ok fin (fun _ => R.b) h⟩

/-! ### in -/
def flat : D → Bool
  | .non => true
  | .bl _ => true
  | .int _ => true
  | .str _ => true
  | _ => false
def eqF : D → D → Bool
  | .non, .non => true
  | .bl a, .bl b => a == b
  | .bl a, .int b => (if a then 1 else 0) == b
  | .int a, .bl b => a == (if b then 1 else 0)
  | .int a, .int b => a == b
  | .str a, .str b => a == b
  | _, _ => false
def inF (x : D) (xs : List D) : Bool := xs.any fun y => eqF y x
theorem flat_v {K : PySem.W.Frag} {G : Addr → Prop} {H : Hp} {d : D} {v : V} (f : flat d = true) (h : R K G H d v) : flatV v = true := by
  cases d <;> first | (unfold R at h; subst h; rfl) | cases f
theorem eqF_v {K : PySem.W.Frag} {G : Addr → Prop} {H : Hp} {d e : D} {v u : V} (f : flat d = true) (g : flat e = true) (h : R K G H d v) (h2 : R K G H e u) : eqV v u = eqF d e := by
  cases d <;> first | (unfold R at h; subst h; cases e <;> first | (unfold R at h2; subst h2; rfl) | cases g) | cases f
theorem flats_v {K : PySem.W.Frag} {G : Addr → Prop} {H : Hp} : ∀ {ds : List D} {vs : List V}, ds.all flat = true → Rs K G H ds vs → vs.all flatV = true
  | [], _, _, h => by unfold Rs at h; subst h; rfl
  | d :: ds, _, q, h => by
    unfold Rs at h
    rw [List.all_cons, Bool.and_eq_true] at q
    obtain ⟨v, r, rfl, h1, h2⟩ := h
    rw [List.all_cons, flat_v q.1 h1, flats_v q.2 h2]; rfl
theorem inF_v {K : PySem.W.Frag} {G : Addr → Prop} {H : Hp} {e : D} {u : V} (g : flat e = true) (h2 : R K G H e u) : ∀ {ds : List D} {vs : List V}, ds.all flat = true → Rs K G H ds vs → inV u vs = inF e ds
  | [], _, _, h => by unfold Rs at h; subst h; rfl
  | d :: ds, _, q, h => by
    unfold Rs at h
    rw [List.all_cons, Bool.and_eq_true] at q
    obtain ⟨v, r, rfl, h1, h3⟩ := h
    have ih := inF_v g h2 q.2 h3
    unfold inV inF at ih ⊢
    rw [List.any_cons, List.any_cons, eqF_v q.1 g h1 h2, ih]
/-- a list's, tuple's items -/
def itemsOf : D → Option (List D)
  | .tux ds => some ds
  | .lst ds => some ds
  | .fz ds => some ds
  | .tup ds => some ds
  | .tk ks => some (ks.map kD)
  | _ => none
theorem rs_keys {K : PySem.W.Frag} {G : Addr → Prop} {H : Hp} : ∀ ks : List Key, Rs K G H (ks.map kD) (ks.map kV)
  | [] => Rs.nil
  | .inl _ :: ks => Rs.cons (by unfold kD R; rfl) (rs_keys ks)
  | .inr _ :: ks => Rs.cons (by unfold kD R; rfl) (rs_keys ks)
theorem RO.items {K : PySem.W.Frag} {G : Addr → Prop} {H : Hp} {d : D} {v : V} {ds : List D} (h : RO K G H d v) (e : itemsOf d = some ds) : ∃ a vs, v = .ref a ∧ (SqL K H a vs ∨ SqT K H a vs) ∧ Rs K G H ds vs := by
  cases d with
  | lst xs => cases e; obtain ⟨a, vs, rfl, q, r⟩ := h; exact ⟨a, vs, rfl, .inl (SqL.of q), r⟩
  | fz xs => cases e; obtain ⟨a, vs, rfl, q, r⟩ := h.fz; exact ⟨a, vs, rfl, .inl q.seq, r⟩
  | tup xs => cases e; obtain ⟨a, vs, rfl, q, r⟩ := h.tup; exact ⟨a, vs, rfl, .inr q, r⟩
  | tk ks => cases e; unfold RO R at h; obtain ⟨a, rfl, q⟩ := h; exact ⟨a, _, rfl, .inr (.inl (.inl q)), rs_keys ks⟩
  | tux xs => cases e; unfold RO R at h; obtain ⟨a, vs, o, rfl, q, _, _, r⟩ := h; exact ⟨a, vs, rfl, .inr (.inl (.inr ⟨o, q⟩)), r⟩
  | _ => cases e
def pIn (neg : Bool) : Op2 := fun a b k => match b.d with
  | .str z => ∃ c : Nat, a.d = .str ⟨#[c]⟩ ∧ k (.v (.bl (neg ^^ decide (c ∈ z.cps.toList))) .n)
  | _ => ∃ ds, itemsOf b.d = some ds ∧ flat a.d = true ∧ ds.all flat = true ∧ k (.v (.bl (neg ^^ inF a.d ds)) .n)
def rIn2 (K : PySem.W.Frag) (neg : Bool) : R2 := fun x y H Q => rIn K neg x y H Q ∨ ∃ (c : Nat) (z : Str), x = .str ⟨#[c]⟩ ∧ y = .str z ∧ Q (.bl (neg ^^ decide (c ∈ z.cps.toList))) H
theorem op_in2 {X : Cx} : OpR X (compareOp .In) (rIn2 X.K false) := by
  have h : OpR X (compareOp .In) (fun x y H Q => rIn X.K false x y H Q ∨ ∃ (c : Nat) (z : Str), x = .str ⟨#[c]⟩ ∧ y = .str z ∧ Q (.bl (decide (c ∈ z.cps.toList))) H) := op_in_seq.or op_in_sign
  intro pins s σ H x y v u Q I rx ry q
  refine h pins s σ H x y v u Q I rx ry (q.imp id fun ⟨c, z, e1, e2, q⟩ => ⟨c, z, e1, e2, ?_⟩)
  rw [Bool.false_xor] at q; exact q
theorem op_notin2 {X : Cx} : OpR X (compareOp .NotIn) (rIn2 X.K true) := by
  have h : OpR X (compareOp .NotIn) (fun x y H Q => rIn X.K true x y H Q ∨ ∃ (c : Nat) (z : Str), x = .str ⟨#[c]⟩ ∧ y = .str z ∧ Q (.bl (!decide (c ∈ z.cps.toList))) H) := op_notIn_seq.or op_notIn_sign
  intro pins s σ H x y v u Q I rx ry q
  refine h pins s σ H x y v u Q I rx ry (q.imp id fun ⟨c, z, e1, e2, q⟩ => ⟨c, z, e1, e2, ?_⟩)
  rw [Bool.true_xor] at q; exact q
theorem ops_in {K : PySem.W.Frag} {neg : Bool} : OpS K (rIn2 K neg) (pIn neg) := by
  intro B σ Hs H ρ x y a b k Q' ok hd ra rb h fin
  obtain ⟨d, f⟩ := a
  obtain ⟨e, f2⟩ := b
  have seq : (∃ ds, itemsOf e = some ds ∧ flat d = true ∧ ds.all flat = true ∧ k (.v (.bl (neg ^^ inF d ds)) .n)) → rIn2 K neg x y H Q' := fun ⟨ds, e1, e2, e3, q⟩ => by
    obtain ⟨p, vs, rfl, hs, r⟩ := rb.items e1
    have rx : R K (fun _ => True) H d x := ra.all
    have rs : Rs K (fun _ => True) H ds vs := r.mono Keep.refl fun _ _ _ => True.intro
    refine .inl ⟨p, vs, rfl, hs, flat_v e2 rx, flats_v e3 rs, ?_⟩
    rw [inF_v e2 rx e3 rs]
    cases neg with
    | true => exact fin_at ok fin (fun _ => R.b) (by rw [Bool.true_xor] at q; exact q)
    | false => exact fin_at ok fin (fun _ => R.b) (by rw [Bool.false_xor] at q; exact q)
  cases e with
  | str z =>
    obtain ⟨c, rfl, q⟩ := h
    obtain rfl := ra.str
    obtain rfl := rb.str
    exact .inr ⟨c, z, rfl, rfl, fin_at ok fin (fun _ => R.b) q⟩
  | _ => exact seq h

/-! ### is None -/
def isNon : D → Bool
  | .non => true
  | _ => false
def pIs (neg : Bool) : Op2 := fun a b k => b.d = .non ∧ k (.v (.bl (neg ^^ isNon a.d)) .n)
theorem isNon_v {K : PySem.W.Frag} {G : Addr → Prop} {H : Hp} {d : D} {v : V} (h : R K G H d v) : decide (v = .non) = isNon d := by
  cases d <;> unfold R at h <;> first | (subst h; rfl) | (obtain ⟨a, vs, rfl, _⟩ := h; rfl) | (obtain ⟨a, vs, o, rfl, _⟩ := h; rfl) | (obtain ⟨⟨a, rfl⟩, _⟩ := h; rfl) | (obtain ⟨a, rfl, _⟩ := h; rfl)
theorem ops_is {K : PySem.W.Frag} : OpS K (fun x y H Q => y = .non ∧ Q (.bl (decide (x = .non))) H) (pIs false) := by
  intro B σ Hs H ρ x y a b k Q' ok hd ra rb h fin
  obtain ⟨e, h⟩ := h
  rw [e] at rb
  refine ⟨rb.non, ?_⟩
  rw [isNon_v ra.all]
  exact fin_at ok fin (fun _ => R.b) (by rw [Bool.false_xor] at h; exact h)
theorem ops_isN {K : PySem.W.Frag} : OpS K (fun x y H Q => y = .non ∧ Q (.bl (!decide (x = .non))) H) (pIs true) := by
  intro B σ Hs H ρ x y a b k Q' ok hd ra rb h fin
  obtain ⟨e, h⟩ := h
  rw [e] at rb
  refine ⟨rb.non, ?_⟩
  rw [isNon_v ra.all]
  exact fin_at ok fin (fun _ => R.b) (by rw [Bool.true_xor] at h; exact h)

/-! ### x[i] of lists, tuples, texts -/
theorem atI_ix {α : Type} {xs : List α} {i : Int} {v : α} (h : atI xs i = some v) : ∃ j, ixN xs.length i = some j ∧ xs[j]? = some v := by
  unfold atI at h
  cases e : ixN xs.length i with
  | none => rw [e] at h; cases h
  | some j => rw [e] at h; exact ⟨j, rfl, h⟩
theorem Rs.at {K : PySem.W.Frag} {G : Addr → Prop} {H : Hp} {ds : List D} {vs : List V} {i : Int} {d : D} (h : Rs K G H ds vs) (e : atI ds i = some d) : ∃ v, atI vs i = some v ∧ R K G H d v := by
  obtain ⟨j, e1, e2⟩ := atI_ix e
  obtain ⟨v, e3, r⟩ := h.get e2
  refine ⟨v, ?_, r⟩
  unfold atI
  rw [← h.len, e1]
  exact e3
def pIx : Op2 := fun a b k => match a.d with
  | .str z => ∃ (i : Int) (c : Nat), b.d = .int i ∧ z.length ≤ sizeLine ∧ atI z.cps.toList i = some c ∧ k (.v (.str ⟨#[c]⟩) .n)
  | _ => ∃ ds i d, itemsOf a.d = some ds ∧ b.d = .int i ∧ atI ds i = some d ∧ k (.v d a.f)
theorem ops_ix {K : PySem.W.Frag} : OpS K (rIx K) pIx := by
  intro B σ Hs H ρ x y a b k Q' ok hd ra rb h fin
  obtain ⟨d, f⟩ := a
  obtain ⟨e, f2⟩ := b
  have seq : (∃ ds i d', itemsOf d = some ds ∧ e = .int i ∧ atI ds i = some d' ∧ k (.v d' f)) → rIx K x y H Q' := fun ⟨ds, i, d', e1, e2, e3, q⟩ => by
    subst e2
    obtain rfl := rb.int
    obtain ⟨p, vs, rfl, hs, r⟩ := ra.items e1
    obtain ⟨v, e4, rv⟩ := r.at e3
    rcases hs with hs | hs
    · exact .inl ⟨p, vs, i, v, rfl, rfl, hs, e4, fin v H (.v d' f) ok Stp.refl rv q⟩
    · exact .inr (.inl ⟨p, vs, i, v, rfl, rfl, hs, e4, fin v H (.v d' f) ok Stp.refl rv q⟩)
  cases d with
  | str z =>
    obtain ⟨i, c, rfl, h1, h2, q⟩ := h
    obtain rfl := ra.str
    obtain rfl := rb.int
    exact .inr (.inr ⟨z, i, c, rfl, rfl, h1, h2, fin_at ok fin (fun _ => R.s) q⟩)
  | _ => exact seq h

section
variable {X : Cx} {e a b c : Expr} {pos : Pos} {da db dc : TD} {k : Nat}
theorem de_eq (hr : Room k X.A) (ha : DE X a da) (hb : DE X b db) : DE X (.Compare a [.Eq] [b] pos) (dOp (pEq false) da db) := let ⟨_, p1, e1⟩ := ha; let ⟨_, p2, e2⟩ := hb; ⟨_, pe_cmpR (op_eq.or (op_eqD hr.units)) p1 p2 (nomark _), ev_op ops_eq e1 e2⟩
theorem de_ne (hr : Room k X.A) (ha : DE X a da) (hb : DE X b db) : DE X (.Compare a [.NotEq] [b] pos) (dOp (pEq true) da db) := let ⟨_, p1, e1⟩ := ha; let ⟨_, p2, e2⟩ := hb; ⟨_, pe_cmpR (op_ne.or (op_neD hr.units)) p1 p2 (nomark _), ev_op ops_ne e1 e2⟩
def pCmp (g : Int → Int → Bool) : Op2 := pI (fun _ _ => True) fun i j => .bl (g i j)
theorem de_lt (ha : DE X a da) (hb : DE X b db) : DE X (.Compare a [.Lt] [b] pos) (dOp (pCmp fun i j => decide (i < j)) da db) := let ⟨_, p1, e1⟩ := ha; let ⟨_, p2, e2⟩ := hb; ⟨_, pe_cmpR op_lt p1 p2 (nomark _), ev_op ops_IB e1 e2⟩
theorem de_le (ha : DE X a da) (hb : DE X b db) : DE X (.Compare a [.LtE] [b] pos) (dOp (pCmp fun i j => decide (i ≤ j)) da db) := let ⟨_, p1, e1⟩ := ha; let ⟨_, p2, e2⟩ := hb; ⟨_, pe_cmpR op_le p1 p2 (nomark _), ev_op ops_IB e1 e2⟩
theorem de_gt (ha : DE X a da) (hb : DE X b db) : DE X (.Compare a [.Gt] [b] pos) (dOp (pCmp fun i j => decide (j < i)) da db) := let ⟨_, p1, e1⟩ := ha; let ⟨_, p2, e2⟩ := hb; ⟨_, pe_cmpR op_gt p1 p2 (nomark _), ev_op ops_IB e1 e2⟩
theorem de_ge (ha : DE X a da) (hb : DE X b db) : DE X (.Compare a [.GtE] [b] pos) (dOp (pCmp fun i j => decide (j ≤ i)) da db) := let ⟨_, p1, e1⟩ := ha; let ⟨_, p2, e2⟩ := hb; ⟨_, pe_cmpR op_ge p1 p2 (nomark _), ev_op ops_IB e1 e2⟩
theorem de_in (ha : DE X a da) (hb : DE X b db) (hm : behindInMarks .In b = false := by rfl) : DE X (.Compare a [.In] [b] pos) (dOp (pIn false) da db) := let ⟨_, p1, e1⟩ := ha; let ⟨_, p2, e2⟩ := hb; ⟨_, pe_cmpR op_in2 p1 p2 hm, ev_op ops_in e1 e2⟩
theorem de_notin (ha : DE X a da) (hb : DE X b db) (hm : behindInMarks .NotIn b = false := by rfl) : DE X (.Compare a [.NotIn] [b] pos) (dOp (pIn true) da db) := let ⟨_, p1, e1⟩ := ha; let ⟨_, p2, e2⟩ := hb; ⟨_, pe_cmpR op_notin2 p1 p2 hm, ev_op ops_in e1 e2⟩
theorem de_is (ha : DE X a da) (hb : DE X b db) : DE X (.Compare a [.Is] [b] pos) (dOp (pIs false) da db) := let ⟨_, p1, e1⟩ := ha; let ⟨_, p2, e2⟩ := hb; ⟨_, pe_cmpR op_isN p1 p2 (nomark _), ev_op ops_is e1 e2⟩
theorem de_isnot (ha : DE X a da) (hb : DE X b db) : DE X (.Compare a [.IsNot] [b] pos) (dOp (pIs true) da db) := let ⟨_, p1, e1⟩ := ha; let ⟨_, p2, e2⟩ := hb; ⟨_, pe_cmpR op_notN p1 p2 (nomark _), ev_op ops_isN e1 e2⟩
theorem de_ix (ha : DE X a da) (hb : DE X b db) (hs : PlainIx b := by intro _ _; rfl) : DE X (.Subscript a b pos) (dOp pIx da db) := let ⟨_, p1, e1⟩ := ha; let ⟨_, p2, e2⟩ := hb; ⟨_, pe_ix ix_seq p1 p2 hs, ev_op ops_ix e1 e2⟩
end

theorem rel_b {K : PySem.W.Frag} {B : Bx} {Hs H : Hp} {σ : L2.St} {ρ : En} {b : Bool} : RelR K B Hs H σ ρ (.bl b) (.v (.bl b) .n) := show R K (GF B (mset σ ρ) Hs .n) H (.bl b) (.bl b) from R.b
theorem rel_i {K : PySem.W.Frag} {B : Bx} {Hs H : Hp} {σ : L2.St} {ρ : En} {b : Int} : RelR K B Hs H σ ρ (.int b) (.v (.int b) .n) := show R K (GF B (mset σ ρ) Hs .n) H (.int b) (.int b) from R.i
theorem rel_s {K : PySem.W.Frag} {B : Bx} {Hs H : Hp} {σ : L2.St} {ρ : En} {b : Str} : RelR K B Hs H σ ρ (.str b) (.v (.str b) .n) := show R K (GF B (mset σ ρ) Hs .n) H (.str b) (.str b) from R.s
/-! ### tests -/
def isB : D → Bool → Prop
  | .bl b, c => c = b
  | _, _ => False
def dTest (d : TD) : TB := fun ρ Q => d ρ fun r ρ1 => ∃ b, (ob ρ1 r).d = .bl b ∧ Q b ρ1
theorem obR {K : PySem.W.Frag} {B : Bx} {Hs H : Hp} {σ : L2.St} {ρ : En} {v : V} {r : Rv} (k : Ok K B H σ ρ) (hd : ∀ a, B.H0 a ≠ none → Hs a ≠ none) (h : RelR K B Hs H σ ρ v r) : RO K (GF B (mset σ ρ) Hs (ob ρ r).f) H (ob ρ r).d v := Rg.ro k (h.rg hd)
theorem evt_test {K : PySem.W.Frag} {te : TE} {d : TD} (h : Ev1 K te d) : EvT K (tTest te) (dTest d) := fun B σ H ρ Q Q' k q fin =>
  h B σ H ρ _ _ k q fun v H1 r ρ1 k1 s1 n1 e1 ⟨b, eb, q1⟩ => by
    have ro := obR k1 k.dom e1
    rw [eb] at ro
    exact ⟨b, ro.bl, fin b H1 ρ1 k1 s1 n1 q1⟩
theorem evt_tB {K : PySem.W.Frag} {te : TE} {d : TD} (h : Ev1 K te d) : EvT K (tB te) (dTest d) := evt_test h
def dAndT (t u : TB) : TB := fun ρ Q => t ρ fun b ρ1 => (b = true → u ρ1 Q) ∧ (b = false → Q false ρ1)
def dOrT (t u : TB) : TB := fun ρ Q => t ρ fun b ρ1 => (b = true → Q true ρ1) ∧ (b = false → u ρ1 Q)
def dNotT (t : TB) : TB := fun ρ Q => t ρ fun b ρ1 => Q (!b) ρ1
theorem evt_and {K : PySem.W.Frag} {t u : TT} {dt du : TB} (h1 : EvT K t dt) (h2 : EvT K u du) : EvT K (tAnd t u) (dAndT dt du) := fun B σ H ρ Q Q' k q fin =>
  h1 B σ H ρ _ _ k q fun b H1 ρ1 k1 s1 n1 q1 => by
    cases b with
    | true => exact iteT (h2 B σ H1 ρ1 _ _ k1 (q1.1 rfl) fun b H2 ρ2 k2 s2 n2 q2 => fin b H2 ρ2 k2 (s1.trans s2) (n1.trans n2) q2)
    | false => exact iteF (fin false H1 ρ1 k1 s1 n1 (q1.2 rfl))
theorem evt_or {K : PySem.W.Frag} {t u : TT} {dt du : TB} (h1 : EvT K t dt) (h2 : EvT K u du) : EvT K (tOr t u) (dOrT dt du) := fun B σ H ρ Q Q' k q fin =>
  h1 B σ H ρ _ _ k q fun b H1 ρ1 k1 s1 n1 q1 => by
    cases b with
    | false => exact iteF (h2 B σ H1 ρ1 _ _ k1 (q1.2 rfl) fun b H2 ρ2 k2 s2 n2 q2 => fin b H2 ρ2 k2 (s1.trans s2) (n1.trans n2) q2)
    | true => exact iteT (fin true H1 ρ1 k1 s1 n1 (q1.1 rfl))
theorem evt_not {K : PySem.W.Frag} {t : TT} {dt : TB} (h1 : EvT K t dt) : EvT K (tNot t) (dNotT dt) := fun B σ H ρ Q Q' k q fin =>
  h1 B σ H ρ _ _ k q fun b H1 ρ1 k1 s1 n1 q1 => fin (!b) H1 ρ1 k1 s1 n1 q1
def dAndV (d e : TD) : TD := fun ρ Q => d ρ fun r ρ1 => ∃ b, (ob ρ1 r).d = .bl b ∧ (b = true → e ρ1 Q) ∧ (b = false → Q (.v (.bl false) .n) ρ1)
def dOrV (d e : TD) : TD := fun ρ Q => d ρ fun r ρ1 => ∃ b, (ob ρ1 r).d = .bl b ∧ (b = true → Q (.v (.bl true) .n) ρ1) ∧ (b = false → e ρ1 Q)
def dNotV (d : TD) : TD := fun ρ Q => d ρ fun r ρ1 => ∃ b, (ob ρ1 r).d = .bl b ∧ Q (.v (.bl (!b)) .n) ρ1
def dIfE (t : TB) (d e : TD) : TD := fun ρ Q => t ρ fun b ρ1 => (b = true → d ρ1 Q) ∧ (b = false → e ρ1 Q)
section
variable {K : PySem.W.Frag} {ta tb : TE} {d e : TD} {t : TT} {dt : TB}
theorem Ev1.after {B : Bx} {σ : L2.St} {H H1 : Hp} {ρ ρ1 : En} {Q : Rv → En → Prop} {Q' : VK} (h : Ev1 K ta d) (k1 : Ok K B H1 σ ρ1) (s1 : Stp σ H ρ H1 ρ1) (n1 : Kn ρ ρ1) (q : d ρ1 Q)
    (fin : ∀ v H' r ρ', Ok K B H' σ ρ' → Stp σ H ρ H' ρ' → Kn ρ ρ' → RelR K B H H' σ ρ' v r → Q r ρ' → Q' v H') : ta σ H1 Q' :=
  h B σ H1 ρ1 _ _ k1 q fun v H2 r ρ2 k2 s2 n2 e2 q2 => fin v H2 r ρ2 k2 (s1.trans s2) (n1.trans n2) (e2.base s1.dom) q2
theorem ev_andV (ha : Ev1 K ta d) (hb : Ev1 K tb e) : Ev1 K (tAndV ta tb) (dAndV d e) := fun B σ H ρ Q Q' k q fin =>
  ha B σ H ρ _ _ k q fun v H1 r ρ1 k1 s1 n1 e1 ⟨b, eb, q1⟩ => by
    have ro := obR k1 k.dom e1
    rw [eb] at ro
    refine ⟨b, ro.bl, ?_⟩
    cases b with
    | true => exact iteT (hb.after k1 s1 n1 (q1.1 rfl) fin)
    | false => exact iteF (fin (.bl false) H1 (.v (.bl false) .n) ρ1 k1 s1 n1 rel_b (q1.2 rfl))
theorem ev_orV (ha : Ev1 K ta d) (hb : Ev1 K tb e) : Ev1 K (tOrV ta tb) (dOrV d e) := fun B σ H ρ Q Q' k q fin =>
  ha B σ H ρ _ _ k q fun v H1 r ρ1 k1 s1 n1 e1 ⟨b, eb, q1⟩ => by
    have ro := obR k1 k.dom e1
    rw [eb] at ro
    refine ⟨b, ro.bl, ?_⟩
    cases b with
    | false => exact iteF (hb.after k1 s1 n1 (q1.2 rfl) fin)
    | true => exact iteT (fin (.bl true) H1 (.v (.bl true) .n) ρ1 k1 s1 n1 rel_b (q1.1 rfl))
theorem ev_notV (ha : Ev1 K ta d) : Ev1 K (tNotV ta) (dNotV d) := fun B σ H ρ Q Q' k q fin =>
  ha B σ H ρ _ _ k q fun v H1 r ρ1 k1 s1 n1 e1 ⟨b, eb, q1⟩ => by
    have ro := obR k1 k.dom e1
    rw [eb] at ro
    exact ⟨b, ro.bl, fin (.bl !b) H1 (.v (.bl !b) .n) ρ1 k1 s1 n1 rel_b q1⟩
theorem ev_ifE (ht : EvT K t dt) (ha : Ev1 K ta d) (hb : Ev1 K tb e) : Ev1 K (tIf t ta tb) (dIfE dt d e) := fun B σ H ρ Q Q' k q fin =>
  ht B σ H ρ _ _ k q fun b H1 ρ1 k1 s1 n1 q1 => by
    cases b with
    | true => exact iteT (ha.after k1 s1 n1 (q1.1 rfl) fin)
    | false => exact iteF (hb.after k1 s1 n1 (q1.2 rfl) fin)
end
section
variable {X : Cx} {e a b c : Expr} {rest : List Expr} {pos : Pos} {da db dc : TD} {ta tb : TB} {k : Nat}
/-- a comparison as a test -/
theorem dt_cmp {op : CmpOp} (h : DE X (.Compare a [op] [b] pos) da) (hp : ∃ te, PT X (.Compare a [op] [b] pos) te ∧ EvT X.K te (dTest da)) : DT X (.Compare a [op] [b] pos) (dTest da) := hp
theorem dt_eq (hr : Room k X.A) (ha : DE X a da) (hb : DE X b db) : DT X (.Compare a [.Eq] [b] pos) (dTest (dOp (pEq false) da db)) := let ⟨_, p1, e1⟩ := ha; let ⟨_, p2, e2⟩ := hb; ⟨_, pt_cmpR (op_eq.or (op_eqD hr.units)) p1 p2 (nomark _), evt_test (ev_op ops_eq e1 e2)⟩
theorem dt_ne (hr : Room k X.A) (ha : DE X a da) (hb : DE X b db) : DT X (.Compare a [.NotEq] [b] pos) (dTest (dOp (pEq true) da db)) := let ⟨_, p1, e1⟩ := ha; let ⟨_, p2, e2⟩ := hb; ⟨_, pt_cmpR (op_ne.or (op_neD hr.units)) p1 p2 (nomark _), evt_test (ev_op ops_ne e1 e2)⟩
theorem dt_lt (ha : DE X a da) (hb : DE X b db) : DT X (.Compare a [.Lt] [b] pos) (dTest (dOp (pCmp fun i j => decide (i < j)) da db)) := let ⟨_, p1, e1⟩ := ha; let ⟨_, p2, e2⟩ := hb; ⟨_, pt_cmpR op_lt p1 p2 (nomark _), evt_test (ev_op ops_IB e1 e2)⟩
theorem dt_le (ha : DE X a da) (hb : DE X b db) : DT X (.Compare a [.LtE] [b] pos) (dTest (dOp (pCmp fun i j => decide (i ≤ j)) da db)) := let ⟨_, p1, e1⟩ := ha; let ⟨_, p2, e2⟩ := hb; ⟨_, pt_cmpR op_le p1 p2 (nomark _), evt_test (ev_op ops_IB e1 e2)⟩
theorem dt_gt (ha : DE X a da) (hb : DE X b db) : DT X (.Compare a [.Gt] [b] pos) (dTest (dOp (pCmp fun i j => decide (j < i)) da db)) := let ⟨_, p1, e1⟩ := ha; let ⟨_, p2, e2⟩ := hb; ⟨_, pt_cmpR op_gt p1 p2 (nomark _), evt_test (ev_op ops_IB e1 e2)⟩
theorem dt_ge (ha : DE X a da) (hb : DE X b db) : DT X (.Compare a [.GtE] [b] pos) (dTest (dOp (pCmp fun i j => decide (j ≤ i)) da db)) := let ⟨_, p1, e1⟩ := ha; let ⟨_, p2, e2⟩ := hb; ⟨_, pt_cmpR op_ge p1 p2 (nomark _), evt_test (ev_op ops_IB e1 e2)⟩
theorem dt_in (ha : DE X a da) (hb : DE X b db) (hm : behindInMarks .In b = false := by rfl) : DT X (.Compare a [.In] [b] pos) (dTest (dOp (pIn false) da db)) := let ⟨_, p1, e1⟩ := ha; let ⟨_, p2, e2⟩ := hb; ⟨_, pt_cmpR op_in2 p1 p2 hm, evt_test (ev_op ops_in e1 e2)⟩
theorem dt_notin (ha : DE X a da) (hb : DE X b db) (hm : behindInMarks .NotIn b = false := by rfl) : DT X (.Compare a [.NotIn] [b] pos) (dTest (dOp (pIn true) da db)) := let ⟨_, p1, e1⟩ := ha; let ⟨_, p2, e2⟩ := hb; ⟨_, pt_cmpR op_notin2 p1 p2 hm, evt_test (ev_op ops_in e1 e2)⟩
theorem dt_is (ha : DE X a da) (hb : DE X b db) : DT X (.Compare a [.Is] [b] pos) (dTest (dOp (pIs false) da db)) := let ⟨_, p1, e1⟩ := ha; let ⟨_, p2, e2⟩ := hb; ⟨_, pt_cmpR op_isN p1 p2 (nomark _), evt_test (ev_op ops_is e1 e2)⟩
theorem dt_isnot (ha : DE X a da) (hb : DE X b db) : DT X (.Compare a [.IsNot] [b] pos) (dTest (dOp (pIs true) da db)) := let ⟨_, p1, e1⟩ := ha; let ⟨_, p2, e2⟩ := hb; ⟨_, pt_cmpR op_notN p1 p2 (nomark _), evt_test (ev_op ops_isN e1 e2)⟩
theorem dt_val (h : DE X e da) (he : ∀ whole, isTrue e X.env whole = (do let v ← whole; standAt e.pos; holding [v] (truthy v)) := by intro _; rfl) : DT X e (dTest da) := let ⟨_, p, ev⟩ := h; ⟨_, pt_val p he, evt_tB ev⟩
theorem dw_and1 (ha : DT X a ta) : DW X (.BoolOp .And [a] pos) ta := let ⟨_, p, ev⟩ := ha; ⟨_, pw_and1 p, ev⟩
theorem dw_or1 (ha : DT X a ta) : DW X (.BoolOp .Or [a] pos) ta := let ⟨_, p, ev⟩ := ha; ⟨_, pw_or1 p, ev⟩
theorem dw_and (ha : DT X a ta) (hb : DW X (.BoolOp .And (b :: rest) pos) tb) : DW X (.BoolOp .And (a :: b :: rest) pos) (dAndT ta tb) := let ⟨_, p1, e1⟩ := ha; let ⟨_, p2, e2⟩ := hb; ⟨_, pw_and p1 p2, evt_and e1 e2⟩
theorem dw_or (ha : DT X a ta) (hb : DW X (.BoolOp .Or (b :: rest) pos) tb) : DW X (.BoolOp .Or (a :: b :: rest) pos) (dOrT ta tb) := let ⟨_, p1, e1⟩ := ha; let ⟨_, p2, e2⟩ := hb; ⟨_, pw_or p1 p2, evt_or e1 e2⟩
theorem dt_w (h : DW X e ta) : DT X e ta := let ⟨_, p, ev⟩ := h; ⟨_, p.pt, ev⟩
theorem dt_not (ha : DT X a ta) : DT X (.UnaryOp .Not a pos) (dNotT ta) := let ⟨_, p, ev⟩ := ha; ⟨_, pt_not p, evt_not ev⟩
theorem de_one {op} (h : DE X a da) : DE X (.BoolOp op [a] pos) da := let ⟨_, p, ev⟩ := h; ⟨_, pe_one p, ev⟩
theorem de_andV (ha : DE X a da) (hb : DE X (.BoolOp .And (b :: rest) pos) db) : DE X (.BoolOp .And (a :: b :: rest) pos) (dAndV da db) := let ⟨_, p1, e1⟩ := ha; let ⟨_, p2, e2⟩ := hb; ⟨_, pe_and p1 p2, ev_andV e1 e2⟩
theorem de_orV (ha : DE X a da) (hb : DE X (.BoolOp .Or (b :: rest) pos) db) : DE X (.BoolOp .Or (a :: b :: rest) pos) (dOrV da db) := let ⟨_, p1, e1⟩ := ha; let ⟨_, p2, e2⟩ := hb; ⟨_, pe_or p1 p2, ev_orV e1 e2⟩
theorem de_not (ha : DE X a da) : DE X (.UnaryOp .Not a pos) (dNotV da) := let ⟨_, p, ev⟩ := ha; ⟨_, pe_not p, ev_notV ev⟩
theorem de_ifE (hc : DT X c ta) (ha : DE X a da) (hb : DE X b db) : DE X (.IfExp c a b pos) (dIfE ta da db) := let ⟨_, p, ev⟩ := hc; let ⟨_, p1, e1⟩ := ha; let ⟨_, p2, e2⟩ := hb; ⟨_, pe_ifExp p p1 p2, ev_ifE ev e1 e2⟩
end
end DL

namespace DL
open PySem L2
variable [Tabs]

/-! ### argument lists -/
def dNil : TL := fun ρ Q => Q [] ρ
def dCons (d : TD) (t : TL) : TL := fun ρ Q => d ρ fun r ρ1 => t ρ1 fun rs ρ2 => Q (r :: rs) ρ2
section
variable {K : PySem.W.Frag} {B : Bx} {H H' Hs : Hp} {σ : L2.St} {ρ ρ' : En} {v : V} {r : Rv}
theorem RgL.go (st : Stp σ H ρ H' ρ') (kn : Kn ρ ρ') : ∀ {vs : List V} {rs : List Rv}, RgL K B Hs H σ ρ vs rs → RgL K B Hs H' σ ρ' vs rs
  | _, _, .nil => .nil
  | _, _, .cons h t => .cons (h.go st kn) (RgL.go st kn t)
theorem ev_nil : EvL K tNil dNil := fun B σ H ρ Q Q' k q fin => fin [] H [] ρ k Stp.refl Kn.refl .nil q
theorem ev_cons {ta : TE} {da : TD} {tr : TA} {dr : TL} (ha : Ev1 K ta da) (hr : EvL K tr dr) : EvL K (tCons ta tr) (dCons da dr) := fun B σ H ρ Q Q' k q fin =>
  ha B σ H ρ _ _ k q fun v H1 r ρ1 k1 s1 n1 e1 q1 => hr B σ H1 ρ1 _ _ k1 q1 fun vs H2 rs ρ2 k2 s2 n2 e2 q2 =>
    fin (v :: vs) H2 (r :: rs) ρ2 k2 (s1.trans s2) (n1.trans n2) (.cons ((e1.rg k.dom).go s2 n2) (e2.base s1.dom)) q2
end
section
variable {X : Cx} {e : Expr} {es : List Expr} {d : TD} {t : TL}
theorem da_nil : DA X [] dNil := ⟨_, pa_nil, ev_nil⟩
theorem da_cons (he : DE X e d) (hr : DA X es t) (hs : starEach (e :: es) X.env = (false, eval e X.env) :: starEach es X.env := by rfl) : DA X (e :: es) (dCons d t) :=
  let ⟨_, p1, e1⟩ := he; let ⟨_, p2, e2⟩ := hr; ⟨_, pa_cons p1 p2 hs, ev_cons e1 e2⟩
end

/-! ### displays -/
/-- what is stored: not a list that may still be changed -/
def stoD : Rv → Option Ob
  | .v d f => some ⟨d, f⟩
  | .nl ds f => some ⟨.lst ds, cf f⟩
  | .nd ks ds f => some ⟨.dic ks ds, cf f⟩
  | .nt ks ds f => some ⟨.dit ks ds, cf f⟩
  | .m _ => none
/-- how new: what has no list in it is as good as new -/
def fup (f : Fr) (d : D) : Fr := if nol d = true then .z else f
theorem R.up {K : PySem.W.Frag} {B : Bx} {M : Addr → Prop} {Hs H : Hp} {f : Fr} {d : D} {v : V} (h : R K (GF B M Hs f) H d v) : R K (GF B M Hs (fup f d)) H d v := by
  unfold fup
  by_cases e : DL.nol d = true
  · rw [if_pos e]; exact R.nol e h
  · rw [if_neg e]; exact h
/-- all that is stored, and how new it is at least -/
def stos : List Rv → Option (List D × Fr)
  | [] => some ([], .z)
  | r :: rs => match stoD r, stos rs with
    | some o, some (ds, f) => some (o.d :: ds, fmin (fup o.f o.d) f)
    | _, _ => none
section
variable {K : PySem.W.Frag} {B : Bx} {H H' Hs : Hp} {σ : L2.St} {ρ ρ' : En} {v : V} {r : Rv}
theorem Rg.sto {o : Ob} (h : Rg K B Hs H σ ρ v r) (e : stoD r = some o) : R K (GF B (mset σ ρ) Hs o.f) H o.d v := by
  cases r <;> cases e <;> exact h
theorem RgL.sto : ∀ {vs : List V} {rs : List Rv} {ds : List D} {f : Fr}, RgL K B Hs H σ ρ vs rs → stos rs = some (ds, f) → Rs K (GF B (mset σ ρ) Hs f) H ds vs
  | _, _, ds, f, .nil, e => by cases e; exact Rs.nil
  | _, _, ds, f, .cons (r := r) (rs := rs) h t, e => by
    unfold stos at e
    cases e1 : stoD r with
    | none => rw [e1] at e; cases e
    | some o =>
      cases e2 : stos rs with
      | none => rw [e1, e2] at e; cases e
      | some q =>
        obtain ⟨es, g⟩ := q
        rw [e1, e2] at e
        cases e
        exact Rs.cons ((h.sto e1).up.mono Keep.refl fun _ _ g => g.minL) ((RgL.sto t e2).mono Keep.refl fun _ _ g => g.minR)
theorem RgL.len : ∀ {vs : List V} {rs : List Rv}, RgL K B Hs H σ ρ vs rs → vs.length = rs.length
  | _, _, .nil => rfl
  | _, _, .cons _ t => by rw [List.length_cons, List.length_cons, RgL.len t]
end
def dTup (t : TL) : TD := fun ρ Q => t ρ fun rs ρ1 => match stos rs with
  | some (ds, f) => if rs.length ≤ 1000 then Q (.v (.tup ds) f) ρ1 else False
  | none => False
def dLst (t : TL) : TD := fun ρ Q => t ρ fun rs ρ1 => match stos rs with
  | some (ds, f) => if rs.length ≤ 1000 then Q (.nl ds f) ρ1 else False
  | none => False
section
variable {K : PySem.W.Frag}
theorem sz1000 {n : Nat} (h : n ≤ 1000) : n ≤ sizeLine := Nat.le_trans h (by rw [sizeLine_eq]; decide)
theorem ev_tup {ta : TA} {da : TL} (ha : EvL K ta da) : Ev1 K (tTup ta) (dTup da) := fun B σ H ρ Q Q' k q fin =>
  ha B σ H ρ _ _ k q fun vs H1 rs ρ1 k1 s1 n1 e1 q1 => by
    cases es : stos rs with
    | none => rw [es] at q1; exact q1.elim
    | some p =>
      obtain ⟨ds, f⟩ := p
      rw [es] at q1
      by_cases hl : rs.length ≤ 1000
      · replace q1 : (if rs.length ≤ 1000 then Q (.v (.tup ds) f) ρ1 else False) := q1
        rw [if_pos hl] at q1
        refine ⟨by rw [e1.len]; exact sz1000 hl, fun p hp => ?_⟩
        obtain ⟨o1, o2⟩ := new_tup k1 hp (e1.sto es)
        exact fin _ _ _ ρ1 o1 (s1.trans (All.new hp).step) n1 o2 q1
      · replace q1 : (if rs.length ≤ 1000 then Q (.v (.tup ds) f) ρ1 else False) := q1
        rw [if_neg hl] at q1; exact q1.elim
theorem ev_lst {ta : TA} {da : TL} (ha : EvL K ta da) : Ev1 K (tLst ta) (dLst da) := fun B σ H ρ Q Q' k q fin =>
  ha B σ H ρ _ _ k q fun vs H1 rs ρ1 k1 s1 n1 e1 q1 => by
    cases es : stos rs with
    | none => rw [es] at q1; exact q1.elim
    | some p =>
      obtain ⟨ds, f⟩ := p
      rw [es] at q1
      by_cases hl : rs.length ≤ 1000
      · replace q1 : (if rs.length ≤ 1000 then Q (.nl ds f) ρ1 else False) := q1
        rw [if_pos hl] at q1
        refine ⟨by rw [e1.len]; exact sz1000 hl, fun p hp => ?_⟩
        obtain ⟨o1, o2⟩ := new_nl k1 s1.dom hp (e1.sto es)
        exact fin _ _ _ ρ1 o1 (s1.trans (All.new hp).step) n1 o2 q1
      · replace q1 : (if rs.length ≤ 1000 then Q (.nl ds f) ρ1 else False) := q1
        rw [if_neg hl] at q1; exact q1.elim
end
section
variable {X : Cx} {es : List Expr} {t : TL} {pos : Pos}
theorem de_tup {x1} (h : DA X es t) : DE X (.Tuple es x1 pos) (dTup t) := let ⟨_, p, e⟩ := h; ⟨_, pe_tup p, ev_tup e⟩
theorem de_lst (h : DA X es t) : DE X (.List es pos) (dLst t) := let ⟨_, p, e⟩ := h; ⟨_, pe_lst p, ev_lst e⟩
end

/-! ### calls of built-ins -/
abbrev OpN := List Ob → (Rv → Prop) → Prop
/-- what the values of a list of results are seen as -/
inductive RoL (K : PySem.W.Frag) (G : Fr → Addr → Prop) (H : Hp) : List V → List Ob → Prop
  | nil : RoL K G H [] []
  | cons {v : V} {vs : List V} {o : Ob} {os : List Ob} : RO K (G o.f) H o.d v → RoL K G H vs os → RoL K G H (v :: vs) (o :: os)
def CallS (K : PySem.W.Frag) (r : List V → Hp → VK → Prop) (p : OpN) : Prop :=
  ∀ (B : Bx) (σ : L2.St) (Hs H : Hp) (ρ : En) (xs : List V) (os : List Ob) (k : Rv → Prop) (Q' : VK), Ok K B H σ ρ → (∀ a, Hs a ≠ none → H a ≠ none) →
    RoL K (GF B (mset σ ρ) Hs) H xs os → p os k → (∀ v H' rr, Ok K B H' σ ρ → Stp σ H ρ H' ρ → RelR K B Hs H' σ ρ v rr → k rr → Q' v H') → r xs H Q'
def dCB (p : OpN) (t : TL) : TD := fun ρ Q => t ρ fun rs ρ1 => p (rs.map (ob ρ1)) fun r => Q r ρ1
theorem RgL.ro {K : PySem.W.Frag} {B : Bx} {H Hs : Hp} {σ : L2.St} {ρ : En} (k : Ok K B H σ ρ) : ∀ {vs : List V} {rs : List Rv}, RgL K B Hs H σ ρ vs rs → RoL K (GF B (mset σ ρ) Hs) H vs (rs.map (ob ρ))
  | _, _, .nil => .nil
  | _, _, .cons h t => .cons (h.ro k) (RgL.ro k t)
theorem ev_cb {K : PySem.W.Frag} {r : List V → Hp → VK → Prop} {p : OpN} {ta : TA} {da : TL} (hp : CallS K r p) (ha : EvL K ta da) : Ev1 K (tCB r ta) (dCB p da) := fun B σ H ρ Q Q' k q fin =>
  ha B σ H ρ _ _ k q fun vs H1 rs ρ1 k1 s1 n1 e1 q1 => hp B σ H H1 ρ1 vs _ _ _ k1 s1.dom (e1.ro k1) q1 fun v H2 rr k2 s2 e2 q2 => fin v H2 rr ρ1 k2 (s1.trans s2) n1 e2 q2
section
variable {X : Cx} {e : Expr} {es : List Expr} {t : TL} {p pos : Pos} {x : Str} {id T : String} {r : List V → Hp → VK → Prop} {q : OpN}
theorem de_callB (hc : CallR X (.builtin id) r) (hq : CallS X.K r q) (hm : X.mg x = none) (hv : bootBuiltins x = some (.builtin id)) (ha : DA X (e :: es) t) (hg : Gl X x := by rfl) (hn : x ≠ "__name__" := by decide) (hdb : (x == ("__debug__" : Str)) = false := by decide)
    (he : starEach (e :: es) X.env = (false, eval e X.env) :: starEach es X.env := by rfl) (hpl : (backTo pos (starEach es X.env)).any (·.1) = false := by rfl) : DE X (.Call (.Name x p) (e :: es) [] pos) (dCB q t) :=
  let ⟨_, pa, ev⟩ := ha; ⟨_, pe_callB hc hg hm hv pa hn hdb he hpl, ev_cb hq ev⟩
theorem de_callTy (hc : CallR X (.type T) r) (hq : CallS X.K r q) (hm : X.mg x = none) (hv : bootBuiltins x = some (.type T)) (ha : DA X (e :: es) t) (hg : Gl X x := by rfl) (hn : x ≠ "__name__" := by decide) (hdb : (x == ("__debug__" : Str)) = false := by decide)
    (he : starEach (e :: es) X.env = (false, eval e X.env) :: starEach es X.env := by rfl) (hpl : (backTo pos (starEach es X.env)).any (·.1) = false := by rfl) : DE X (.Call (.Name x p) (e :: es) [] pos) (dCB q t) :=
  let ⟨_, pa, ev⟩ := ha; ⟨_, pe_callTy hc hg hm hv pa hn hdb he hpl, ev_cb hq ev⟩
end
theorem RoL.one {K : PySem.W.Frag} {G : Fr → Addr → Prop} {H : Hp} {vs : List V} {o : Ob} (h : RoL K G H vs [o]) : ∃ v, vs = [v] ∧ RO K (G o.f) H o.d v := by
  cases h with
  | cons h t => cases t; exact ⟨_, rfl, h⟩
theorem RoL.two {K : PySem.W.Frag} {G : Fr → Addr → Prop} {H : Hp} {vs : List V} {o o2 : Ob} (h : RoL K G H vs [o, o2]) : ∃ v u, vs = [v, u] ∧ RO K (G o.f) H o.d v ∧ RO K (G o2.f) H o2.d u := by
  cases h with
  | cons h t => cases t with
    | cons h2 t => cases t; exact ⟨_, _, rfl, h, h2⟩

/-- len -/
def pLen : OpN := fun os k => match os with
  | [⟨.str z, _⟩] => z.length ≤ sizeLine ∧ k (.v (.int z.length) .n)
  | [⟨.dic ks _, _⟩] => k (.v (.int ks.length) .n)
  | [o] => ∃ ds, itemsOf o.d = some ds ∧ k (.v (.int ds.length) .n)
  | _ => False
def rLen3 (K : PySem.W.Frag) : List V → Hp → VK → Prop := fun xs H Q => (∃ p ys, xs = [.ref p] ∧ (SqL K H p ys ∨ SqT K H p ys) ∧ Q (.int ys.length) H) ∨ ((∃ z, xs = [.str z] ∧ z.length ≤ sizeLine ∧ Q (.int z.length) H) ∨ ∃ a kvs, xs = [V.ref a] ∧ H a = some (.dK kvs) ∧ Q (.int kvs.length) H)
theorem call_lenDK {X : Cx} : CallR X (.builtin "len") (fun xs H Q => ∃ a kvs, xs = [V.ref a] ∧ H a = some (.dK kvs) ∧ Q (.int kvs.length) H) := by
  intro pins s σ H xs us Q I r h
  obtain ⟨a, kvs, rfl, ha, q⟩ := h
  obtain ⟨u, rfl, ru⟩ := vals1 r
  cases ru
  exact d_len I (.inl ha) fun t s' I' => ⟨.int kvs.length, H, I', ⟨t, rfl⟩, q⟩
theorem call_len3 {X : Cx} : CallR X (.builtin "len") (rLen3 X.K) := call_len_seq.or (call_len_str.or call_lenDK)
theorem calls_len {K : PySem.W.Frag} : CallS K (rLen3 K) pLen := by
  intro B σ Hs H ρ xs os k Q' ok hd ro h fin
  unfold pLen at h
  split at h
  · obtain ⟨v, rfl, rv⟩ := ro.one
    obtain rfl := rv.str
    exact .inr (.inl ⟨_, rfl, h.1, fin_at ok fin (fun _ => R.i) h.2⟩)
  · obtain ⟨v, rfl, rv⟩ := ro.one
    rename_i ks ds f
    obtain ⟨a, vs, rfl, ha, hl, _⟩ := rv
    refine .inr (.inr ⟨a, _, rfl, ha, ?_⟩)
    rw [List.length_zip, hl, Nat.min_self, ← hl]
    exact fin_at ok fin (fun _ => R.i) h
  · obtain ⟨v, rfl, rv⟩ := ro.one
    obtain ⟨ds, e, h⟩ := h
    obtain ⟨p, vs, rfl, hs, r⟩ := rv.items e
    refine .inl ⟨p, vs, rfl, hs, ?_⟩
    rw [← r.len]
    exact fin_at ok fin (fun _ => R.i) h
  · exact h.elim

/-- any, all of a list of truths -/
def pAny (g : List Bool → Bool) : OpN := fun os k => match os with
  | [o] => ∃ bs : List Bool, o.d = .lst (bs.map D.bl) ∧ k (.v (.bl (g bs)) .n)
  | _ => False
theorem calls_any {K : PySem.W.Frag} : CallS K (rAny K) (pAny fun bs => bs.any id) := by
  intro B σ Hs H ρ xs os k Q' ok hd ro h fin
  unfold pAny at h
  split at h
  · obtain ⟨v, rfl, rv⟩ := ro.one
    obtain ⟨bs, e, h⟩ := h
    rw [e] at rv
    obtain ⟨p, vs, rfl, hs, r⟩ := rv
    obtain rfl := r.bls
    exact ⟨p, bs, rfl, SqL.of hs, fin_at ok fin (fun _ => R.b) h⟩
  · exact h.elim
theorem calls_all {K : PySem.W.Frag} : CallS K (rAll K) (pAny fun bs => bs.all id) := by
  intro B σ Hs H ρ xs os k Q' ok hd ro h fin
  unfold pAny at h
  split at h
  · obtain ⟨v, rfl, rv⟩ := ro.one
    obtain ⟨bs, e, h⟩ := h
    rw [e] at rv
    obtain ⟨p, vs, rfl, hs, r⟩ := rv
    obtain rfl := r.bls
    exact ⟨p, bs, rfl, SqL.of hs, fin_at ok fin (fun _ => R.b) h⟩
  · exact h.elim
/-- max, min of a list of ints -/
def pMax (le : Int → Int → Prop) : OpN := fun os k => match os with
  | [o] => ∃ ns : List Int, o.d = .lst (ns.map D.int) ∧ 0 < ns.length ∧ ∀ m, m ∈ ns → (∀ y, y ∈ ns → le y m) → k (.v (.int m) .n)
  | _ => False
theorem calls_max {K : PySem.W.Frag} : CallS K (rMax K) (pMax fun y m => y ≤ m) := by
  intro B σ Hs H ρ xs os k Q' ok hd ro h fin
  unfold pMax at h
  split at h
  · obtain ⟨v, rfl, rv⟩ := ro.one
    obtain ⟨bs, e, h0, h⟩ := h
    rw [e] at rv
    obtain ⟨p, vs, rfl, hs, r⟩ := rv
    obtain rfl := r.ints
    exact ⟨p, bs, rfl, SqL.of hs, h0, fun m hm hy => fin_at ok fin (fun _ => R.i) (h m hm hy)⟩
  · exact h.elim
theorem calls_min {K : PySem.W.Frag} : CallS K (rMin K) (pMax fun y m => m ≤ y) := by
  intro B σ Hs H ρ xs os k Q' ok hd ro h fin
  unfold pMax at h
  split at h
  · obtain ⟨v, rfl, rv⟩ := ro.one
    obtain ⟨bs, e, h0, h⟩ := h
    rw [e] at rv
    obtain ⟨p, vs, rfl, hs, r⟩ := rv
    obtain rfl := r.ints
    exact ⟨p, bs, rfl, SqL.of hs, h0, fun m hm hy => fin_at ok fin (fun _ => R.i) (h m hm hy)⟩
  · exact h.elim
/-- list(x), tuple(x) -/
def pList : OpN := fun os k => match os with
  | [o] => ∃ ds, itemsOf o.d = some ds ∧ k (.nl ds o.f)
  | _ => False
def rList1 (K : PySem.W.Frag) : List V → Hp → VK → Prop := fun xs H Q => ∃ p ys, xs = [.ref p] ∧ (SqL K H p ys ∨ SqT K H p ys) ∧ ∀ l, H l = none → Q (.ref l) (upd H l (.lst ys))
theorem calls_list {K : PySem.W.Frag} : CallS K (rList1 K) pList := by
  intro B σ Hs H ρ xs os k Q' ok hd ro h fin
  unfold pList at h
  split at h
  · obtain ⟨v, rfl, rv⟩ := ro.one
    obtain ⟨ds, e, h⟩ := h
    obtain ⟨p, vs, rfl, hs, r⟩ := rv.items e
    refine ⟨p, vs, rfl, hs, fun l hl => ?_⟩
    obtain ⟨o1, o2⟩ := new_nl ok hd hl r
    exact fin _ _ _ o1 (All.new hl).step o2 h
  · exact h.elim
def pTuple : OpN := fun os k => match os with
  | [o] => ∃ ds, itemsOf o.d = some ds ∧ k (.v (.tup ds) o.f)
  | _ => False
def rTuple1 (K : PySem.W.Frag) : List V → Hp → VK → Prop := fun xs H Q => ∃ p ys, xs = [.ref p] ∧ ((SqL K H p ys ∧ ∀ l, H l = none → Q (.ref l) (upd H l (.tup ys))) ∨ (SqT K H p ys ∧ Q (.ref p) H))
theorem calls_tuple {K : PySem.W.Frag} : CallS K (rTuple1 K) pTuple := by
  intro B σ Hs H ρ xs os k Q' ok hd ro h fin
  unfold pTuple at h
  split at h
  · obtain ⟨v, rfl, rv⟩ := ro.one
    obtain ⟨ds, e, h⟩ := h
    obtain ⟨p, vs, rfl, hs, r⟩ := rv.items e
    rcases hs with hs | hs
    · refine ⟨p, vs, rfl, .inl ⟨hs, fun l hl => ?_⟩⟩
      obtain ⟨o1, o2⟩ := new_tup (Hs := Hs) ok hl r
      exact fin _ _ _ o1 (All.new hl).step o2 h
    · refine ⟨p, vs, rfl, .inr ⟨hs, ?_⟩⟩
      exact fin _ H (.v (.tup ds) _) ok Stp.refl (show R K _ H (.tup ds) (.ref p) by unfold R; exact ⟨p, vs, rfl, hs, r⟩) h
  · exact h.elim
/-- int(x) of a whole number, of a truth -/
def pInt : OpN := fun os k => match os with
  | [⟨.int i, _⟩] => k (.v (.int i) .n)
  | [⟨.bl b, _⟩] => k (.v (.int (if b then 1 else 0)) .n)
  | _ => False
def rInt1 : List V → Hp → VK → Prop := fun xs H Q => (∃ i, xs = [.int i] ∧ Q (.int i) H) ∨ ∃ k, xs = [.bl k] ∧ Q (.int (if k then 1 else 0)) H
theorem calls_int {K : PySem.W.Frag} : CallS K rInt1 pInt := by
  intro B σ Hs H ρ xs os k Q' ok hd ro h fin
  unfold pInt at h
  split at h
  · obtain ⟨v, rfl, rv⟩ := ro.one
    obtain rfl := rv.int
    exact .inl ⟨_, rfl, fin_at ok fin (fun _ => R.i) h⟩
  · obtain ⟨v, rfl, rv⟩ := ro.one
    obtain rfl := rv.bl
    exact .inr ⟨_, rfl, fin_at ok fin (fun _ => R.i) h⟩
  · exact h.elim
/-- max(m, n), min(m, n) -/
def pMax2 (g : Int → Int → Int) : OpN := fun os k => match os with
  | [⟨.int i, _⟩, ⟨.int j, _⟩] => k (.v (.int (g i j)) .n)
  | _ => False
theorem calls_max2 {K : PySem.W.Frag} {g : Int → Int → Int} : CallS K (fun xs H Q => ∃ i j, xs = [.int i, .int j] ∧ Q (.int (g i j)) H) (pMax2 g) := by
  intro B σ Hs H ρ xs os k Q' ok hd ro h fin
  unfold pMax2 at h
  split at h
  · obtain ⟨v, u, rfl, rv, ru⟩ := ro.two
    obtain rfl := rv.int
    obtain rfl := ru.int
    exact ⟨_, _, rfl, fin_at ok fin (fun _ => R.i) h⟩
  · exact h.elim
section
variable {X : Cx} {e : Expr} {es : List Expr} {t : TL} {p pos : Pos} {x : Str}
theorem de_len (hm : X.mg "len" = none) (ha : DA X [e] t) (hg : Gl X "len" := by rfl) (he : starEach [e] X.env = (false, eval e X.env) :: starEach [] X.env := by rfl) (hpl : (backTo pos (starEach [] X.env)).any (·.1) = false := by rfl) : DE X (.Call (.Name "len" p) [e] [] pos) (dCB pLen t) :=
  de_callB call_len3 calls_len hm PySem.boot_len ha hg (by decide) (by decide) he hpl
theorem de_any (hc : X.calm = true) (hm : X.mg "any" = none) (ha : DA X [e] t) (hg : Gl X "any" := by rfl) (he : starEach [e] X.env = (false, eval e X.env) :: starEach [] X.env := by rfl) (hpl : (backTo pos (starEach [] X.env)).any (·.1) = false := by rfl) : DE X (.Call (.Name "any" p) [e] [] pos) (dCB (pAny fun bs => bs.any id) t) :=
  de_callB (cr_any hc) calls_any hm (by decide +kernel) ha hg (by decide) (by decide) he hpl
theorem de_all (hc : X.calm = true) (hm : X.mg "all" = none) (ha : DA X [e] t) (hg : Gl X "all" := by rfl) (he : starEach [e] X.env = (false, eval e X.env) :: starEach [] X.env := by rfl) (hpl : (backTo pos (starEach [] X.env)).any (·.1) = false := by rfl) : DE X (.Call (.Name "all" p) [e] [] pos) (dCB (pAny fun bs => bs.all id) t) :=
  de_callB (cr_all hc) calls_all hm (by decide +kernel) ha hg (by decide) (by decide) he hpl
theorem de_max (hc : X.calm = true) (hm : X.mg "max" = none) (ha : DA X [e] t) (hg : Gl X "max" := by rfl) (he : starEach [e] X.env = (false, eval e X.env) :: starEach [] X.env := by rfl) (hpl : (backTo pos (starEach [] X.env)).any (·.1) = false := by rfl) : DE X (.Call (.Name "max" p) [e] [] pos) (dCB (pMax fun y m => y ≤ m) t) :=
  de_callB (cr_max hc) calls_max hm (by decide +kernel) ha hg (by decide) (by decide) he hpl
theorem de_min (hc : X.calm = true) (hm : X.mg "min" = none) (ha : DA X [e] t) (hg : Gl X "min" := by rfl) (he : starEach [e] X.env = (false, eval e X.env) :: starEach [] X.env := by rfl) (hpl : (backTo pos (starEach [] X.env)).any (·.1) = false := by rfl) : DE X (.Call (.Name "min" p) [e] [] pos) (dCB (pMax fun y m => m ≤ y) t) :=
  de_callB (cr_min hc) calls_min hm (by decide +kernel) ha hg (by decide) (by decide) he hpl
theorem de_list (hm : X.mg "list" = none) (ha : DA X [e] t) (hg : Gl X "list" := by rfl) (he : starEach [e] X.env = (false, eval e X.env) :: starEach [] X.env := by rfl) (hpl : (backTo pos (starEach [] X.env)).any (·.1) = false := by rfl) : DE X (.Call (.Name "list" p) [e] [] pos) (dCB pList t) :=
  de_callTy call_list_of calls_list hm (by decide +kernel) ha hg (by decide) (by decide) he hpl
theorem de_tuple (hm : X.mg "tuple" = none) (ha : DA X [e] t) (hg : Gl X "tuple" := by rfl) (he : starEach [e] X.env = (false, eval e X.env) :: starEach [] X.env := by rfl) (hpl : (backTo pos (starEach [] X.env)).any (·.1) = false := by rfl) : DE X (.Call (.Name "tuple" p) [e] [] pos) (dCB pTuple t) :=
  de_callTy call_tuple_of calls_tuple hm (by decide +kernel) ha hg (by decide) (by decide) he hpl
theorem de_int1 (hm : X.mg "int" = none) (ha : DA X [e] t) (hg : Gl X "int" := by rfl) (he : starEach [e] X.env = (false, eval e X.env) :: starEach [] X.env := by rfl) (hpl : (backTo pos (starEach [] X.env)).any (·.1) = false := by rfl) : DE X (.Call (.Name "int" p) [e] [] pos) (dCB pInt t) :=
  de_callTy call_int1 calls_int hm (by decide +kernel) ha hg (by decide) (by decide) he hpl
theorem de_min2 {e2 : Expr} (hc : X.calm = true) (hm : X.mg "min" = none) (ha : DA X [e, e2] t) (hg : Gl X "min" := by rfl) (he : starEach [e, e2] X.env = (false, eval e X.env) :: starEach [e2] X.env := by rfl) (hpl : (backTo pos (starEach [e2] X.env)).any (·.1) = false := by rfl) : DE X (.Call (.Name "min" p) [e, e2] [] pos) (dCB (pMax2 fun i j => if j < i then j else i) t) :=
  de_callB (call_min2 hc) calls_max2 hm (by decide +kernel) ha hg (by decide) (by decide) he hpl
theorem de_max2 {e2 : Expr} (hc : X.calm = true) (hm : X.mg "max" = none) (ha : DA X [e, e2] t) (hg : Gl X "max" := by rfl) (he : starEach [e, e2] X.env = (false, eval e X.env) :: starEach [e2] X.env := by rfl) (hpl : (backTo pos (starEach [e2] X.env)).any (·.1) = false := by rfl) : DE X (.Call (.Name "max" p) [e, e2] [] pos) (dCB (pMax2 fun i j => if j > i then j else i) t) :=
  de_callB (call_max2 hc) calls_max2 hm (by decide +kernel) ha hg (by decide) (by decide) he hpl
end

/-! ### slices -/
abbrev TO' := En → (Option Int → En → Prop) → Prop
def EvO (K : PySem.W.Frag) (te : TO) (t : TO') : Prop := ∀ (B : Bx) (σ : L2.St) (H : Hp) (ρ : En) (Q : Option Int → En → Prop) (Q' : Option Int → Hp → Prop), Ok K B H σ ρ → t ρ Q →
  (∀ o H' ρ', Ok K B H' σ ρ' → Stp σ H ρ H' ρ' → Kn ρ ρ' → Q o ρ' → Q' o H') → te σ H Q'
def DO (X : Cx) (e : Option Expr) (t : TO') : Prop := ∃ te, PO X e te ∧ EvO X.K te t
def dNoP : TO' := fun ρ Q => Q none ρ
def dPart (d : TD) : TO' := fun ρ Q => d ρ fun r ρ1 => ∃ i, (ob ρ1 r).d = .int i ∧ Q (some i) ρ1
theorem do_none {X : Cx} : DO X none dNoP := ⟨_, po_none, fun B σ H ρ Q Q' k q fin => fin none H ρ k Stp.refl Kn.refl q⟩
theorem do_some {X : Cx} {e : Expr} {d : TD} (h : DE X e d) : DO X (some e) (dPart d) :=
  let ⟨_, p, ev⟩ := h; ⟨_, po_some p, fun B σ H ρ Q Q' k q fin => ev B σ H ρ _ _ k q fun v H1 r ρ1 k1 s1 n1 e1 ⟨i, ei, q1⟩ => by
    have ro := obR k1 k.dom e1
    rw [ei] at ro
    exact ⟨i, ro.int, fin (some i) H1 ρ1 k1 s1 n1 q1⟩⟩
/-- the items of xs[lo:hi] -/
def cutD (xs : List D) (lo hi : Option Int) : List D := (xs.drop (HT.sIx xs.length 0 lo)).take (HT.sIx xs.length xs.length hi - HT.sIx xs.length 0 lo)
theorem Rs.cut {K : PySem.W.Frag} {G : Addr → Prop} {H : Hp} {ds : List D} {vs : List V} (h : Rs K G H ds vs) (lo hi : Option Int) : Rs K G H (cutD ds lo hi) (cutV vs lo hi) := by
  unfold cutD cutV
  rw [← h.len]
  exact (h.drop _).take _
def dSl (d : TD) (lo hi : TO') : TD := fun ρ Q => d ρ fun r ρ1 => lo ρ1 fun l ρ2 => hi ρ2 fun u ρ3 => match (ob ρ3 r).d with
  | .lst ds => Q (.nl (cutD ds l u) (ob ρ3 r).f) ρ3
  | .fz ds => Q (.nl (cutD ds l u) (ob ρ3 r).f) ρ3
  | .tup ds => ¬ (HT.sIx ds.length 0 l = 0 ∧ HT.sIx ds.length ds.length u = ds.length) ∧ Q (.v (.tup (cutD ds l u)) (ob ρ3 r).f) ρ3
  | _ => False
def rSl2 (K : PySem.W.Frag) : V → Option Int → Option Int → Hp → VK → Prop := fun x lo hi H Q => rSlL K x lo hi H Q ∨ rSlT K x lo hi H Q
theorem ev_sl {K : PySem.W.Frag} {te : TE} {tl th : TO} {d : TD} {lo hi : TO'} (he : Ev1 K te d) (hl : EvO K tl lo) (hh : EvO K th hi) : Ev1 K (tSl (rSl2 K) te tl th) (dSl d lo hi) := fun B σ H ρ Q Q' k q fin =>
  he B σ H ρ _ _ k q fun x H1 r ρ1 k1 s1 n1 e1 q1 => hl B σ H1 ρ1 _ _ k1 q1 fun l H2 ρ2 k2 s2 n2 q2 => hh B σ H2 ρ2 _ _ k2 q2 fun u H3 ρ3 k3 s3 n3 q3 => by
    have ro := Rg.ro k3 ((e1.rg k.dom).go (s2.trans s3) (n2.trans n3))
    have sd := ((s1.trans s2).trans s3)
    have nn := ((n1.trans n2).trans n3)
    generalize ob ρ3 r = o at ro q3
    obtain ⟨dd, f⟩ := o
    cases dd with
    | lst ds =>
      obtain ⟨p, vs, rfl, hp, rr⟩ := ro
      refine .inl ⟨p, vs, rfl, SqL.of hp, fun w hw => ?_⟩
      obtain ⟨o1, o2⟩ := new_nl k3 sd.dom hw (rr.cut l u)
      exact fin _ _ _ ρ3 o1 (sd.trans (All.new hw).step) nn o2 q3
    | fz ds =>
      obtain ⟨p, vs, rfl, hp, rr⟩ := ro.fz
      refine .inl ⟨p, vs, rfl, hp.seq, fun w hw => ?_⟩
      obtain ⟨o1, o2⟩ := new_nl k3 sd.dom hw (rr.cut l u)
      exact fin _ _ _ ρ3 o1 (sd.trans (All.new hw).step) nn o2 q3
    | tup ds =>
      obtain ⟨p, vs, rfl, hp, rr⟩ := ro.tup
      obtain ⟨hw0, q3⟩ := q3
      refine .inr ⟨p, vs, rfl, hp, by rw [← rr.len]; exact hw0, fun w hw => ?_⟩
      obtain ⟨o1, o2⟩ := new_tup (Hs := H) k3 hw (rr.cut l u)
      exact fin _ _ _ ρ3 o1 (sd.trans (All.new hw).step) nn o2 q3
    | _ => exact q3.elim
theorem de_slice {X : Cx} {e : Expr} {lo hi : Option Expr} {pos p2 : Pos} {d : TD} {l h : TO'} (he : DE X e d) (hl : DO X lo l) (hh : DO X hi h) : DE X (.Subscript e (.Slice lo hi none p2) pos) (dSl d l h) :=
  let ⟨_, p1, e1⟩ := he; let ⟨_, p3, e3⟩ := hl; let ⟨_, p4, e4⟩ := hh; ⟨_, pe_slice (sl_list.or sl_tup) p1 p3 p4, ev_sl e1 e3 e4⟩

/-! ### sep.join(texts) -/
def dJoin (d t : TD) : TD := fun ρ Q => d ρ fun r ρ1 => ∃ z : Str, (ob ρ1 r).d = .str z ∧ t ρ1 fun r2 ρ2 => ∃ ys : List Str, itemsOf (ob ρ2 r2).d = some (ys.map D.str) ∧ (ys.map (·.length)).sum + ys.length * z.length ≤ 16777216 ∧ Q (.v (.str (Txt.join z ys)) .n) ρ2
theorem de_join {X : Cx} {o e : Expr} {apos pos : Pos} {d t : TD} (ho : DE X o d) (he : DE X e t) (hs : starEach [e] X.env = [(false, eval e X.env)] := by rfl) (hbase : attributeBase o "join" X.env (eval o X.env) = eval o X.env := by rfl) (hline : (apos.endLine == pos.line) = true := by rfl) :
    DE X (.Call (.Attribute o "join" apos) [e] [] pos) (dJoin d t) := by
  obtain ⟨_, p1, e1⟩ := ho
  obtain ⟨_, p2, e2⟩ := he
  refine ⟨_, pe_join p1 p2 hs hbase hline, fun B σ H ρ Q Q' k q fin => ?_⟩
  refine e1 B σ H ρ _ _ k q fun x H1 r1 ρ1 k1 s1 n1 w1 ⟨z, ez, q1⟩ => ?_
  have ro := obR k1 k.dom w1
  rw [ez] at ro
  obtain rfl := ro.str
  refine ⟨⟨z, rfl⟩, e2 B σ H1 ρ1 _ _ k1 q1 fun y H2 r2 ρ2 k2 s2 n2 w2 ⟨ys, ey, hz, q2⟩ => ?_⟩
  have ro2 := obR k2 k1.dom w2
  obtain ⟨p, vs, rfl, hq, rs⟩ := ro2.items ey
  obtain rfl := rs.strs
  exact ⟨z, p, ys, rfl, rfl, hq, hz, fin _ H2 (.v (.str (Txt.join z ys)) .n) ρ2 k2 (s1.trans s2) (n1.trans n2) rel_s q2⟩
end DL

namespace DL
open PySem L2
variable [Tabs]

/-! ### statements -/
structure SStp (σ : L2.St) (H : Hp) (ρ : En) (σ' : L2.St) (H' : Hp) (ρ' : En) : Prop where
  keep : Keep (fun a => ¬ mset σ ρ a) H H'
  dom : ∀ a, H a ≠ none → H' a ≠ none
  new : ∀ a, mset σ' ρ' a → mset σ ρ a ∨ H a = none
section
variable {K : PySem.W.Frag} {B : Bx} {H H' H1 H2 Hs : Hp} {σ σ' σ1 σ2 : L2.St} {ρ ρ' ρ1 ρ2 : En} {v : V} {r : Rv}
theorem SStp.refl : SStp σ H ρ σ H ρ := ⟨Keep.refl, fun _ h => h, fun _ h => .inl h⟩
theorem SStp.trans (a : SStp σ H ρ σ1 H1 ρ1) (b : SStp σ1 H1 ρ1 σ2 H2 ρ2) : SStp σ H ρ σ2 H2 ρ2 := by
  refine ⟨fun x o h q => ?_, fun x h => b.dom x (a.dom x h), fun x h => ?_⟩
  · refine b.keep x o (a.keep x o h q) (q.imp (fun z w => ?_) id)
    rcases a.new x w with u | u
    · exact z u
    · rw [h] at u; cases u
  · rcases b.new x h with u | u
    · exact a.new x u
    · by_cases e : H x = none
      · exact .inr e
      · exact absurd u (a.dom x e)
theorem Stp.s (a : Stp σ H ρ H1 ρ1) : SStp σ H ρ σ H1 ρ1 := ⟨a.keep, a.dom, fun x h => .inl (a.sub x h)⟩

theorem mset_set {i : Nat} {s : Sl} {w : Option V} {a : Addr} (h : mset (σ.set i w) (ρ.set i s) a) (hi : i < ρ.length) (hl : ρ.length = σ.length) : mset σ ρ a ∨ (s.isM = true ∧ w = some (.ref a)) := by
  obtain ⟨j, t, e, m, z⟩ := h
  by_cases hj : i = j
  · subst hj
    rw [List.getElem?_set_self hi] at e
    rw [List.getElem?_set_self (hl ▸ hi)] at z
    cases e
    exact .inr ⟨m, Option.some.inj z⟩
  · rw [List.getElem?_set_ne hj] at e z
    exact .inl ⟨j, t, e, m, z⟩
/-- a slot is stored to: what it holds now -/
theorem Ok.store {i : Nat} {s : Sl} {x : V} (k : Ok K B H σ ρ) (hi : i < ρ.length) (hs : SlOk K B H (σ.set i (some x)) (mset (σ.set i (some x)) (ρ.set i s)) i s)
    (g : ∀ (f : Fr) (a : Addr), H a ≠ none → GF B (mset σ ρ) B.H0 f a → s.isM = true → x = .ref a → (∃ j t, j ≠ i ∧ ρ[j]? = some t ∧ t.isM = false ∨ True) → False)
    (u : ∀ a, s.isM = true → x = .ref a → ¬ mset σ ρ a) : Ok K B H (σ.set i (some x)) (ρ.set i s) := by
  have gg : ∀ {f : Fr} (a : Addr), H a ≠ none → GF B (mset σ ρ) B.H0 f a → GF B (mset (σ.set i (some x)) (ρ.set i s)) B.H0 f a := fun {f} a ha q =>
    ⟨fun z => (mset_set z hi k.len).elim q.1 fun ⟨m, e⟩ => g f a ha q m (Option.some.inj e) ⟨0, .no, .inr True.intro⟩, q.2⟩
  refine ⟨by rw [List.length_set, List.length_set]; exact k.len, k.dom, k.av, k.ext, fun j t e => ?_, fun j1 j2 s1 s2 a e1 m1 e2 m2 z1 z2 => ?_, k.tb⟩
  · by_cases hj : i = j
    · subst hj
      rw [List.getElem?_set_self hi] at e
      cases e
      exact hs
    · rw [List.getElem?_set_ne hj] at e
      have q := k.sl j t e
      have ne : (σ.set i (some x))[j]? = σ[j]? := List.getElem?_set_ne hj
      cases t with
      | no => exact True.intro
      | val d f => obtain ⟨v, e1, e2⟩ := q; exact ⟨v, ne.trans e1, e2.mono Keep.refl gg⟩
      | ml ds f => obtain ⟨p, vs, e1, e2, e3, e4⟩ := q; exact ⟨p, vs, ne.trans e1, e2, e3.mono Keep.refl gg, e4⟩
      | mp n ds => obtain ⟨p, vs, e1, e2⟩ := q; exact ⟨p, vs, ne.trans e1, e2⟩
      | md ks ds f => obtain ⟨p, vs, e1, e2, e0, e3, e4⟩ := q; exact ⟨p, vs, ne.trans e1, e2, e0, e3.mono Keep.refl gg, e4⟩
      | mt ks ds f => obtain ⟨p, vs, e1, e2, e0, e3, e4⟩ := q; exact ⟨p, vs, ne.trans e1, e2, e0, e3.mono Keep.refl gg, e4⟩
  · have cs : ∀ {j : Nat} {t : Sl}, (ρ.set i s)[j]? = some t → t.isM = true → (σ.set i (some x))[j]? = some (some (.ref a)) → (j = i ∧ s.isM = true ∧ x = .ref a) ∨ (j ≠ i ∧ ρ[j]? = some t ∧ σ[j]? = some (some (.ref a))) := fun {j t} e m z => by
      by_cases hj : i = j
      · subst hj
        rw [List.getElem?_set_self hi] at e
        rw [List.getElem?_set_self (k.len ▸ hi)] at z
        cases e
        exact .inl ⟨rfl, m, Option.some.inj (Option.some.inj z)⟩
      · rw [List.getElem?_set_ne hj] at e z
        exact .inr ⟨fun q => hj q.symm, e, z⟩
    rcases cs e1 m1 z1 with ⟨q1, m, e⟩ | ⟨q1, p1, w1⟩
    · rcases cs e2 m2 z2 with ⟨q2, _⟩ | ⟨q2, p2, w2⟩
      · rw [q1, q2]
      · exact absurd ⟨j2, s2, p2, m2, w2⟩ (u a m e)
    · rcases cs e2 m2 z2 with ⟨q2, m, e⟩ | ⟨q2, p2, w2⟩
      · exact absurd ⟨j1, s1, p1, m1, w1⟩ (u a m e)
      · exact k.inj j1 j2 s1 s2 a p1 m1 p2 m2 w1 w2
/-- name = a thing that stands still -/
theorem Ok.asg {i : Nat} {d : D} {f : Fr} {x : V} (k : Ok K B H σ ρ) (hi : i < ρ.length) (h : R K (GF B (mset σ ρ) Hs f) H d x) :
    Ok K B H (σ.set i (some x)) (ρ.set i (.val d f)) ∧ SStp σ H ρ (σ.set i (some x)) H (ρ.set i (.val d f)) := by
  have sub : ∀ a, mset (σ.set i (some x)) (ρ.set i (.val d f)) a → mset σ ρ a := fun a z => (mset_set z hi k.len).elim id fun ⟨m, _⟩ => nomatch m
  refine ⟨k.store hi ⟨x, List.getElem?_set_self (k.len ▸ hi), h.mono Keep.refl fun a _ g => ⟨fun z => g.1 (sub a z), g.2.1, g.2.2.1, fun z => bas_n g.2.2.1 z⟩⟩ (fun _ _ _ _ m => nomatch m) (fun _ m => nomatch m), ⟨Keep.refl, fun _ h => h, fun a z => .inl (sub a z)⟩⟩
theorem fresh0 (hd : ∀ a, B.H0 a ≠ none → Hs a ≠ none) {p : Addr} (h : Hs p = none) : B.H0 p = none := by
  cases q : B.H0 p with
  | none => rfl
  | some o => exact absurd h (hd p (by rw [q]; exact Option.some_ne_none _))
/-- name = a new list, dict -/
theorem Ok.asgN {i : Nat} {s : Sl} {p : Addr} (k : Ok K (B.add p) H σ ρ) (hi : i < ρ.length) (hm : s.isM = true) (np : ¬ mset σ ρ p)
    (hs : (∀ a, H a ≠ none → ¬ mset σ ρ a → a ≠ p → ¬ mset (σ.set i (some (.ref p))) (ρ.set i s) a) → SlOk K B H (σ.set i (some (.ref p))) (mset (σ.set i (some (.ref p))) (ρ.set i s)) i s) :
    Ok K B H (σ.set i (some (.ref p))) (ρ.set i s) := by
  have cl : ∀ a, H a ≠ none → ¬ mset σ ρ a → a ≠ p → ¬ mset (σ.set i (some (.ref p))) (ρ.set i s) a := fun a _ n1 n2 z =>
    (mset_set z hi k.len).elim n1 fun ⟨_, e⟩ => n2 (by cases e; rfl)
  have gg : ∀ {f : Fr} (a : Addr), H a ≠ none → GF (B.add p) (mset σ ρ) B.H0 f a → GF B (mset (σ.set i (some (.ref p))) (ρ.set i s)) B.H0 f a := fun {f} a ha q =>
    ⟨cl a ha q.1 fun z => q.2.1 (by rw [z]; exact List.mem_cons_self), fun z => q.2.1 (List.mem_cons_of_mem _ z), q.2.2⟩
  have av : ∀ {a : Addr}, a ∉ (B.add p).Av → a ∉ B.Av := fun {a} q z => q (List.mem_cons_of_mem _ z)
  refine ⟨by rw [List.length_set, List.length_set]; exact k.len, k.dom, fun a h => k.av a (List.mem_cons_of_mem _ h), k.ext, fun j t e => ?_, fun j1 j2 s1 s2 a e1 m1 e2 m2 z1 z2 => ?_, k.tb⟩
  · by_cases hj : i = j
    · subst hj
      rw [List.getElem?_set_self hi] at e
      cases e
      exact hs cl
    · rw [List.getElem?_set_ne hj] at e
      have q := k.sl j t e
      have ne : (σ.set i (some (V.ref p)))[j]? = σ[j]? := List.getElem?_set_ne hj
      cases t with
      | no => exact True.intro
      | val d f => obtain ⟨v, e1, e2⟩ := q; exact ⟨v, ne.trans e1, e2.mono Keep.refl gg⟩
      | ml ds f => obtain ⟨p, vs, e1, e2, e3, e4, e5⟩ := q; exact ⟨p, vs, ne.trans e1, e2, e3.mono Keep.refl gg, e4, av e5⟩
      | mp n ds => obtain ⟨p, vs, e1, e2, e3, e4, e5⟩ := q; exact ⟨p, vs, ne.trans e1, e2, e3, e4, av e5⟩
      | md ks ds f => obtain ⟨p, vs, e1, e2, e0, e3, e4, e5⟩ := q; exact ⟨p, vs, ne.trans e1, e2, e0, e3.mono Keep.refl gg, e4, av e5⟩
      | mt ks ds f => obtain ⟨p, vs, e1, e2, e0, e3, e4, e5⟩ := q; exact ⟨p, vs, ne.trans e1, e2, e0, e3.mono Keep.refl gg, e4, av e5⟩
  · have cs : ∀ {j : Nat} {t : Sl}, (ρ.set i s)[j]? = some t → t.isM = true → (σ.set i (some (.ref p)))[j]? = some (some (.ref a)) → (j = i ∧ p = a) ∨ (j ≠ i ∧ ρ[j]? = some t ∧ σ[j]? = some (some (.ref a))) := fun {j t} e m z => by
      by_cases hj : i = j
      · subst hj
        rw [List.getElem?_set_self (k.len ▸ hi)] at z
        cases z
        exact .inl ⟨rfl, rfl⟩
      · rw [List.getElem?_set_ne hj] at e z
        exact .inr ⟨fun q => hj q.symm, e, z⟩
    rcases cs e1 m1 z1 with ⟨q1, e⟩ | ⟨q1, p1, w1⟩
    · rcases cs e2 m2 z2 with ⟨q2, _⟩ | ⟨q2, p2, w2⟩
      · rw [q1, q2]
      · exact absurd ⟨j2, s2, p2, m2, e ▸ w2⟩ np
    · rcases cs e2 m2 z2 with ⟨q2, e⟩ | ⟨q2, p2, w2⟩
      · exact absurd ⟨j1, s1, p1, m1, e ▸ w1⟩ np
      · exact k.inj j1 j2 s1 s2 a p1 m1 p2 m2 w1 w2
end

/-- what is wanted behind a statement, on data -/
structure ED where
  nx : En → Prop
  rt : D → En → Prop
  bk : En → Prop := fun _ => False
  ct : En → Prop := fun _ => False
abbrev TSD := ED → En → Prop
structure Lk (K : PySem.W.Frag) (B : Bx) (σ : L2.St) (H : Hp) (ρ : En) (E : ED) (D' : Ends) : Prop where
  nx : ∀ σ' H' ρ', Ok K B H' σ' ρ' → SStp σ H ρ σ' H' ρ' → E.nx ρ' → D'.nx σ' H'
  rt : ∀ v H' σ' ρ' d, Ok K B H' σ' ρ' → R K (fun a => B.H0 a = none) H' d v → E.rt d ρ' → D'.rt v H'
  bk : ∀ σ' H' ρ', Ok K B H' σ' ρ' → SStp σ H ρ σ' H' ρ' → E.bk ρ' → D'.bk σ' H'
  ct : ∀ σ' H' ρ', Ok K B H' σ' ρ' → SStp σ H ρ σ' H' ρ' → E.ct ρ' → D'.ct σ' H'
def EvS (K : PySem.W.Frag) (ts : TS) (t : TSD) : Prop := ∀ (B : Bx) (σ : L2.St) (H : Hp) (ρ : En) (E : ED) (D' : Ends), Ok K B H σ ρ → t E ρ → Lk K B σ H ρ E D' → ts D' σ H
def DS (X : Cx) (st : Stmt) (t : TSD) : Prop := ∃ ts, PS X st ts ∧ EvS X.K ts t
def DSs (X : Cx) (st : List Stmt) (t : TSD) : Prop := ∃ ts, PSs X st ts ∧ EvS X.K ts t
section
variable {K : PySem.W.Frag} {B : Bx} {H H1 : Hp} {σ σ1 : L2.St} {ρ ρ1 : En} {E : ED} {D' : Ends}
theorem Lk.go (l : Lk K B σ H ρ E D') (s : SStp σ H ρ σ1 H1 ρ1) : Lk K B σ1 H1 ρ1 E D' :=
  ⟨fun σ' H' ρ' k t q => l.nx σ' H' ρ' k (s.trans t) q, l.rt, fun σ' H' ρ' k t q => l.bk σ' H' ρ' k (s.trans t) q, fun σ' H' ρ' k t q => l.ct σ' H' ρ' k (s.trans t) q⟩
/-- the same with another end ahead -/
theorem Lk.nxt {N : En → Prop} {N' : L2.St → Hp → Prop} (l : Lk K B σ H ρ E D') (h : ∀ σ' H' ρ', Ok K B H' σ' ρ' → SStp σ H ρ σ' H' ρ' → N ρ' → N' σ' H') : Lk K B σ H ρ { E with nx := N } { D' with nx := N' } := ⟨h, l.rt, l.bk, l.ct⟩
end

def dNext : TSD := fun E ρ => E.nx ρ
def dSeq (t u : TSD) : TSD := fun E ρ => t { E with nx := u E } ρ
def dBreak : TSD := fun E ρ => E.bk ρ
def dCont : TSD := fun E ρ => E.ct ρ
def dIf (t : TB) (a b : TSD) : TSD := fun E ρ => t ρ fun c ρ1 => (c = true → a E ρ1) ∧ (c = false → b E ρ1)
/-- how new a slot's thing is -/
def dAsg (d : TD) (i : Nat) : TSD := fun E ρ => d ρ fun r ρ1 => i < ρ1.length ∧ match r with
  | .v x f => E.nx (ρ1.set i (.val x f))
  | .nl ds f => E.nx (ρ1.set i (.ml ds f))
  | .nd ks ds f => E.nx (ρ1.set i (.md ks ds f))
  | .nt ks ds f => E.nx (ρ1.set i (.mt ks ds f))
  | .m _ => False
def frOk (f : Fr) (d : D) : Bool := (f == .h || f == .n) || nol d
def dRet (d : TD) : TSD := fun E ρ => d ρ fun r ρ1 => ∃ o, stoD r = some o ∧ frOk o.f o.d = true ∧ E.rt o.d ρ1
def dRetN : TSD := fun E ρ => E.rt .non ρ
def dDrop (d : TD) : TSD := fun E ρ => d ρ fun _ ρ1 => E.nx ρ1

section
variable {K : PySem.W.Frag}
theorem evs_next : EvS K tNext dNext := fun B σ H ρ E D' k q l => l.nx σ H ρ k SStp.refl q
theorem evs_break : EvS K tBreak dBreak := fun B σ H ρ E D' k q l => l.bk σ H ρ k SStp.refl q
theorem evs_cont : EvS K tCont dCont := fun B σ H ρ E D' k q l => l.ct σ H ρ k SStp.refl q
theorem evs_seq {t u : TS} {dt du : TSD} (h1 : EvS K t dt) (h2 : EvS K u du) : EvS K (tSeq t u) (dSeq dt du) := fun B σ H ρ E D' k q l =>
  h1 B σ H ρ _ _ k q (l.nxt fun σ1 H1 ρ1 k1 s1 q1 => h2 B σ1 H1 ρ1 E D' k1 q1 (l.go s1))
theorem evs_if {c : TT} {dc : TB} {t u : TS} {dt du : TSD} (hc : EvT K c dc) (h1 : EvS K t dt) (h2 : EvS K u du) : EvS K (tIfS c t u) (dIf dc dt du) := fun B σ H ρ E D' k q l =>
  hc B σ H ρ _ _ k q fun b H1 ρ1 k1 s1 n1 q1 => by
    cases b with
    | true => exact iteT (h1 B σ H1 ρ1 E D' k1 (q1.1 rfl) (l.go s1.s))
    | false => exact iteF (h2 B σ H1 ρ1 E D' k1 (q1.2 rfl) (l.go s1.s))
theorem evs_asg {te : TE} {d : TD} {i : Nat} (h : Ev1 K te d) : EvS K (tAsg te (gName i)) (dAsg d i) := fun B σ H ρ E D' k q l =>
  h B σ H ρ _ _ k q fun v H1 r ρ1 k1 s1 n1 e1 ⟨hi, q1⟩ => by
    show D'.nx (σ.set i (some v)) H1
    cases r with
    | v x f =>
      obtain ⟨o1, o2⟩ := k1.asg hi e1
      exact l.nx _ _ _ o1 (s1.s.trans o2) q1
    | nl ds f =>
      obtain ⟨p, vs, rfl, hp, h0, nm, nav, ka, rs⟩ := e1
      have hσ : (σ.set i (some (V.ref p)))[i]? = some (some (V.ref p)) := List.getElem?_set_self (k1.len ▸ hi)
      refine l.nx _ _ _ (ka.asgN hi (s := .ml ds f) rfl nm fun cl => ⟨p, vs, hσ, hp, rs.mono Keep.refl fun a ha g => ⟨cl a ha g.1 fun z => g.2.1 (by rw [z]; exact List.mem_cons_self), fun z => g.2.1 (List.mem_cons_of_mem _ z), g.2.2.1, fun z => bas_n g.2.2.1 z⟩, fresh0 k.dom h0, nav⟩) ⟨s1.keep, s1.dom, fun a z => ?_⟩ q1
      exact (mset_set z hi k1.len).elim (fun z => .inl (s1.sub a z)) fun ⟨_, e⟩ => .inr (by cases e; exact h0)
    | nd ks ds f =>
      obtain ⟨p, vs, rfl, hp, hl, h0, nm, nav, ka, rs⟩ := e1
      have hσ : (σ.set i (some (V.ref p)))[i]? = some (some (V.ref p)) := List.getElem?_set_self (k1.len ▸ hi)
      refine l.nx _ _ _ (ka.asgN hi (s := .md ks ds f) rfl nm fun cl => ⟨p, vs, hσ, hp, hl, rs.mono Keep.refl fun a ha g => ⟨cl a ha g.1 fun z => g.2.1 (by rw [z]; exact List.mem_cons_self), fun z => g.2.1 (List.mem_cons_of_mem _ z), g.2.2.1, fun z => bas_n g.2.2.1 z⟩, fresh0 k.dom h0, nav⟩) ⟨s1.keep, s1.dom, fun a z => ?_⟩ q1
      exact (mset_set z hi k1.len).elim (fun z => .inl (s1.sub a z)) fun ⟨_, e⟩ => .inr (by cases e; exact h0)
    | nt ks ds f =>
      obtain ⟨p, vs, rfl, hp, hl, h0, nm, nav, ka, rs⟩ := e1
      have hσ : (σ.set i (some (V.ref p)))[i]? = some (some (V.ref p)) := List.getElem?_set_self (k1.len ▸ hi)
      refine l.nx _ _ _ (ka.asgN hi (s := .mt ks ds f) rfl nm fun cl => ⟨p, vs, hσ, hp, hl, rs.mono Keep.refl fun a ha g => ⟨cl a ha g.1 fun z => g.2.1 (by rw [z]; exact List.mem_cons_self), fun z => g.2.1 (List.mem_cons_of_mem _ z), g.2.2.1, fun z => bas_n g.2.2.1 z⟩, fresh0 k.dom h0, nav⟩) ⟨s1.keep, s1.dom, fun a z => ?_⟩ q1
      exact (mset_set z hi k1.len).elim (fun z => .inl (s1.sub a z)) fun ⟨_, e⟩ => .inr (by cases e; exact h0)
    | m j => exact q1.elim
theorem stoR {B : Bx} {H H1 : Hp} {σ : L2.St} {ρ1 : En} {v : V} {r : Rv} {o : Ob} (hd : ∀ a, B.H0 a ≠ none → H a ≠ none) (h : RelR K B H H1 σ ρ1 v r) (e : stoD r = some o) (f : frOk o.f o.d = true) : R K (fun a => B.H0 a = none) H1 o.d v := by
  have q := (h.rg hd).sto e
  unfold frOk at f
  rw [Bool.or_eq_true] at f
  rcases f with f | f
  · refine q.mono Keep.refl fun a _ g => ?_
    have b := g.2.2.1
    revert f b
    cases o.f <;> intro f b <;> first | exact b | cases f
  · exact R.nol f q
theorem evs_ret {te : TE} {d : TD} (h : Ev1 K te d) : EvS K (tRet te) (dRet d) := fun B σ H ρ E D' k q l =>
  h B σ H ρ _ _ k q fun v H1 r ρ1 k1 s1 n1 e1 ⟨o, eo, fo, q1⟩ => l.rt v H1 σ ρ1 o.d k1 (stoR k.dom e1 eo fo) q1
theorem evs_retN : EvS K tRetN dRetN := fun B σ H ρ E D' k q l => l.rt .non H σ ρ .non k R.n q
theorem evs_drop {te : TE} {d : TD} (h : Ev1 K te d) : EvS K (tDrop te) (dDrop d) := fun B σ H ρ E D' k q l =>
  h B σ H ρ _ _ k q fun v H1 r ρ1 k1 s1 n1 e1 q1 => l.nx σ H1 ρ1 k1 s1.s q1
end
section
variable {X : Cx} {st : Stmt} {rest a b : List Stmt} {t u ta tb : TSD} {e c : Expr} {d : TD} {dc : TB} {pos : Pos}
theorem dss_nil : DSs X [] dNext := ⟨_, pss_nil, evs_next⟩
theorem dss_one (h : DS X st t) : DSs X [st] t := let ⟨_, p, ev⟩ := h; ⟨_, pss_one p, ev⟩
theorem dss_cons (h : DS X st t) (r : DSs X rest u) : DSs X (st :: rest) (dSeq t u) := let ⟨_, p, ev⟩ := h; let ⟨_, p2, ev2⟩ := r; ⟨_, pss_cons p p2, evs_seq ev ev2⟩
theorem ds_pass : DS X (.Pass pos) dNext := ⟨_, ps_pass, evs_next⟩
theorem ds_break : DS X (.Break pos) dBreak := ⟨_, ps_break, evs_break⟩
theorem ds_continue : DS X (.Continue pos) dCont := ⟨_, ps_continue, evs_cont⟩
theorem ds_if (hc : DT X c dc) (ha : DSs X a ta) (hb : DSs X b tb) : DS X (.If c a b pos) (dIf dc ta tb) := let ⟨_, p, ev⟩ := hc; let ⟨_, p1, e1⟩ := ha; let ⟨_, p2, e2⟩ := hb; ⟨_, ps_if p p1 p2, evs_if ev e1 e2⟩
theorem ds_set {i : Nat} {x : Str} {pos' : Pos} (he : DE X e d) (hN : X.N.Nodup) (hi : X.N[i]? = some x := by rfl) (hx : Loc X.env.scope x := by first | exact .inl rfl | exact .inr rfl) (hs : swapsWith e (some (.Name x pos')) pos.line X.env = pure false := by rfl) (hf : X.fn x = true ∨ X.env.scope.names.lookup x = some .local := by first | exact .inl rfl | exact .inr rfl | assumption) :
    DS X (.Assign [.Name x pos'] e pos) (dAsg d i) := let ⟨_, p, ev⟩ := he; ⟨_, ps_set hN hi hx p hs hf, evs_asg ev⟩
theorem ds_ret (he : DE X e d) : DS X (.Return (some e) pos) (dRet d) := let ⟨_, p, ev⟩ := he; ⟨_, ps_ret p, evs_ret ev⟩
theorem ds_retN : DS X (.Return none pos) dRetN := ⟨_, ps_retN, evs_retN⟩
theorem ds_expr (he : DE X e d) (hs : swapsWith e none pos.line X.env = pure false := by rfl) : DS X (.Expr e pos) (dDrop d) := let ⟨_, p, ev⟩ := he; ⟨_, ps_expr p hs, evs_drop ev⟩
theorem ds_doc {x j pos pos'} : DS X (.Expr (.Constant (.str x) j pos) pos') dNext := ⟨_, ps_doc, evs_next⟩
end

/-! ### stores into a list, a dict that may be changed -/
/-- a slot's list is another one now; all else is kept -/
theorem Ok.updG {K : PySem.W.Frag} {B : Bx} {H H' : Hp} {σ : L2.St} {ρ : En} {i : Nat} {t s : Sl} {p : Addr} (k : Ok K B H σ ρ) (e : ρ[i]? = some t) (m : t.isM = true) (ms : s.isM = true) (ep : σ[i]? = some (some (.ref p)))
    (hp : p ∈ B.Mp ∨ B.H0 p = none) (kp : Keep (fun a => a ≠ p) H H') (dm : ∀ a, H a ≠ none → H' a ≠ none) (tk : NdefX.TabsN Tabs.T H → NdefX.TabsN Tabs.T H')
    (hs : SlOk K B H' σ (mset σ ρ) i s) : Ok K B H' σ (ρ.set i s) ∧ Stp σ H ρ H' (ρ.set i s) := by
  have hi : i < ρ.length := (List.getElem?_eq_some_iff.mp e).1
  have mm : mset σ (ρ.set i s) = mset σ ρ := by
    funext a
    refine propext ⟨fun ⟨j, u, ej, mj, z⟩ => ?_, fun ⟨j, u, ej, mj, z⟩ => ?_⟩
    · by_cases hj : i = j
      · subst hj; exact ⟨i, t, e, m, z⟩
      · rw [List.getElem?_set_ne hj] at ej; exact ⟨j, u, ej, mj, z⟩
    · by_cases hj : i = j
      · subst hj; exact ⟨i, s, List.getElem?_set_self hi, ms, z⟩
      · exact ⟨j, u, by rw [List.getElem?_set_ne hj]; exact ej, mj, z⟩
  have pm : mset σ ρ p := ⟨i, t, e, m, ep⟩
  have kk : Keep (fun a => ¬ mset σ ρ a) H H' := kp.weak fun a h z => h (z ▸ pm)
  have rs : ∀ {f : Fr} {ds : List D} {vs : List V}, Rs K (GF B (mset σ ρ) B.H0 f) H ds vs → Rs K (GF B (mset σ ρ) B.H0 f) H' ds vs := fun h => h.mono (kk.weak fun _ g => g.1) fun _ _ g => g
  have r1 : ∀ {f : Fr} {d : D} {v : V}, R K (GF B (mset σ ρ) B.H0 f) H d v → R K (GF B (mset σ ρ) B.H0 f) H' d v := fun h => h.mono (kk.weak fun _ g => g.1) fun _ _ g => g
  refine ⟨⟨by rw [List.length_set]; exact k.len, fun a h => dm a (k.dom a h), fun a h => dm a (k.av a h), fun a u h q => @fun n => ?_, fun j u ej => ?_, fun j1 j2 s1 s2 a e1 m1 e2 m2 z1 z2 => ?_, tk k.tb⟩, ⟨kk, dm, fun a z => by rw [mm] at z; exact z⟩⟩
  · have z : a ≠ p := fun z => by
      subst z
      rcases hp with hp | hp
      · exact q hp
      · rw [h] at hp; cases hp
    exact kp a u (k.ext a u h q) (.inl z)
  · rw [mm]
    by_cases hj : i = j
    · subst hj
      rw [List.getElem?_set_self hi] at ej
      cases ej
      exact hs
    · rw [List.getElem?_set_ne hj] at ej
      have q := k.sl j u ej
      have ap : ∀ {p' : Addr}, σ[j]? = some (some (.ref p')) → u.isM = true → p' ≠ p := fun {p'} z w y => by subst y; exact hj (k.inj i j t u p' e m ej w ep z)
      cases u with
      | no => exact True.intro
      | val d f => obtain ⟨v, e1, e2⟩ := q; exact ⟨v, e1, r1 e2⟩
      | ml ds f => obtain ⟨p', vs, e1, e2, e3, e4⟩ := q; exact ⟨p', vs, e1, kp _ _ e2 (.inl (ap e1 rfl)), rs e3, e4⟩
      | mp n ds => obtain ⟨p', vs, e1, e2, e3, e4⟩ := q; exact ⟨p', vs, e1, kp _ _ e2 (.inl (ap e1 rfl)), e3.mono (kk.weak fun _ g => g.elim) fun _ _ g => g, e4⟩
      | md ks ds f => obtain ⟨p', vs, e1, e2, e0, e3, e4⟩ := q; exact ⟨p', vs, e1, kp _ _ e2 (.inl (ap e1 rfl)), e0, rs e3, e4⟩
      | mt ks ds f => obtain ⟨p', vs, e1, e2, e0, e3, e4⟩ := q; exact ⟨p', vs, e1, kp _ _ e2 (.inl (ap e1 rfl)), e0, rs e3, e4⟩
  · have f : ∀ {j : Nat} {u : Sl}, (ρ.set i s)[j]? = some u → u.isM = true → ∃ w : Sl, ρ[j]? = some w ∧ w.isM = true := fun {j u} ej mj => by
      by_cases hj : i = j
      · subst hj; exact ⟨t, e, m⟩
      · rw [List.getElem?_set_ne hj] at ej; exact ⟨u, ej, mj⟩
    obtain ⟨u1, q1, w1⟩ := f e1 m1
    obtain ⟨u2, q2, w2⟩ := f e2 m2
    exact k.inj j1 j2 u1 u2 a q1 w1 q2 w2 z1 z2
theorem Ok.mut {K : PySem.W.Frag} {B : Bx} {H : Hp} {σ : L2.St} {ρ : En} {i : Nat} {t : Sl} {p : Addr} {o : HO} (k : Ok K B H σ ρ) (e : ρ[i]? = some t) (m : t.isM = true) (ep : σ[i]? = some (some (.ref p))) (ho : H p = some o) : ¬ Im o := fun z => by
  have q := k.sl i t e
  cases t with
  | no => cases m
  | val d f => cases m
  | ml ds f => obtain ⟨p', vs, e1, e2, _⟩ := q; rw [ep] at e1; cases e1; rw [ho] at e2; cases e2; exact z
  | mp n ds => obtain ⟨p', vs, e1, e2, _⟩ := q; rw [ep] at e1; cases e1; rw [ho] at e2; cases e2; exact z
  | md ks ds f => obtain ⟨p', vs, e1, e2, _⟩ := q; rw [ep] at e1; cases e1; rw [ho] at e2; cases e2; exact z
  | mt ks ds f => obtain ⟨p', vs, e1, e2, _⟩ := q; rw [ep] at e1; cases e1; rw [ho] at e2; cases e2; exact z
theorem Ok.upd {K : PySem.W.Frag} {B : Bx} {H : Hp} {σ : L2.St} {ρ : En} {i : Nat} {t s : Sl} {p : Addr} {o : HO} (k : Ok K B H σ ρ) (e : ρ[i]? = some t) (m : t.isM = true) (ms : s.isM = true) (ep : σ[i]? = some (some (.ref p)))
    (hp : p ∈ B.Mp ∨ B.H0 p = none)
    (hs : Keep (fun a => a ≠ p) H (upd H p o) → SlOk K B (upd H p o) σ (mset σ ρ) i s) : Ok K B (upd H p o) σ (ρ.set i s) ∧ Stp σ H ρ (upd H p o) (ρ.set i s) := by
  have kp : Keep (fun a => a ≠ p) H (L2.upd H p o) := fun a o' h q => by
    by_cases z : a = p
    · subst z
      rcases q with q | q
      · exact absurd rfl q
      · exact absurd q (k.mut e m ep h)
    · rw [upd_ne z]; exact h
  have dm : ∀ a, H a ≠ none → L2.upd H p o a ≠ none := fun a h => by
    by_cases z : a = p
    · subst z; rw [upd_same]; exact Option.some_ne_none _
    · rw [upd_ne z]; exact h
  have hob : ∃ old, H p = some old := by
    cases q : H p with
    | none => exact absurd q (k.mdom ⟨i, t, e, m, ep⟩)
    | some old => exact ⟨old, rfl⟩
  obtain ⟨old, hold⟩ := hob
  exact k.updG e m ms ep hp kp dm (tb_upd hold (k.mut e m ep hold)) (hs kp)
theorem GF.slot {B : Bx} {M : Addr → Prop} {Hs : Hp} {f g : Fr} {a : Addr} (h : GF B M Hs g a) : GF B M B.H0 (fmin f g) a :=
  let q := GF.minR (f := f) h; ⟨q.1, q.2.1, q.2.2.1, fun z => bas_n (GF.minR (f := f) h).2.2.1 z⟩
def isML : Sl → Bool
  | .ml _ _ => true
  | .mp _ _ => true
  | _ => false
/-- xs.append(e) at the slot m -/
def dApp (m : Nat) (d : TD) : TSD := fun E ρ => isML (ρ.getD m .no) = true ∧ d ρ fun r ρ1 => ∃ o, stoD r = some o ∧ match ρ1.getD m .no with
  | .ml ds f => ds.length < sizeLine ∧ E.nx (ρ1.set m (.ml (ds ++ [o.d]) (fmin f (fup o.f o.d))))
  | .mp n ds => ds.length < sizeLine ∧ nol o.d = true ∧ E.nx (ρ1.set m (.mp n (ds ++ [o.d])))
  | _ => False
/-- xs[i] = e at the slot m -/
def dSetI (m : Nat) (d di : TD) : TSD := fun E ρ => d ρ fun r ρ1 => isML (ρ1.getD m .no) = true ∧ ∃ o, stoD r = some o ∧ di ρ1 fun ri ρ2 => ∃ i, (ob ρ2 ri).d = .int i ∧ match ρ2.getD m .no with
  | .ml ds f => ∃ j, ixN ds.length i = some j ∧ E.nx (ρ2.set m (.ml (ds.set j o.d) (fmin f (fup o.f o.d))))
  | .mp n ds => ∃ j, ixN ds.length i = some j ∧ nol o.d = true ∧ E.nx (ρ2.set m (.mp n (ds.set j o.d)))
  | _ => False
section
variable {K : PySem.W.Frag}
theorem mslot {B : Bx} {H : Hp} {σ : L2.St} {ρ : En} {m : Nat} (k : Ok K B H σ ρ) (h : isML (ρ.getD m .no) = true) : ∃ p vs, σ[m]? = some (some (.ref p)) ∧ H p = some (.lst vs) := by
  cases es : ρ.getD m .no with
  | ml ds f => obtain ⟨p, vs, e1, e2, _⟩ := k.sl m _ (getD_some es (by simp)); exact ⟨p, vs, e1, e2⟩
  | mp n ds => obtain ⟨p, vs, e1, e2, _⟩ := k.sl m _ (getD_some es (by simp)); exact ⟨p, vs, e1, e2⟩
  | no => rw [es] at h; cases h
  | val d f => rw [es] at h; cases h
  | md ks ds f => rw [es] at h; cases h
  | mt ks ds f => rw [es] at h; cases h
theorem evs_app {m : Nat} {te : TE} {d : TD} (h : Ev1 K te d) : EvS K (tDrop (tBM K "list" rAppend (tVar m) (tCons te tNil))) (dApp m d) := fun B σ H ρ E D' k ⟨hm, q⟩ l => by
  obtain ⟨p, vs0, ep, hp0⟩ := mslot k hm
  refine (?_ : tDrop (tBM K "list" rAppend (tVar m) (tCons te tNil)) D' σ H)
  exact ⟨.ref p, ep, Or.inl ⟨rfl, vs0, SqL.of hp0⟩, h B σ H ρ _ _ k q fun v H1 r ρ1 k1 s1 n1 e1 ⟨o, eo, q1⟩ => by
      have ro := (e1.rg k.dom).sto eo
      cases es : ρ1.getD m .no with
      | ml ds f =>
        rw [es] at q1
        have e' := getD_some es (by simp)
        obtain ⟨p', vs, ep', hp, rs, h0, av⟩ := k1.sl m _ e'
        rw [ep] at ep'; cases ep'
        obtain ⟨hz, q1⟩ := q1
        obtain ⟨o1, o2⟩ := k1.upd (o := .lst (vs ++ [v])) (s := .ml (ds ++ [o.d]) (fmin f (fup o.f o.d))) e' rfl rfl ep (.inr h0) fun kp =>
          ⟨p, _, ep, upd_same, (rs.mono (kp.weak fun a g z => g.1 (z ▸ ⟨m, _, e', rfl, ep⟩)) fun _ _ g => g.minL).snoc (ro.up.mono (kp.weak fun a g z => g.1 (z ▸ ⟨m, _, e', rfl, ep⟩)) fun _ _ g => g.slot), h0, av⟩
        exact ⟨p, vs, v, rfl, rfl, hp, by rw [← rs.len]; exact hz, l.nx _ _ _ o1 (s1.trans o2).s q1⟩
      | mp n ds =>
        rw [es] at q1
        have e' := getD_some es (by simp)
        obtain ⟨p', vs, ep', hp, rs, h0, av⟩ := k1.sl m _ e'
        rw [ep] at ep'; cases ep'
        obtain ⟨hz, hn, q1⟩ := q1
        obtain ⟨o1, o2⟩ := k1.upd (o := .lst (vs ++ [v])) (s := .mp n (ds ++ [o.d])) e' rfl rfl ep (.inl (List.mem_of_getElem? h0)) fun kp =>
          ⟨p, _, ep, upd_same, (rs.mono (kp.weak fun a g => g.elim) fun _ _ g => g).snoc ((R.nol hn ro).mono (G := fun _ => False) (kp.weak fun a g => g.elim) fun _ _ g => g), h0, av⟩
        exact ⟨p, vs, v, rfl, rfl, hp, by rw [← rs.len]; exact hz, l.nx _ _ _ o1 (s1.trans o2).s q1⟩
      | no => rw [es] at q1; exact q1.elim
      | val d f => rw [es] at q1; exact q1.elim
      | md ks ds f => rw [es] at q1; exact q1.elim
      | mt ks ds f => rw [es] at q1; exact q1.elim⟩
theorem evs_setI {m : Nat} {te ti : TE} {d di : TD} (h : Ev1 K te d) (hi : Ev1 K ti di) : EvS K (tAsg te (gSub (tVar m) ti rSetL)) (dSetI m d di) := fun B σ H ρ E D' k q l =>
  h B σ H ρ _ _ k q fun v H1 r ρ1 k1 s1 n1 e1 ⟨hm, o, eo, q1⟩ => by
    obtain ⟨p, vs0, ep, hp0⟩ := mslot k1 hm
    refine ⟨.ref p, ep, hi B σ H1 ρ1 _ _ k1 q1 fun y H2 r2 ρ2 k2 s2 n2 e2 ⟨i, ei, q2⟩ => ?_⟩
    have ry := obR k2 k1.dom e2
    rw [ei] at ry
    obtain rfl := ry.int
    have ro := ((e1.rg k.dom).go s2 n2).sto eo
    cases es : ρ2.getD m .no with
    | ml ds f =>
      rw [es] at q2
      have e' := getD_some es (by simp)
      obtain ⟨p', vs, ep', hp, rs, h0, av⟩ := k2.sl m _ e'
      rw [ep] at ep'; cases ep'
      obtain ⟨j, ej, q2⟩ := q2
      obtain ⟨o1, o2⟩ := k2.upd (o := .lst (vs.set j v)) (s := .ml (ds.set j o.d) (fmin f (fup o.f o.d))) e' rfl rfl ep (.inr h0) fun kp =>
        ⟨p, _, ep, upd_same, (rs.mono (kp.weak fun a g z => g.1 (z ▸ ⟨m, _, e', rfl, ep⟩)) fun _ _ g => g.minL).set j (ro.up.mono (kp.weak fun a g z => g.1 (z ▸ ⟨m, _, e', rfl, ep⟩)) fun _ _ g => g.slot), h0, av⟩
      exact ⟨p, vs, i, j, rfl, rfl, hp, by rw [← rs.len]; exact ej, l.nx _ _ _ o1 ((s1.trans s2).trans o2).s q2⟩
    | mp n ds =>
      rw [es] at q2
      have e' := getD_some es (by simp)
      obtain ⟨p', vs, ep', hp, rs, h0, av⟩ := k2.sl m _ e'
      rw [ep] at ep'; cases ep'
      obtain ⟨j, ej, hn, q2⟩ := q2
      obtain ⟨o1, o2⟩ := k2.upd (o := .lst (vs.set j v)) (s := .mp n (ds.set j o.d)) e' rfl rfl ep (.inl (List.mem_of_getElem? h0)) fun kp =>
        ⟨p, _, ep, upd_same, (rs.mono (kp.weak fun a g => g.elim) fun _ _ g => g).set j ((R.nol hn ro).mono (G := fun _ => False) (kp.weak fun a g => g.elim) fun _ _ g => g), h0, av⟩
      exact ⟨p, vs, i, j, rfl, rfl, hp, by rw [← rs.len]; exact ej, l.nx _ _ _ o1 ((s1.trans s2).trans o2).s q2⟩
    | no => rw [es] at q2; exact q2.elim
    | val d f => rw [es] at q2; exact q2.elim
    | md ks ds f => rw [es] at q2; exact q2.elim
    | mt ks ds f => rw [es] at q2; exact q2.elim
end
section
variable {X : Cx} {e i : Expr} {d di : TD} {pos pos' apos p1 : Pos}
theorem ds_app {m : Nat} {x : Str} (he : DE X e d) (hN : X.N[m]? = some x := by rfl) (hv : Vis X.env.scope x := by first | exact Or.inl rfl | exact Or.inr (Or.inl rfl) | exact Or.inr (Or.inr rfl)) (hd : (x == ("__debug__" : Str)) = false := by decide) (hcd : (x == ("__classdict__" : Str)) = false := by decide)
    (hpe : ∀ {to : TE} {ta : TA}, PE X (.Name x p1) to → PA X [e] ta → PE X (.Call (.Attribute (.Name x p1) "append" apos) [e] [] pos) (tBM X.K "list" rAppend to ta) := by intro _ _ h1 h2; exact pe_bm PySem.F.plainAttrs_list PySem.F.slot_list_append PySem.F.type_list_append mt_append h1 h2)
    (hs1 : starEach [e] X.env = (false, eval e X.env) :: starEach [] X.env := by rfl) (hs : swapsWith (.Call (.Attribute (.Name x p1) "append" apos) [e] [] pos) none pos'.line X.env = pure false := by rfl) :
    DS X (.Expr (.Call (.Attribute (.Name x p1) "append" apos) [e] [] pos) pos') (dApp m d) :=
  let ⟨_, p, ev⟩ := he; ⟨_, ps_expr (hpe (pe_var hN hv hd hcd) (pa_cons p pa_nil hs1)) hs, evs_app ev⟩
theorem ds_setI {m : Nat} {x : Str} (he : DE X e d) (hi : DE X i di) (hN : X.N[m]? = some x := by rfl) (hv : Vis X.env.scope x := by first | exact Or.inl rfl | exact Or.inr (Or.inl rfl) | exact Or.inr (Or.inr rfl)) (hd : (x == ("__debug__" : Str)) = false := by decide) (hcd : (x == ("__classdict__" : Str)) = false := by decide)
    (hps : ∀ {te : TE} {g : TG}, PE X e te → PG X (.Subscript (.Name x p1) i apos) g → PS X (.Assign [.Subscript (.Name x p1) i apos] e pos) (tAsg te g) := by intro _ _ h1 h2; exact ps_asg h1 h2)
    (hpg : ∀ {to ti : TE}, PE X (.Name x p1) to → PE X i ti → PG X (.Subscript (.Name x p1) i apos) (gSub to ti rSetL) := by intro _ _ h1 h2; exact pg_sub h1 h2 set_list) :
    DS X (.Assign [.Subscript (.Name x p1) i apos] e pos) (dSetI m d di) :=
  let ⟨_, p, ev⟩ := he; let ⟨_, p2, ev2⟩ := hi; ⟨_, hps p (hpg (pe_var hN hv hd hcd) p2), evs_setI ev ev2⟩
end
end DL

namespace DL
open PySem L2
variable [Tabs]

/-! ### what a def promises, on data -/
abbrev SpD := List D → (D → Prop) → Prop
/-- a def that changes nothing: its answer is new, or has no list in it -/
def spP (K : PySem.W.Frag) (sp : SpD) : Sp := fun vs H Q _ => ∃ (ds : List D) (P : D → Prop), Rs K (fun _ => True) H ds vs ∧ NdefX.TabsN Tabs.T H ∧ sp ds P ∧ ∀ d v H', P d → All H H' → R K (fun a => H a = none) H' d v → Q v H'
/-- a def that changes the list (of atoms) at its j-th parameter -/
abbrev SpT := List D → List D → (D → List D → Prop) → Prop
def spT (K : PySem.W.Frag) (j : Nat) (sp : SpT) : Sp := fun vs H Q _ => ∃ (p : Addr) (ws : List V) (es ds : List D) (P : D → List D → Prop), vs[j]? = some (.ref p) ∧ H p = some (.lst ws) ∧ Rs K (fun _ => False) H es ws ∧ Rs K (fun a => a ≠ p) H ds (vs.eraseIdx j) ∧ NdefX.TabsN Tabs.T H ∧
  sp ds es P ∧ ∀ d out v H' ws', P d out → Keep (fun a => a ≠ p) H H' → (∀ a, H a ≠ none → H' a ≠ none) → NdefX.TabsN Tabs.T H' → H' p = some (.lst ws') → Rs K (fun _ => False) H' out ws' → R K (fun a => H a = none) H' d v → Q v H'
/-- the def that the module's name x holds -/
structure Cal (P : Program) (w : World) (K : PySem.W.Frag) (mg : Str → Option Value) (base : Heap) (x : Str) (k : Nat) (sp : Sp) : Prop where
  ex : ∃ f fd ps, FnOk P w K mg base CX0 k f fd ps sp ∧ mg x = some (.ref f) ∧ PySem.W.keepIn K (.ref f) = true ∧ Binds K fd ps []
def dCall (sp : SpD) (t : TL) : TD := fun ρ Q => t ρ fun rs ρ1 => sp (rs.map fun r => (ob ρ1 r).d) fun d => Q (.v d .n) ρ1
def isMi (i : Nat) : Rv → Bool
  | .m j => i == j
  | _ => false
def dCallT (j : Nat) (sp : SpT) (t : TL) : TD := fun ρ Q => t ρ fun rs ρ1 => match rs.getD j (.v .non .n) with
  | .m i => (rs.eraseIdx j).all (fun r => !isMi i r) = true ∧ match ρ1.getD i .no with
    | .ml es f => nols es = true ∧ sp ((rs.eraseIdx j).map fun r => (ob ρ1 r).d) es fun d out => Q (.v d .n) (ρ1.set i (.ml out f))
    | .mp n es => sp ((rs.eraseIdx j).map fun r => (ob ρ1 r).d) es fun d out => Q (.v d .n) (ρ1.set i (.mp n out))
    | _ => False
  | _ => False
section
variable {K : PySem.W.Frag} {B : Bx} {H H' H1 Hs : Hp} {σ : L2.St} {ρ ρ' ρ1 : En} {v : V} {r : Rv}
theorem RgL.all (k : Ok K B H σ ρ) : ∀ {vs : List V} {rs : List Rv}, RgL K B Hs H σ ρ vs rs → Rs K (fun _ => True) H (rs.map fun r => (ob ρ r).d) vs
  | _, _, .nil => Rs.nil
  | _, _, .cons h t => Rs.cons (h.ro k).all (RgL.all k t)
theorem RgL.erase : ∀ {vs : List V} {rs : List Rv} (j : Nat), RgL K B Hs H σ ρ vs rs → RgL K B Hs H σ ρ (vs.eraseIdx j) (rs.eraseIdx j)
  | _, _, _, .nil => .nil
  | _, _, 0, .cons h t => t
  | _, _, j + 1, .cons h t => .cons h (RgL.erase j t)
theorem RgL.get : ∀ {vs : List V} {rs : List Rv} {j : Nat} {r : Rv}, RgL K B Hs H σ ρ vs rs → rs[j]? = some r → ∃ v, vs[j]? = some v ∧ Rg K B Hs H σ ρ v r
  | _, _, _, _, .nil, e => by simp at e
  | _, _, 0, _, .cons h t, e => by simp at e; subst e; exact ⟨_, rfl, h⟩
  | _, _, j + 1, _, .cons h t, e => by
    obtain ⟨v, h1, h2⟩ := RgL.get (j := j) t (by simpa using e)
    exact ⟨v, by simpa using h1, h2⟩
/-- away from the list of the slot i -/
theorem Rg.off {i : Nat} {s : Sl} {p : Addr} (k : Ok K B H σ ρ) (e : ρ[i]? = some s) (m : s.isM = true) (ep : σ[i]? = some (some (.ref p))) (h : Rg K B Hs H σ ρ v r) (n : isMi i r = false) : R K (fun a => a ≠ p) H (ob ρ r).d v := by
  have pm : mset σ ρ p := ⟨i, s, e, m, ep⟩
  have g : ∀ {f : Fr} {Hs : Hp} (a : Addr), H a ≠ none → GF B (mset σ ρ) Hs f a → a ≠ p := fun a _ g z => g.1 (z ▸ pm)
  cases r with
  | v d f => exact R.mono Keep.refl g h
  | nl ds f => exact R.mono Keep.refl g (show R K _ H (.lst ds) v from h)
  | nd ks ds f => exact R.mono Keep.refl g (show R K _ H (.dic ks ds) v from h)
  | nt ks ds f => exact R.mono Keep.refl g (show R K _ H (.dit ks ds) v from h)
  | m j =>
    have hij : i ≠ j := fun z => by unfold isMi at n; rw [z] at n; simp at n
    obtain ⟨ev, t, et, nt⟩ := h
    have eo : ob ρ (.m j) = obS t := by show obS (ρ.getD j .no) = _; rw [List.getD_eq_getElem?_getD, et]; rfl
    rw [eo]
    have q := k.sl j t et
    have ne : ∀ {p' : Addr}, σ[j]? = some (some (.ref p')) → t.isM = true → p' ≠ p := fun z w y => by subst y; exact hij (k.inj i j s t _ e m et w ep z)
    cases t with
    | no => exact absurd rfl nt
    | val d f => obtain ⟨w, e1, e2⟩ := q; rw [ev] at e1; cases e1; exact R.mono Keep.refl g e2
    | ml ds f => obtain ⟨p', vs, e1, e2, e3, _⟩ := q; rw [ev] at e1; cases e1; show R K _ H (.lst ds) _; unfold R; exact ⟨p', vs, rfl, e2, ne ev rfl, e3.mono Keep.refl g⟩
    | mp n ds => obtain ⟨p', vs, e1, e2, e3, _⟩ := q; rw [ev] at e1; cases e1; show R K _ H (.lst ds) _; unfold R; exact ⟨p', vs, rfl, e2, ne ev rfl, e3.mono Keep.refl fun _ _ g => g.elim⟩
    | md ks ds f => obtain ⟨p', vs, e1, e2, l, e3, _⟩ := q; rw [ev] at e1; cases e1; show R K _ H (.dic ks ds) _; unfold R; exact ⟨p', vs, rfl, e2, l, ne ev rfl, e3.mono Keep.refl g⟩
    | mt ks ds f => obtain ⟨p', vs, e1, e2, l, e3, _⟩ := q; rw [ev] at e1; cases e1; show R K _ H (.dit ks ds) _; unfold R; exact ⟨p', vs, rfl, e2, l, ne ev rfl, e3.mono Keep.refl g⟩
theorem RgL.off {i : Nat} {s : Sl} {p : Addr} (k : Ok K B H σ ρ) (e : ρ[i]? = some s) (m : s.isM = true) (ep : σ[i]? = some (some (.ref p))) : ∀ {vs : List V} {rs : List Rv}, RgL K B Hs H σ ρ vs rs → rs.all (fun r => !isMi i r) = true → Rs K (fun a => a ≠ p) H (rs.map fun r => (ob ρ r).d) vs
  | _, _, .nil, _ => Rs.nil
  | _, _, .cons h t, q => by
    rw [List.all_cons, Bool.and_eq_true] at q
    exact Rs.cons (h.off k e m ep (by simpa using q.1)) (RgL.off k e m ep t q.2)
/-- behind a call: what the callee made is new -/
theorem fresh_gf {M : Addr → Prop} {a : Addr} (hd : ∀ a, B.H0 a ≠ none → Hs a ≠ none) (hh : ∀ a, Hs a ≠ none → H a ≠ none) (hm : ∀ a, M a → H a ≠ none) (hav : ∀ a ∈ B.Av, H a ≠ none) (h : H a = none) : GF B M Hs .n a :=
  ⟨fun z => hm a z h, fun z => hav a z h, fresh0 hd (none_back hh h), fun _ => none_back hh h⟩
theorem ev_call {sp : SpD} {E : XK} {ta : TA} {da : TL} (ha : EvL K ta da) : Ev1 K (tCall (spP K sp) [] E ta) (dCall sp da) := fun B σ H ρ Q Q' k q fin =>
  ha B σ H ρ _ _ k q fun vs H1 rs ρ1 k1 s1 n1 e1 q1 => by
    show spP K sp (vs ++ []) H1 Q' E
    rw [List.append_nil]
    refine ⟨_, _, e1.all k1, k1.tb, q1, fun d v H2 p A r => fin v H2 (.v d .n) ρ1 (k1.all A) (s1.trans A.step) n1 ?_ p⟩
    exact r.mono Keep.refl fun a _ g => fresh_gf k.dom s1.dom (fun _ m => k1.mdom m) k1.av g
theorem getD_rs {rs : List Rv} {j : Nat} {i : Nat} (h : rs.getD j (.v .non .n) = .m i) : rs[j]? = some (.m i) := by
  rw [List.getD_eq_getElem?_getD] at h
  cases e : rs[j]? with
  | none => rw [e] at h; cases h
  | some t => rw [e] at h; exact congrArg some h
theorem ev_callT {j : Nat} {sp : SpT} {E : XK} {ta : TA} {da : TL} (ha : EvL K ta da) : Ev1 K (tCall (spT K j sp) [] E ta) (dCallT j sp da) := fun B σ H ρ Q Q' k q fin =>
  ha B σ H ρ _ _ k q fun vs H1 rs ρ1 k1 s1 n1 e1 q1 => by
    show spT K j sp (vs ++ []) H1 Q' E
    rw [List.append_nil]
    cases ei : rs.getD j (.v .non .n) with
    | m i =>
      rw [ei] at q1
      obtain ⟨u, eu, ⟨eσ, s, es, ns⟩⟩ := e1.get (getD_rs ei)
      obtain ⟨hoff, q1⟩ := q1
      cases e2 : ρ1.getD i .no with
      | ml xs f =>
        rw [e2] at q1
        have e' := getD_some e2 (by simp)
        obtain ⟨p, ws, ep, hp, rw', h0, av⟩ := k1.sl i _ e'
        rw [eσ] at ep; cases ep
        have pm : mset σ ρ1 p := ⟨i, _, e', rfl, eσ⟩
        refine ⟨p, ws, xs, _, _, eu, hp, Rs.nol q1.1 rw', RgL.off k1 e' rfl eσ (e1.erase j) hoff, k1.tb, q1.2, fun d out v H2 ws' P kp dm tk hp2 ro rv => ?_⟩
        obtain ⟨o1, o2⟩ := k1.updG (s := .ml out f) e' rfl rfl eσ (.inr h0) kp dm (fun _ => tk) ⟨p, ws', eσ, hp2, ro.mono Keep.refl fun _ _ g => g.elim, h0, av⟩
        exact fin v H2 (.v d .n) _ o1 (s1.trans o2) (n1.trans fun l ⟨t, et, nt⟩ => by
          by_cases hl : i = l
          · subst hl; exact ⟨_, List.getElem?_set_self (List.getElem?_eq_some_iff.mp e').1, by simp⟩
          · exact ⟨t, by rw [List.getElem?_set_ne hl]; exact et, nt⟩) (rv.mono Keep.refl fun a _ g => fresh_gf k.dom s1.dom (fun x m => k1.mdom (o2.sub x m)) k1.av g) P
      | mp n xs =>
        rw [e2] at q1
        have e' := getD_some e2 (by simp)
        obtain ⟨p, ws, ep, hp, rw', h0, av⟩ := k1.sl i _ e'
        rw [eσ] at ep; cases ep
        have pm : mset σ ρ1 p := ⟨i, _, e', rfl, eσ⟩
        refine ⟨p, ws, xs, _, _, eu, hp, rw', RgL.off k1 e' rfl eσ (e1.erase j) hoff, k1.tb, q1, fun d out v H2 ws' P kp dm tk hp2 ro rv => ?_⟩
        obtain ⟨o1, o2⟩ := k1.updG (s := .mp n out) e' rfl rfl eσ (.inl (List.mem_of_getElem? h0)) kp dm (fun _ => tk) ⟨p, ws', eσ, hp2, ro, h0, av⟩
        exact fin v H2 (.v d .n) _ o1 (s1.trans o2) (n1.trans fun l ⟨t, et, nt⟩ => by
          by_cases hl : i = l
          · subst hl; exact ⟨_, List.getElem?_set_self (List.getElem?_eq_some_iff.mp e').1, by simp⟩
          · exact ⟨t, by rw [List.getElem?_set_ne hl]; exact et, nt⟩) (rv.mono Keep.refl fun a _ g => fresh_gf k.dom s1.dom (fun x m => k1.mdom (o2.sub x m)) k1.av g) P
      | no => rw [e2] at q1; exact q1.elim
      | val d f => rw [e2] at q1; exact q1.elim
      | md ks ds f => rw [e2] at q1; exact q1.elim
      | mt ks ds f => rw [e2] at q1; exact q1.elim
    | v d f => rw [ei] at q1; exact q1.elim
    | nl ds f => rw [ei] at q1; exact q1.elim
    | nd ks ds f => rw [ei] at q1; exact q1.elim
    | nt ks ds f => rw [ei] at q1; exact q1.elim
end
section
variable {X : Cx} {e : Expr} {es : List Expr} {t : TL} {x : Str} {p pos : Pos} {j k : Nat}
theorem de_call {sp : SpD} (C : Cal X.prog X.w X.K X.mg X.base x j (spP X.K sp)) (hr : Room k X.A) (hjk : j ≤ k) (ha : DA X (e :: es) t) (hg : Gl X x := by rfl) (hdb : (x == ("__debug__" : Str)) = false := by decide)
    (he : starEach (e :: es) X.env = (false, eval e X.env) :: starEach es X.env := by rfl) (hpl : (backTo pos (starEach es X.env)).any (·.1) = false := by rfl) : DE X (.Call (.Name x p) (e :: es) [] pos) (dCall sp t) := by
  obtain ⟨f, fd, ps, F, hm, hk, hb⟩ := C.ex
  obtain ⟨_, pa, ev⟩ := ha
  exact ⟨_, pe_call F (hr.mono hjk) hg hm hk hb .nil pass0 pa hdb he hpl, ev_call ev⟩
theorem de_callT {i : Nat} {sp : SpT} (C : Cal X.prog X.w X.K X.mg X.base x j (spT X.K i sp)) (hr : Room k X.A) (hjk : j ≤ k) (ha : DA X (e :: es) t) (hg : Gl X x := by rfl) (hdb : (x == ("__debug__" : Str)) = false := by decide)
    (he : starEach (e :: es) X.env = (false, eval e X.env) :: starEach es X.env := by rfl) (hpl : (backTo pos (starEach es X.env)).any (·.1) = false := by rfl) : DE X (.Call (.Name x p) (e :: es) [] pos) (dCallT i sp t) := by
  obtain ⟨f, fd, ps, F, hm, hk, hb⟩ := C.ex
  obtain ⟨_, pa, ev⟩ := ha
  exact ⟨_, pe_call F (hr.mono hjk) hg hm hk hb .nil pass0 pa hdb he hpl, ev_callT ev⟩
end

/-! ### THE RULE for a def -/
def ini (n : Nat) (ds : List D) : En := ds.map (fun d => Sl.val d .p) ++ List.replicate (n - ds.length) .no
/-- with the changed list at the place j -/
def iniT (n j : Nat) (ds es : List D) : En := (ds.map (fun d => Sl.val d .p)).take j ++ Sl.mp 0 es :: ((ds.map (fun d => Sl.val d .p)).drop j ++ List.replicate (n - ds.length - 1) .no)
section
variable {P : Program} {w : World} {K : PySem.W.Frag} {mg : Str → Option Value} {base : Heap}
theorem start_at {N : List Str} {vs : List V} {i : Nat} {v : V} (h : vs[i]? = some v) : (L2.start N vs)[i]? = some (some v) := by
  unfold L2.start
  have hi := (List.getElem?_eq_some_iff.mp h).1
  rw [List.getElem?_append_left (by rw [List.length_map]; exact hi), List.getElem?_map, h]
  rfl
theorem ini_at {n : Nat} {ds : List D} {i : Nat} {s : Sl} (h : (ini n ds)[i]? = some s) : s = .no ∨ ∃ d, ds[i]? = some d ∧ s = .val d .p := by
  unfold ini at h
  by_cases hi : i < (ds.map (fun d => Sl.val d .p)).length
  · rw [List.getElem?_append_left hi, List.getElem?_map] at h
    cases e : ds[i]? with
    | none => rw [e] at h; cases h
    | some d => rw [e] at h; exact .inr ⟨d, rfl, (Option.some.inj h).symm⟩
  · rw [List.getElem?_append_right (by omega)] at h
    exact .inl (List.eq_of_mem_replicate (List.mem_of_getElem? h))
/-- all that the base knew is as it was -/
theorem Ok.base0 {B : Bx} {H' : Hp} {σ : L2.St} {ρ : En} (k : Ok K B H' σ ρ) (h : B.Mp = []) : All B.H0 H' := ⟨fun a o e => k.ext a o e (by rw [h]; simp), fun a e => k.dom a e, fun _ => k.tb⟩
theorem ok_ini {N : List Str} {vs : List V} {ds : List D} {H : Hp} (hn : vs.length ≤ N.length) (tb : NdefX.TabsN Tabs.T H) (r : Rs K (fun _ => True) H ds vs) : Ok K ⟨H, [], []⟩ H (L2.start N vs) (ini N.length ds) := by
  have hl := r.len
  have nom : ∀ (i : Nat) (s : Sl), (ini N.length ds)[i]? = some s → s.isM = true → False := fun i s h m => by
    rcases ini_at h with rfl | ⟨d, _, rfl⟩ <;> cases m
  refine ⟨?_, fun _ h => h, fun a h => absurd h (by simp), fun _ _ h _ => h, fun i s h => ?_, fun i j s t a e1 m1 _ _ _ _ => (nom i s e1 m1).elim, tb⟩
  · unfold ini L2.start
    rw [List.length_append, List.length_append, List.length_map, List.length_map, List.length_replicate, List.length_replicate, hl]
  · rcases ini_at h with rfl | ⟨d, e, rfl⟩
    · exact True.intro
    · obtain ⟨v, ev, rv⟩ := r.get e
      refine ⟨v, start_at ev, rv.mono Keep.refl fun a ha _ => ⟨?_, ?_, ha, ?_⟩⟩
      · intro ⟨i, s, e, m, _⟩; exact nom i s e m
      · simp
      · intro z; cases z
theorem dfn {x qual : Str} {st : Stmt} {f : Addr} {fd : FuncData} {N ps : List Str} {k : Nat} {sp : SpD} {t : TSD} (F : Fun K x qual st f fd) (S : FnScope N ps (defScope st)) (hN : ps.length ≤ N.length) (len : ∀ ds Q, sp ds Q → ds.length = ps.length)
    (hbody : ∀ (cdv : Value) (A : Around) (outer : List Env) (s : Shared) (H : Hp) (E : XK), Room k (A.deeper (PyProof.Rows.envOfC qual (defScope st) s.heap.objs.size f cdv)) → DSs (cxOf CX0 P w K mg base N qual (defScope st) f cdv A outer s H E).nox (defBody st) t)
    (hrd : ∀ ds Q, sp ds Q → t ⟨fun _ => Q .non, fun d _ => Q d, fun _ => False, fun _ => False⟩ (ini N.length ds)) : FnOk P w K mg base CX0 (k + 1) f fd ps (spP K sp) := by
  refine F.ok S (fun vs H Q E ⟨ds, Pd, r, _, h, _⟩ => by rw [← r.len]; exact len ds Pd h) fun cdv A outer s H vs Q E hr ⟨ds, Pd, r, tb, h, fin⟩ => ?_
  obtain ⟨ts, hp, ev⟩ := hbody cdv A outer s H E hr
  have hvl : vs.length = ps.length := by rw [← r.len]; exact len ds Pd h
  refine ⟨ts, hp, ev ⟨H, [], []⟩ _ _ _ _ _ (ok_ini (by omega) tb r) (hrd ds Pd h) ⟨fun σ' H' ρ' k s q => ?_, fun v H' σ' ρ' d k r q => ?_, fun _ _ _ _ _ q => q, fun _ _ _ _ _ q => q⟩⟩
  · exact fin .non .non H' q (k.base0 rfl) R.n
  · exact fin d v H' q (k.base0 rfl) r
end
end DL

namespace DL
open PySem L2
variable [Tabs]

/-! ### THE RULE for a def that changes the list at its place j -/
section
variable {P : Program} {w : World} {K : PySem.W.Frag} {mg : Str → Option Value} {base : Heap}
theorem iniT_at {n j : Nat} {ds es : List D} {i : Nat} {s : Sl} (hj : j ≤ ds.length) (h : (iniT n j ds es)[i]? = some s) : (i = j ∧ s = .mp 0 es) ∨ s = .no ∨ ∃ i' d, ds[i']? = some d ∧ s = .val d .p ∧ ((i' = i ∧ i < j) ∨ (i' + 1 = i ∧ j < i)) := by
  unfold iniT at h
  have ht : ((ds.map (fun d => Sl.val d .p)).take j).length = j := by rw [List.length_take, List.length_map]; omega
  by_cases h1 : i < j
  · rw [List.getElem?_append_left (by omega), List.getElem?_take_of_lt h1, List.getElem?_map] at h
    cases e : ds[i]? with
    | none => rw [e] at h; cases h
    | some d => rw [e] at h; exact .inr (.inr ⟨i, d, e, (Option.some.inj h).symm, .inl ⟨rfl, h1⟩⟩)
  · rw [List.getElem?_append_right (by omega), ht] at h
    by_cases h2 : i = j
    · subst h2
      rw [Nat.sub_self] at h
      exact .inl ⟨rfl, (Option.some.inj h).symm⟩
    · obtain ⟨m, hm⟩ : ∃ m, i - j = m + 1 := ⟨i - j - 1, by omega⟩
      rw [hm, List.getElem?_cons_succ] at h
      by_cases h3 : m < ((ds.map (fun d => Sl.val d .p)).drop j).length
      · rw [List.getElem?_append_left h3, List.getElem?_drop, List.getElem?_map] at h
        cases e : ds[j + m]? with
        | none => rw [e] at h; cases h
        | some d => rw [e] at h; exact .inr (.inr ⟨j + m, d, e, (Option.some.inj h).symm, .inr ⟨by omega, by omega⟩⟩)
      · rw [List.getElem?_append_right (by omega)] at h
        exact .inr (.inl (List.eq_of_mem_replicate (List.mem_of_getElem? h)))
theorem iniT_len {n j : Nat} {ds es : List D} (hj : j ≤ ds.length) (hn : ds.length + 1 ≤ n) : (iniT n j ds es).length = n := by
  unfold iniT
  rw [List.length_append, List.length_cons, List.length_append, List.length_take, List.length_drop, List.length_map, List.length_replicate]
  omega
theorem ok_iniT {N : List Str} {vs ws : List V} {ds es : List D} {H : Hp} {p : Addr} {j : Nat} (hn : vs.length ≤ N.length) (tb : NdefX.TabsN Tabs.T H) (hp : vs[j]? = some (.ref p)) (hw : H p = some (.lst ws)) (re : Rs K (fun _ => False) H es ws) (r : Rs K (fun a => a ≠ p) H ds (vs.eraseIdx j)) :
    Ok K ⟨H, [p], []⟩ H (L2.start N vs) (iniT N.length j ds es) := by
  have hl := r.len
  have hjv : j < vs.length := (List.getElem?_eq_some_iff.mp hp).1
  rw [List.length_eraseIdx_of_lt hjv] at hl
  have hj : j ≤ ds.length := by omega
  have ism : ∀ (i : Nat) (s : Sl), (iniT N.length j ds es)[i]? = some s → s.isM = true → i = j := fun i s h m => by
    rcases iniT_at hj h with ⟨e, _⟩ | rfl | ⟨_, d, _, rfl, _⟩
    · exact e
    · cases m
    · cases m
  have hσ : (L2.start N vs)[j]? = some (some (.ref p)) := start_at hp
  have mp : ∀ a, mset (L2.start N vs) (iniT N.length j ds es) a → a = p := fun a ⟨i, s, e, m, z⟩ => by
    have := ism i s e m
    subst this
    rw [hσ] at z; cases z; rfl
  refine ⟨?_, fun _ h => h, fun a h => absurd h (by simp), fun _ _ h _ => h, fun i s h => ?_, fun i i' s t a e1 m1 e2 m2 _ _ => (ism i s e1 m1).trans (ism i' t e2 m2).symm, tb⟩
  · rw [iniT_len hj (by omega)]
    unfold L2.start
    rw [List.length_append, List.length_map, List.length_replicate]; omega
  · rcases iniT_at hj h with ⟨rfl, rfl⟩ | rfl | ⟨i', d, e, rfl, hi⟩
    · exact ⟨p, ws, hσ, hw, re, rfl, by simp⟩
    · exact True.intro
    · obtain ⟨v, ev, rv⟩ := r.get e
      rw [List.getElem?_eraseIdx] at ev
      refine ⟨v, start_at ?_, rv.mono Keep.refl fun a ha g => ⟨?_, ?_, ha, ?_⟩⟩
      · rcases hi with ⟨rfl, h1⟩ | ⟨rfl, h1⟩
        · rw [if_pos h1] at ev; exact ev
        · rw [if_neg (by omega)] at ev; exact ev
      · intro m; exact g (mp a m)
      · simp
      · intro z; cases z
theorem dfnT {x qual : Str} {st : Stmt} {f : Addr} {fd : FuncData} {N ps : List Str} {k j : Nat} {sp : SpT} {t : TSD} (F : Fun K x qual st f fd) (S : FnScope N ps (defScope st)) (hN : ps.length ≤ N.length) (hj : j < ps.length) (len : ∀ ds es Q, sp ds es Q → ds.length + 1 = ps.length)
    (hbody : ∀ (cdv : Value) (A : Around) (outer : List Env) (s : Shared) (H : Hp) (E : XK), Room k (A.deeper (PyProof.Rows.envOfC qual (defScope st) s.heap.objs.size f cdv)) → DSs (cxOf CX0 P w K mg base N qual (defScope st) f cdv A outer s H E).nox (defBody st) t)
    (hrd : ∀ ds es Q, sp ds es Q → t ⟨fun ρ => ∃ out, ρ[j]? = some (.mp 0 out) ∧ Q .non out, fun d ρ => ∃ out, ρ[j]? = some (.mp 0 out) ∧ Q d out, fun _ => False, fun _ => False⟩ (iniT N.length j ds es)) : FnOk P w K mg base CX0 (k + 1) f fd ps (spT K j sp) := by
  have hlen : ∀ {vs : List V} {H : Hp} {p : Addr} {ds es : List D} {Pd : D → List D → Prop}, vs[j]? = some (.ref p) → Rs K (fun a => a ≠ p) H ds (vs.eraseIdx j) → sp ds es Pd → vs.length = ps.length := fun {vs H p ds es Pd} hp r h => by
    have hl := r.len
    rw [List.length_eraseIdx_of_lt (List.getElem?_eq_some_iff.mp hp).1] at hl
    have h2 := len ds es Pd h
    have h3 := (List.getElem?_eq_some_iff.mp hp).1
    omega
  refine F.ok S (fun vs H Q E ⟨p, ws, es, ds, Pd, hp, hw, re, r, _, h, _⟩ => hlen hp r h) fun cdv A outer s H vs Q E hr ⟨p, ws, es, ds, Pd, hp, hw, re, r, tb, h, fin⟩ => ?_
  obtain ⟨ts, hps, ev⟩ := hbody cdv A outer s H E hr
  have hvl := hlen hp r h
  have back : ∀ {σ' H' ρ'} {d : D} {v : V}, Ok K ⟨H, [p], []⟩ H' σ' ρ' → R K (fun a => H a = none) H' d v → (∃ out, ρ'[j]? = some (.mp 0 out) ∧ Pd d out) → Q v H' := fun {σ' H' ρ' d v} k rv ⟨out, eo, q⟩ => by
    obtain ⟨p', ws', _, hp', ro, hmp, _⟩ := k.sl j _ eo
    have : p' = p := by simpa using hmp.symm
    subst this
    refine fin d out v H' ws' q (fun a o ho g => @fun n => ?_) (fun a ha => k.dom a ha) k.tb hp' ro rv
    refine k.ext a o ho fun z => ?_
    have z : a = p' := by simpa using z
    subst z
    rcases g with g | g
    · exact g rfl
    · rw [hw] at ho; cases ho; exact g
  refine ⟨ts, hps, ev ⟨H, [p], []⟩ _ _ _ _ _ (ok_iniT (by omega) tb hp hw re r) (hrd ds es Pd h) ⟨fun σ' H' ρ' k s q => ?_, fun v H' σ' ρ' d k r q => ?_, fun _ _ _ _ _ q => q, fun _ _ _ _ _ q => q⟩⟩
  · exact back k R.n q
  · exact back k r q
end

/-! ### what is walked -/
def DJ (K : PySem.W.Frag) (B : Bx) (Hs H1 : Hp) (M1 : Addr → Prop) (J : It) (ds : List D) (f : Fr) : Prop :=
  ∀ H, Keep (fun a => ¬ M1 a) H1 H → ∀ i, (i < ds.length → J.go i H ∧ ∀ x H', J.yld i H x H' → All H H' ∧ ∃ d, ds[i]? = some d ∧ R K (fun a => GF B M1 Hs f a ∧ H1 a ≠ none) H' d x) ∧ (ds.length ≤ i → J.stop i H)
abbrev TID := En → (List D → Fr → En → Prop) → Prop
def EvI (K : PySem.W.Frag) (wi : TI) (t : TID) : Prop := ∀ (B : Bx) (σ : L2.St) (H : Hp) (ρ : En) (Q : List D → Fr → En → Prop) (R' : It → Hp → Prop), Ok K B H σ ρ → t ρ Q →
  (∀ J H' ds f ρ', Ok K B H' σ ρ' → Stp σ H ρ H' ρ' → Kn ρ ρ' → DJ K B H H' (mset σ ρ') J ds f → Q ds f ρ' → R' J H') → wi σ H R'
def DI (X : Cx) (tg iter : Expr) (t : TID) : Prop := ∃ wi, PI X tg iter wi ∧ EvI X.K wi t
section
variable {X : Cx} {tg e : Expr} {wi wi' : TI}
theorem PI.or (h : PI X tg e wi) (h' : PI X tg e wi') : PI X tg e (fun σ H R => wi σ H R ∨ wi' σ H R) := ⟨fun pins s σ H R I q => q.elim (h.run pins s σ H R I) (h'.run pins s σ H R I)⟩
end
/-- the signs of a text -/
def signs (z : Str) : List D := z.cps.toList.map fun c => .str ⟨#[c]⟩
section
variable {K : PySem.W.Frag} {B : Bx} {H H' H1 Hs : Hp} {σ : L2.St} {ρ : En} {M1 : Addr → Prop}
theorem Rs.there {G : Addr → Prop} {H : Hp} {ds : List D} {vs : List V} (h : Rs K G H ds vs) : Rs K (fun a => G a ∧ H a ≠ none) H ds vs := h.mono Keep.refl fun _ h g => ⟨g, h⟩
theorem Rs.later {f : Fr} {ds : List D} {vs : List V} (kp : Keep (fun a => ¬ M1 a) H1 H) (h : Rs K (GF B M1 Hs f) H1 ds vs) : Rs K (fun a => GF B M1 Hs f a ∧ H1 a ≠ none) H ds vs := h.there.mono (kp.weak fun _ g => g.1.1) fun _ _ g => g
theorem R.later {f : Fr} {d : D} {v : V} (kp : Keep (fun a => ¬ M1 a) H1 H) (h : R K (GF B M1 Hs f) H1 d v) : R K (fun a => GF B M1 Hs f a ∧ H1 a ≠ none) H d v := (h.mono (G' := fun a => GF B M1 Hs f a ∧ H1 a ≠ none) Keep.refl fun _ h g => ⟨g, h⟩).mono (kp.weak fun _ g => g.1.1) fun _ _ g => g
/-- items that stand at an address that stays -/
theorem dj_of {a : Addr} {vs : List V} {ds : List D} {f : Fr} (J : It) (rs : Rs K (GF B M1 Hs f) H1 ds vs)
    (hgo : ∀ H, Keep (fun a => ¬ M1 a) H1 H → ∀ i v, vs[i]? = some v → J.go i H ∧ ∀ x H', J.yld i H x H' → H' = H ∧ x = v) (hst : ∀ H, Keep (fun a => ¬ M1 a) H1 H → ∀ i, vs.length ≤ i → J.stop i H) : DJ K B Hs H1 M1 J ds f := fun H kp i => by
  refine ⟨fun hi => ?_, fun hi => hst H kp i (by rw [← rs.len]; exact hi)⟩
  have hd : ds[i]? = some ds[i] := List.getElem?_eq_getElem hi
  obtain ⟨v, ev, rv⟩ := (rs.later kp).get hd
  obtain ⟨g1, g2⟩ := hgo H kp i v ev
  refine ⟨g1, fun x H' y => ?_⟩
  obtain ⟨rfl, rfl⟩ := g2 x H' y
  exact ⟨All.refl, _, hd, rv⟩
def listOf : D → Option (List D)
  | .lst ds => some ds
  | .fz ds => some ds
  | _ => none
/-- over a list -/
def dItL (d : TD) : TID := fun ρ Q => d ρ fun r ρ1 => match stoD r with
  | some ⟨.lst ds, f⟩ => Q ds f ρ1
  | some ⟨.fz ds, f⟩ => Q ds f ρ1
  | _ => False
theorem ev_itL {te : TE} {d : TD} (h : Ev1 K te d) : EvI K (iList K te) (dItL d) := fun B σ H ρ Q R' k q fin =>
  h B σ H ρ _ _ k q fun v H1 r ρ1 k1 s1 n1 e1 q1 => by
    have go : ∀ (a : Addr) (vs : List V) (ds : List D) (f : Fr), (∀ H, Keep (fun a => ¬ mset σ ρ1 a) H1 H → SqL K H a vs) → Rs K (GF B (mset σ ρ1) H f) H1 ds vs → Q ds f ρ1 → ∃ a', V.ref a = .ref a' ∧ (∃ xs, SqL K H1 a' xs) ∧ R' (Itl K a') H1 := fun a vs ds f sq rs q2 => by
      refine ⟨a, rfl, ⟨vs, sq H1 Keep.refl⟩, fin (Itl K a) H1 ds f ρ1 k1 s1 n1 (dj_of (a := a) _ rs (fun H2 kp i v ev => ⟨⟨vs, v, sq H2 kp, ev⟩, fun x H' ⟨e1, e2⟩ => ⟨e1, ?_⟩⟩) (fun H2 kp i hi => ⟨vs, sq H2 kp, hi⟩)) q2⟩
      have := e2 vs (sq H2 kp)
      rw [ev] at this
      exact (Option.some.inj this).symm
    cases es : stoD r with
    | none => rw [es] at q1; exact q1.elim
    | some o =>
      obtain ⟨dd, f⟩ := o
      have ro := (e1.rg k.dom).sto es
      cases dd with
      | lst ds =>
        rw [es] at q1
        unfold R at ro
        obtain ⟨a, vs, rfl, ha, ga, rs⟩ := ro
        exact go a vs ds f (fun H2 kp => SqL.of (kp a _ ha (.inl ga.1))) rs q1
      | fz ds =>
        rw [es] at q1
        unfold R at ro
        obtain ⟨a, vs, rfl, ha, rs⟩ := ro
        exact go a vs ds f (fun H2 kp => (kp.nm ha).seq) rs q1
      | _ => rw [es] at q1; exact q1.elim
/-- over a tuple -/
def dItT (d : TD) : TID := fun ρ Q => d ρ fun r ρ1 => match stoD r with
  | some ⟨.tup ds, f⟩ => Q ds f ρ1
  | some ⟨.tux ds, f⟩ => Q ds f ρ1
  | _ => False
theorem ev_itT {te : TE} {d : TD} (h : Ev1 K te d) : EvI K (iTup K te) (dItT d) := fun B σ H ρ Q R' k q fin =>
  h B σ H ρ _ _ k q fun v H1 r ρ1 k1 s1 n1 e1 q1 => by
    cases es : stoD r with
    | none => rw [es] at q1; exact q1.elim
    | some o =>
      obtain ⟨dd, f⟩ := o
      have ro := (e1.rg k.dom).sto es
      cases dd with
      | tup ds =>
        rw [es] at q1
        unfold R at ro
        obtain ⟨a, vs, rfl, ha, rs⟩ := ro
        refine ⟨a, rfl, ⟨vs, ha⟩, fin (Itt K a) H1 ds f ρ1 k1 s1 n1 (dj_of (a := a) _ rs (fun H2 kp i v ev => ⟨⟨vs, v, kp.tup ha, ev⟩, fun x H' ⟨e1, e2⟩ => ⟨e1, ?_⟩⟩) (fun H2 kp i hi => ⟨vs, kp.tup ha, hi⟩)) q1⟩
        have := e2 vs (kp.tup ha)
        rw [ev] at this
        exact (Option.some.inj this).symm
      | tux ds =>
        rw [es] at q1
        unfold R at ro
        obtain ⟨a, vs, ob, rfl, hb, _, _, rs⟩ := ro
        have ha : SqT K H1 a vs := .inl (.inr ⟨ob, hb⟩)
        refine ⟨a, rfl, ⟨vs, ha⟩, fin (Itt K a) H1 ds f ρ1 k1 s1 n1 (dj_of (a := a) _ rs (fun H2 kp i v ev => ⟨⟨vs, v, kp.tup ha, ev⟩, fun x H' ⟨e1, e2⟩ => ⟨e1, ?_⟩⟩) (fun H2 kp i hi => ⟨vs, kp.tup ha, hi⟩)) q1⟩
        have := e2 vs (kp.tup ha)
        rw [ev] at this
        exact (Option.some.inj this).symm
      | _ => rw [es] at q1; exact q1.elim
/-- over the signs of a text -/
def dItS (d : TD) : TID := fun ρ Q => d ρ fun r ρ1 => match (ob ρ1 r).d with
  | .str z => Q (signs z) .n ρ1
  | _ => False
theorem signs_rs (z : Str) {G : Addr → Prop} {H : Hp} : Rs K G H (signs z) (z.cps.toList.map fun c => V.str ⟨#[c]⟩) := by
  unfold signs
  generalize z.cps.toList = l
  induction l with
  | nil => exact Rs.nil
  | cons c r ih => exact Rs.cons R.s ih
theorem ev_itS {te : TE} {d : TD} (h : Ev1 K te d) : EvI K (iStr te) (dItS d) := fun B σ H ρ Q R' k q fin =>
  h B σ H ρ _ _ k q fun v H1 r ρ1 k1 s1 n1 e1 q1 => by
    have ro := obR k1 k.dom e1
    cases ez : (ob ρ1 r).d with
    | str z =>
      rw [ez] at ro q1
      obtain rfl := ro.str
      refine ⟨z, rfl, fin (Its z) H1 (signs z) .n ρ1 k1 s1 n1 (dj_of (a := 0) _ (signs_rs z) (fun H2 kp i v ev => ?_) (fun H2 kp i hi => ?_)) q1⟩
      · rw [List.getElem?_map] at ev
        cases ec : z.cps.toList[i]? with
        | none => rw [ec] at ev; cases ev
        | some c =>
          rw [ec] at ev
          have hi : i < z.cps.size := by have := (List.getElem?_eq_some_iff.mp ec).1; simpa using this
          refine ⟨hi, fun x H' ⟨e1, c', e2, e3⟩ => ⟨e1, ?_⟩⟩
          rw [Array.getElem?_toList] at ec
          rw [e2] at ec
          cases ec
          rw [e3]
          exact Option.some.inj ev
      · have hi : z.cps.toList.length ≤ i := by simpa using hi
        show z.cps.size ≤ i
        simpa using hi
    | _ => rw [ez] at q1; exact q1.elim
/-- range(n), range(a, b), range(a, b, c) -/
def upto (lo : Int) (n : Nat) : List D := (List.range n).map fun i => .int (lo + (i : Nat))
def dItR1 (t : TL) : TID := fun ρ Q => t ρ fun rs ρ1 => ∃ n : Int, (rs.map fun r => (ob ρ1 r).d) = [.int n] ∧ (-(2 ^ 62) ≤ n ∧ n < 2 ^ 62) ∧ Q (upto 0 n.toNat) .n ρ1
def dItR2 (t : TL) : TID := fun ρ Q => t ρ fun rs ρ1 => ∃ i j : Int, (rs.map fun r => (ob ρ1 r).d) = [.int i, .int j] ∧ (-(2 ^ 62) ≤ i ∧ i < 2 ^ 62 ∧ -(2 ^ 62) ≤ j ∧ j < 2 ^ 62) ∧ Q (upto i (j - i).toNat) .n ρ1
def steps (lo c : Int) (n : Nat) : List D := (List.range n).map fun i => .int (lo + (i : Nat) * c)
def dItR3 (t : TL) : TID := fun ρ Q => t ρ fun rs ρ1 => ∃ (i j c : Int) (n : Nat), (rs.map fun r => (ob ρ1 r).d) = [.int i, .int j, .int c] ∧ RgC i j c n ∧ Q (steps i c n) .n ρ1
theorem map_rs {G : Addr → Prop} {H : Hp} (g : Nat → Int) : ∀ l : List Nat, Rs K G H (l.map fun i => D.int (g i)) (l.map fun i => V.int (g i))
  | [] => Rs.nil
  | _ :: r => Rs.cons R.i (map_rs g r)
theorem range_map {α : Type} {g : Nat → α} {n i : Nat} {v : α} (h : ((List.range n).map g)[i]? = some v) : i < n ∧ v = g i := by
  rw [List.getElem?_map] at h
  cases e : (List.range n)[i]? with
  | none => rw [e] at h; cases h
  | some m =>
    rw [e] at h
    obtain ⟨h1, h2⟩ := List.getElem?_eq_some_iff.mp e
    rw [List.getElem_range] at h2
    rw [List.length_range] at h1
    subst h2
    exact ⟨h1, (Option.some.inj h).symm⟩
theorem ints1 {vs : List V} {n : Int} (h : Rs K (fun _ => True) H [.int n] vs) : vs = [.int n] := Rs.ints (ns := [n]) h
theorem ev_itR1 {ta : TA} {t : TL} (h : EvL K ta t) : EvI K (iRng1 ta) (dItR1 t) := fun B σ H ρ Q R' k q fin =>
  h B σ H ρ _ _ k q fun vs H1 rs ρ1 k1 s1 n1 e1 ⟨n, en, ⟨h1, h2⟩, q1⟩ => by
    have ra := e1.all k1
    rw [en] at ra
    refine ⟨n, Rs.ints (ns := [n]) ra, h1, h2, fin _ H1 _ .n ρ1 k1 s1 n1 (dj_of (a := 0) _ (map_rs (fun i => (0 : Int) + (i : Nat)) _) (fun H2 kp i v ev => ?_) (fun H2 kp i hi => ?_)) q1⟩
    · obtain ⟨e1, e2⟩ := range_map ev
      exact ⟨e1, fun x H' ⟨a, b⟩ => ⟨a, by rw [e2, b]⟩⟩
    · rw [List.length_map, List.length_range] at hi; exact hi
theorem ev_itR2 {ta : TA} {t : TL} (h : EvL K ta t) : EvI K (iRng2 ta) (dItR2 t) := fun B σ H ρ Q R' k q fin =>
  h B σ H ρ _ _ k q fun vs H1 rs ρ1 k1 s1 n1 e1 ⟨i0, j0, en, hb, q1⟩ => by
    have ra := e1.all k1
    rw [en] at ra
    refine ⟨i0, j0, Rs.ints (ns := [i0, j0]) ra, hb, fin _ H1 _ .n ρ1 k1 s1 n1 (dj_of (a := 0) _ (map_rs (fun i => i0 + (i : Nat)) _) (fun H2 kp i v ev => ?_) (fun H2 kp i hi => ?_)) q1⟩
    · obtain ⟨e1, e2⟩ := range_map ev
      exact ⟨e1, fun x H' ⟨a, b⟩ => ⟨a, by rw [e2, b]⟩⟩
    · rw [List.length_map, List.length_range] at hi; exact hi
theorem ev_itR3 {ta : TA} {t : TL} (h : EvL K ta t) : EvI K (iRng3 ta) (dItR3 t) := fun B σ H ρ Q R' k q fin =>
  h B σ H ρ _ _ k q fun vs H1 rs ρ1 k1 s1 n1 e1 ⟨i0, j0, c, m, en, hb, q1⟩ => by
    have ra := e1.all k1
    rw [en] at ra
    refine ⟨i0, j0, c, m, Rs.ints (ns := [i0, j0, c]) ra, hb, fin _ H1 _ .n ρ1 k1 s1 n1 (dj_of (a := 0) _ (map_rs (fun i => i0 + (i : Nat) * c) _) (fun H2 kp i v ev => ?_) (fun H2 kp i hi => ?_)) q1⟩
    · obtain ⟨e1, e2⟩ := range_map ev
      exact ⟨e1, fun x H' ⟨a, b⟩ => ⟨a, by rw [e2, b]⟩⟩
    · rw [List.length_map, List.length_range] at hi; exact hi
/-- reversed(a list) -/
def dItV (t : TL) : TID := fun ρ Q => t ρ fun rs ρ1 => match rs with
  | [r] => match stoD r with
    | some ⟨.lst ds, f⟩ => Q ds.reverse f ρ1
    | _ => False
  | _ => False
theorem Rs.rev {G : Addr → Prop} : ∀ {ds : List D} {vs : List V}, Rs K G H ds vs → Rs K G H ds.reverse vs.reverse
  | [], _, h => by unfold Rs at h; subst h; exact Rs.nil
  | d :: ds, _, h => by
    unfold Rs at h
    obtain ⟨v, r, rfl, h1, h2⟩ := h
    rw [List.reverse_cons, List.reverse_cons]
    exact (Rs.rev h2).snoc h1
end
end DL

namespace DL
open PySem L2
variable [Tabs]
section
variable {K : PySem.W.Frag} {B : Bx} {H H' H1 Hs : Hp} {σ : L2.St} {ρ : En} {M1 : Addr → Prop}
theorem ev_itV {ta : TA} {t : TL} (h : EvL K ta t) : EvI K (iRev K ta) (dItV t) := fun B σ H ρ Q R' k q fin =>
  h B σ H ρ _ _ k q fun vs H1 rs ρ1 k1 s1 n1 e1 q1 => by
    unfold dItV at q
    cases e1 with
    | nil => exact q1.elim
    | @cons v vs r rs h1 t1 =>
      cases t1 with
      | cons _ _ => exact q1.elim
      | nil =>
        cases es : stoD r with
        | none => dsimp only at q1; rw [es] at q1; exact q1.elim
        | some o =>
          obtain ⟨dd, f⟩ := o
          have ro := h1.sto es
          cases dd with
          | lst ds =>
            dsimp only at q1
            rw [es] at q1
            unfold R at ro
            obtain ⟨a, ws, rfl, ha, ga, rs⟩ := ro
            have sq : ∀ H, Keep (fun a => ¬ mset σ ρ1 a) H1 H → SqL K H a ws := fun H2 kp => SqL.of (kp a _ ha (.inl ga.1))
            refine ⟨a, ws, rfl, SqL.of ha, fin _ H1 ds.reverse f ρ1 k1 s1 n1 (dj_of (a := a) _ rs.rev (fun H2 kp i v ev => ?_) (fun H2 kp i hi => by rw [List.length_reverse] at hi; exact hi)) q1⟩
            have hi : i < ws.length := by have := (List.getElem?_eq_some_iff.mp ev).1; rwa [List.length_reverse] at this
            rw [List.getElem?_reverse hi] at ev
            refine ⟨⟨hi, ws, v, sq H2 kp, ev⟩, fun x H' ⟨a1, a2⟩ => ⟨a1, ?_⟩⟩
            have := a2 ws (sq H2 kp)
            rw [ev] at this
            exact (Option.some.inj this).symm
          | _ => dsimp only at q1; rw [es] at q1; exact q1.elim
end
section
variable {X : Cx} {tg e a b c : Expr} {d : TD} {t : TL} {p pos : Pos}
theorem di_list (h : DE X e d) : DI X tg e (dItL d) := let ⟨_, p, ev⟩ := h; ⟨_, pi_list p, ev_itL ev⟩
theorem di_tup (h : DE X e d) : DI X tg e (dItT d) := let ⟨_, p, ev⟩ := h; ⟨_, pi_tup p, ev_itT ev⟩
theorem di_str (h : DE X e d) : DI X tg e (dItS d) := let ⟨_, p, ev⟩ := h; ⟨_, pi_str p, ev_itS ev⟩
theorem di_range1 (hm : X.mg "range" = none) (ha : DA X [a] t) (hg : Gl X "range" := by rfl) (hs : starEach [a] X.env = [(false, eval a X.env)] := by rfl) : DI X tg (.Call (.Name "range" p) [a] [] pos) (dItR1 t) := let ⟨_, pa, ev⟩ := ha; ⟨_, pi_range1 hg hm pa hs, ev_itR1 ev⟩
theorem di_range2 (hm : X.mg "range" = none) (ha : DA X [a, b] t) (hg : Gl X "range" := by rfl) (hs : starEach [a, b] X.env = [(false, eval a X.env), (false, eval b X.env)] := by rfl) (hs2 : starEach [b] X.env = [(false, eval b X.env)] := by rfl) : DI X tg (.Call (.Name "range" p) [a, b] [] pos) (dItR2 t) := let ⟨_, pa, ev⟩ := ha; ⟨_, pi_range2 hg hm pa hs hs2, ev_itR2 ev⟩
theorem di_range3 (hm : X.mg "range" = none) (ha : DA X [a, b, c] t) (hp : ∀ {ta : TA}, PA X [a, b, c] ta → PI X tg (.Call (.Name "range" p) [a, b, c] [] pos) (iRng3 ta)) : DI X tg (.Call (.Name "range" p) [a, b, c] [] pos) (dItR3 t) := let ⟨_, pa, ev⟩ := ha; ⟨_, hp pa, ev_itR3 ev⟩
theorem di_rev (hm : X.mg "reversed" = none) (ha : DA X [e] t) (hg : Gl X "reversed" := by rfl) (hs : starEach [e] X.env = [(false, eval e X.env)] := by rfl) : DI X tg (.Call (.Name "reversed" p) [e] [] pos) (dItV t) := let ⟨_, pa, ev⟩ := ha; ⟨_, pi_reversed hg hm pa hs, ev_itV ev⟩
end

/-! ### targets -/
inductive Tgt where
  | one (i : Nat)
  | tup (is : List Nat)
def gTs : List Nat → TGs
  | [] => gNil
  | i :: is => gCons (gName i) (gTs is)
def gOf (K : PySem.W.Frag) : Tgt → TG
  | .one i => gName i
  | .tup is => gTup K is.length (gTs is)
def setTs : List Nat → List D → Fr → En → Option En
  | [], [], _, ρ => some ρ
  | i :: is, d :: ds, f, ρ => if i < ρ.length then setTs is ds f (ρ.set i (.val d f)) else none
  | _, _, _, _ => none
def setT : Tgt → D → Fr → En → Option En
  | .one i, d, f, ρ => if i < ρ.length then some (ρ.set i (.val d f)) else none
  | .tup is, .tup ds, f, ρ => setTs is ds f ρ
  | .tup is, .tk ks, f, ρ => setTs is (ks.map kD) f ρ
  | _, _, _, _ => none
section
variable {K : PySem.W.Frag} {B : Bx} {H H' H1 Hs : Hp} {σ : L2.St} {ρ ρ' : En}
theorem setTs_ok : ∀ (is : List Nat) (ds : List D) (f : Fr) (σ : L2.St) (ρ ρ' : En) (vs : List V) (Q' : L2.St → Hp → Prop), Ok K B H σ ρ → Rs K (GF B (mset σ ρ) Hs f) H ds vs → setTs is ds f ρ = some ρ' →
    (∀ σ', Ok K B H σ' ρ' → SStp σ H ρ σ' H ρ' → Q' σ' H) → gTs is vs σ H Q'
  | [], [], f, σ, ρ, ρ', vs, Q', k, r, e, fin => by
    unfold Rs at r; subst r; cases e
    exact ⟨rfl, fin σ k SStp.refl⟩
  | i :: is, d :: ds, f, σ, ρ, ρ', vs, Q', k, r, e, fin => by
    unfold Rs at r
    obtain ⟨v, w, rfl, h1, h2⟩ := r
    unfold setTs at e
    by_cases hi : i < ρ.length
    · rw [if_pos hi] at e
      obtain ⟨k2, s2⟩ := k.asg hi h1
      refine ⟨v, w, rfl, ?_⟩
      refine setTs_ok is ds f _ _ ρ' w Q' k2 (h2.mono Keep.refl fun a ha g => ⟨fun z => ?_, g.2⟩) e fun σ' k3 s3 => fin σ' k3 (s2.trans s3)
      rcases s2.new a z with z | z
      · exact g.1 z
      · exact ha z
    · rw [if_neg hi] at e; cases e
  | [], _ :: _, _, _, _, _, _, _, _, _, e, _ => by cases e
  | _ :: _, [], _, _, _, _, _, _, _, _, e, _ => by cases e
theorem setT_ok {tg : Tgt} {d : D} {f : Fr} {v : V} {Q' : L2.St → Hp → Prop} (k : Ok K B H σ ρ) (r : R K (GF B (mset σ ρ) Hs f) H d v) (e : setT tg d f ρ = some ρ') (fin : ∀ σ', Ok K B H σ' ρ' → SStp σ H ρ σ' H ρ' → Q' σ' H) : gOf K tg v σ H Q' := by
  cases tg with
  | one i =>
    replace e : (if i < ρ.length then some (ρ.set i (.val d f)) else none) = some ρ' := e
    by_cases hi : i < ρ.length
    · rw [if_pos hi] at e
      cases e
      obtain ⟨k2, s2⟩ := k.asg hi r
      exact fin _ k2 s2
    · rw [if_neg hi] at e; cases e
  | tup is =>
    cases d with
    | tup ds =>
      unfold R at r
      obtain ⟨a, vs, rfl, ha, rs⟩ := r
      have hl : is.length = ds.length := by
        have : ∀ (is : List Nat) (ds : List D) (ρ : En), setTs is ds f ρ = some ρ' → is.length = ds.length := fun is => by
          induction is with
          | nil => intro ds ρ e; cases ds with
            | nil => rfl
            | cons _ _ => cases e
          | cons i is ih => intro ds ρ e; cases ds with
            | nil => cases e
            | cons d ds =>
              unfold setTs at e
              by_cases hi : i < ρ.length
              · rw [if_pos hi] at e; rw [List.length_cons, List.length_cons, ih ds _ e]
              · rw [if_neg hi] at e; cases e
        exact this is ds ρ e
      exact ⟨a, vs, rfl, ha, by rw [hl, rs.len], setTs_ok is ds f σ ρ ρ' vs Q' k rs e fin⟩
    | tk ks =>
      unfold R at r
      obtain ⟨a, rfl, ha⟩ := r
      have hl : is.length = (ks.map kD).length := by
        have : ∀ (is : List Nat) (ds : List D) (ρ : En), setTs is ds f ρ = some ρ' → is.length = ds.length := fun is => by
          induction is with
          | nil => intro ds ρ e; cases ds with
            | nil => rfl
            | cons _ _ => cases e
          | cons i is ih => intro ds ρ e; cases ds with
            | nil => cases e
            | cons d ds =>
              unfold setTs at e
              by_cases hi : i < ρ.length
              · rw [if_pos hi] at e; rw [List.length_cons, List.length_cons, ih ds _ e]
              · rw [if_neg hi] at e; cases e
        exact this is _ ρ e
      exact ⟨a, _, rfl, .inl (.inl ha), by rw [hl, List.length_map, List.length_map], setTs_ok (Hs := Hs) is (ks.map kD) f σ ρ ρ' (ks.map kV) Q' k (rs_keys ks) e fin⟩
    | _ => cases e
end
section
variable {X : Cx} {pos : Pos}
def DG (X : Cx) (tg : Expr) (t : Tgt) : Prop := PG X tg (gOf X.K t)
def DGs (X : Cx) (tgs : List Expr) (is : List Nat) : Prop := PGs X tgs (gTs is)
theorem dg_name {i : Nat} {x : Str} (hN : X.N.Nodup) (hi : X.N[i]? = some x := by rfl) (hx : Loc X.env.scope x := by first | exact .inl rfl | exact .inr rfl) (hf : X.fn x = true ∨ X.env.scope.names.lookup x = some .local := by first | exact .inl rfl | exact .inr rfl | assumption) : DG X (.Name x pos) (.one i) := pg_name hN hi hx hf
theorem dgs_nil : DGs X [] [] := pgs_nil
theorem dgs_cons {i : Nat} {x : Str} {es : List Expr} {is : List Nat} (hN : X.N.Nodup) (hr : DGs X es is) (hi : X.N[i]? = some x := by rfl) (hx : Loc X.env.scope x := by first | exact .inl rfl | exact .inr rfl) (hf : X.fn x = true ∨ X.env.scope.names.lookup x = some .local := by first | exact .inl rfl | exact .inr rfl | assumption) : DGs X (.Name x pos :: es) (i :: is) := pgs_cons (pg_name hN hi hx hf) hr
theorem dg_tup {es : List Expr} {k : Nat} {is : List Nat} (hc : X.calm = true) (h : DGs X es is) (hp : ∀ {t : TGs}, PGs X es t → PG X (.Tuple es k pos) (gTup X.K is.length t)) : DG X (.Tuple es k pos) (.tup is) := hp h
end

/-! ### for, while -/
/-- the invariant I by the turn -/
def dFor (it : TID) (tg : Tgt) (b : TSD) : TSD := fun E ρ => it ρ fun ds f ρ1 => ∃ I : Nat → En → Prop, I 0 ρ1 ∧
  (∀ i d ρ2, ds[i]? = some d → I i ρ2 → ∃ ρ3, setT tg d (fdn f) ρ2 = some ρ3 ∧ b { E with nx := I (i + 1), ct := I (i + 1), bk := E.nx } ρ3) ∧ ∀ ρ2, I ds.length ρ2 → E.nx ρ2
def dWhile (t : TB) (b : TSD) : TSD := fun E ρ => ∃ I : Nat → En → Prop, (∃ m, I m ρ) ∧ ∀ m ρ1, I m ρ1 → t ρ1 fun c ρ2 => (c = true → b { E with nx := fun ρ' => ∃ m', m' < m ∧ I m' ρ', ct := fun ρ' => ∃ m', m' < m ∧ I m' ρ', bk := E.nx } ρ2) ∧ (c = false → E.nx ρ2)
section
variable {K : PySem.W.Frag} {B : Bx} {H H' H1 Hs : Hp} {σ : L2.St} {ρ ρ' : En}
theorem evs_for {wi : TI} {it : TID} {tg : Tgt} {ts : TS} {b : TSD} (hi : EvI K wi it) (hb : EvS K ts b) : EvS K (tFor wi (gOf K tg) ts) (dFor it tg b) := fun B σ H ρ E D' k q l =>
  hi B σ H ρ _ _ k q fun J H1 ds f ρ1 k1 s1 n1 dj ⟨I, h0, hs, hd⟩ => by
    have l1 : Lk K B σ H1 ρ1 E D' := l.go s1.s
    -- what holds between two turns
    refine ⟨fun i m σ2 H2 => m = ds.length - i ∧ i ≤ ds.length ∧ ∃ ρ2, Ok K B H2 σ2 ρ2 ∧ SStp σ H1 ρ1 σ2 H2 ρ2 ∧ I i ρ2, ⟨ds.length, by simp, Nat.zero_le _, ρ1, k1, SStp.refl, h0⟩, ?_⟩
    rintro i m σ2 H2 ⟨rfl, hil, ρ2, k2, s2, hI⟩
    obtain ⟨g1, g2⟩ := dj H2 s2.keep i
    by_cases hlt : i < ds.length
    · obtain ⟨jg, jy⟩ := g1 hlt
      refine .inr ⟨jg, fun σ' H' => i < ds.length ∧ ∃ ρ', Ok K B H' σ' ρ' ∧ SStp σ H1 ρ1 σ' H' ρ' ∧ I (i + 1) ρ', fun σ' H' ⟨_, ρ', a, b, c⟩ => ⟨ds.length - (i + 1), by omega, rfl, hlt, ρ', a, b, c⟩, fun x H3 y => ?_⟩
      obtain ⟨al, d, ed, rd⟩ := jy x H3 y
      obtain ⟨ρ3, e3, q3⟩ := hs i d ρ2 ed hI
      have k3 := k2.all al
      have a3 : SStp σ2 H2 ρ2 σ2 H3 ρ2 := (Stp.s al.step)
      have s3 := s2.trans a3
      have rd' : R K (GF B (mset σ2 ρ2) B.H0 (fdn f)) H3 d x := rd.mono Keep.refl fun a ha ⟨g, h1⟩ => by
        refine ⟨fun z => ?_, g.2.1, bas_fdn g.2.2.1, fun z => by cases f <;> cases z⟩
        · rcases s2.new a z with z | z
          · exact g.1 z
          · exact h1 z
      refine setT_ok k3 rd' e3 fun σ4 k4 s4 => ?_
      have s5 := s3.trans s4
      refine hb B σ4 H3 ρ3 _ _ k4 q3 ⟨fun σ' H' ρ' k' s' q' => ⟨hlt, ρ', k', s5.trans s', q'⟩, l1.rt, fun σ' H' ρ' k' s' q' => l1.nx σ' H' ρ' k' (s5.trans s') q', fun σ' H' ρ' k' s' q' => ⟨hlt, ρ', k', s5.trans s', q'⟩⟩
    · have e : i = ds.length := by omega
      subst e
      exact .inl ⟨g2 (Nat.le_refl _), l1.nx σ2 H2 ρ2 k2 s2 (hd ρ2 hI)⟩
theorem evs_while {c : TT} {t : TB} {ts : TS} {b : TSD} (hc : EvT K c t) (hb : EvS K ts b) : EvS K (tWhile c ts) (dWhile t b) := fun B σ H ρ E D' k ⟨I, ⟨m0, h0⟩, hs⟩ l => by
  refine ⟨fun m σ2 H2 => ∃ ρ2, Ok K B H2 σ2 ρ2 ∧ SStp σ H ρ σ2 H2 ρ2 ∧ I m ρ2, ⟨m0, ρ, k, SStp.refl, h0⟩, ?_⟩
  rintro m σ2 H2 ⟨ρ2, k2, s2, hI⟩
  refine hc B σ2 H2 ρ2 _ _ k2 (hs m ρ2 hI) fun bb H3 ρ3 k3 s3 n3 q3 => ?_
  have s4 := s2.trans s3.s
  cases bb with
  | true =>
    refine iteT ⟨fun σ' H' => ∃ m', m' < m ∧ ∃ ρ', Ok K B H' σ' ρ' ∧ SStp σ H ρ σ' H' ρ' ∧ I m' ρ', fun σ' H' ⟨m', hm, w⟩ => ⟨m', hm, w⟩, ?_⟩
    exact hb B σ2 H3 ρ3 _ _ k3 (q3.1 rfl) ⟨fun σ' H' ρ' k' s' ⟨m', hm, q'⟩ => ⟨m', hm, ρ', k', s4.trans s', q'⟩, l.rt, fun σ' H' ρ' k' s' q' => l.nx σ' H' ρ' k' (s4.trans s') q', fun σ' H' ρ' k' s' ⟨m', hm, q'⟩ => ⟨m', hm, ρ', k', s4.trans s', q'⟩⟩
  | false => exact iteF (l.nx σ2 H3 ρ3 k3 s4 (q3.2 rfl))
/-- a, b = e (a tuple) -/
def dUnp (d : TD) (is : List Nat) : TSD := fun E ρ => d ρ fun r ρ1 => ∃ o ρ2, stoD r = some o ∧ setT (.tup is) o.d o.f ρ1 = some ρ2 ∧ E.nx ρ2
theorem evs_unp {te : TE} {d : TD} {is : List Nat} (h : Ev1 K te d) : EvS K (tAsg te (gOf K (.tup is))) (dUnp d is) := fun B σ H ρ E D' k q l =>
  h B σ H ρ _ _ k q fun v H1 r ρ1 k1 s1 n1 e1 ⟨o, ρ2, eo, e2, q1⟩ => setT_ok k1 ((e1.rg k.dom).sto eo) e2 fun σ' k2 s2 => l.nx σ' H1 ρ2 k2 (s1.s.trans s2) q1
end
section
variable {X : Cx} {tg iter c e : Expr} {body : List Stmt} {it : TID} {g : Tgt} {b : TSD} {t : TB} {d : TD} {pos : Pos}
theorem ds_for (hi : DI X tg iter it) (hg : DG X tg g) (hb : DSs X body b) (hf : ∀ {wi : TI} {tb : TS}, PG X tg (gOf X.K g) → PI X tg iter wi → PSs X body tb → PS X (.For tg iter body [] pos) (tFor wi (gOf X.K g) tb)) : DS X (.For tg iter body [] pos) (dFor it g b) := let ⟨_, p, ev⟩ := hi; let ⟨_, p2, ev2⟩ := hb; ⟨_, hf hg p p2, evs_for ev ev2⟩
theorem ds_while (hc : DT X c t) (hb : DSs X body b) (hf : ∀ {tc : TT} {tb : TS}, PT X c tc → PSs X body tb → PS X (.While c body [] pos) (tWhile tc tb)) : DS X (.While c body [] pos) (dWhile t b) := let ⟨_, p, ev⟩ := hc; let ⟨_, p2, ev2⟩ := hb; ⟨_, hf p p2, evs_while ev ev2⟩
theorem ds_unp {is : List Nat} (he : DE X e d) (hg : DG X tg (.tup is)) (hp : ∀ {te : TE}, PE X e te → PG X tg (gOf X.K (.tup is)) → PS X (.Assign [tg] e pos) (tAsg te (gOf X.K (.tup is))) := by intro _ h1 h2; exact ps_asg h1 h2) : DS X (.Assign [tg] e pos) (dUnp d is) := let ⟨_, p, ev⟩ := he; ⟨_, hp p hg, evs_unp ev⟩
end
end DL

namespace DL
open PySem L2
variable [Tabs]

def wipeE (ρ : En) : List Nat → En
  | [] => ρ
  | v :: vs => (wipeE ρ vs).set v .no
def mergeE (ρ1 ρ2 : En) : List Nat → En
  | [] => ρ2
  | v :: vs => (mergeE ρ1 ρ2 vs).set v (ρ1.getD v .no)
section
variable {K : PySem.W.Frag} {B : Bx} {H H' H1 Hs : Hp} {σ σ' : L2.St} {ρ ρ' ρ1 ρ2 : En}
theorem set_get {α : Type} {l : List α} {i j : Nat} {x : α} : (l.set i x)[j]? = if i = j ∧ j < l.length then some x else l[j]? := by
  by_cases h : i = j
  · subst h
    by_cases hl : i < l.length
    · rw [if_pos ⟨rfl, hl⟩, List.getElem?_set_self hl]
    · rw [if_neg (fun z => hl z.2), List.getElem?_eq_none (by rw [List.length_set]; omega), List.getElem?_eq_none (by omega)]
  · rw [if_neg (fun z => h z.1), List.getElem?_set_ne h]
theorem wipeE_len : ∀ vs : List Nat, (wipeE ρ vs).length = ρ.length
  | [] => rfl
  | v :: vs => by unfold wipeE; rw [List.length_set, wipeE_len vs]
theorem wipe_get (j : Nat) : ∀ vs : List Nat, (wipe σ vs)[j]? = if j ∈ vs ∧ j < σ.length then some none else σ[j]?
  | [] => by rw [if_neg (fun z => by cases z.1)]; rfl
  | v :: vs => by
    unfold wipe
    rw [set_get, wipe_length, wipe_get j vs]
    by_cases h : v = j
    · subst h
      by_cases hl : v < σ.length
      · rw [if_pos ⟨rfl, hl⟩, if_pos ⟨List.mem_cons_self, hl⟩]
      · rw [if_neg (fun z => hl z.2), if_neg (fun z => hl z.2), if_neg (fun z => hl z.2)]
    · rw [if_neg (fun z => h z.1)]
      by_cases hm : j ∈ vs ∧ j < σ.length
      · rw [if_pos hm, if_pos ⟨List.mem_cons_of_mem _ hm.1, hm.2⟩]
      · rw [if_neg hm, if_neg (fun z => hm ⟨(List.mem_cons.mp z.1).resolve_left (fun e => h e.symm), z.2⟩)]
theorem wipeE_get (j : Nat) : ∀ vs : List Nat, (wipeE ρ vs)[j]? = if j ∈ vs ∧ j < ρ.length then some .no else ρ[j]?
  | [] => by rw [if_neg (fun z => by cases z.1)]; rfl
  | v :: vs => by
    unfold wipeE
    rw [set_get, wipeE_len, wipeE_get j vs]
    by_cases h : v = j
    · subst h
      by_cases hl : v < ρ.length
      · rw [if_pos ⟨rfl, hl⟩, if_pos ⟨List.mem_cons_self, hl⟩]
      · rw [if_neg (fun z => hl z.2), if_neg (fun z => hl z.2), if_neg (fun z => hl z.2)]
    · rw [if_neg (fun z => h z.1)]
      by_cases hm : j ∈ vs ∧ j < ρ.length
      · rw [if_pos hm, if_pos ⟨List.mem_cons_of_mem _ hm.1, hm.2⟩]
      · rw [if_neg hm, if_neg (fun z => hm ⟨(List.mem_cons.mp z.1).resolve_left (fun e => h e.symm), z.2⟩)]
theorem mergeE_len : ∀ vs : List Nat, (mergeE ρ1 ρ2 vs).length = ρ2.length
  | [] => rfl
  | v :: vs => by unfold mergeE; rw [List.length_set, mergeE_len vs]
theorem mergeE_get (j : Nat) : ∀ vs : List Nat, (mergeE ρ1 ρ2 vs)[j]? = if j ∈ vs ∧ j < ρ2.length then some (ρ1.getD j .no) else ρ2[j]?
  | [] => by rw [if_neg (fun z => by cases z.1)]; rfl
  | v :: vs => by
    unfold mergeE
    rw [set_get, mergeE_len, mergeE_get j vs]
    by_cases h : v = j
    · subst h
      by_cases hl : v < ρ2.length
      · rw [if_pos ⟨rfl, hl⟩, if_pos ⟨List.mem_cons_self, hl⟩]
      · rw [if_neg (fun z => hl z.2), if_neg (fun z => hl z.2), if_neg (fun z => hl z.2)]
    · rw [if_neg (fun z => h z.1)]
      by_cases hm : j ∈ vs ∧ j < ρ2.length
      · rw [if_pos hm, if_pos ⟨List.mem_cons_of_mem _ hm.1, hm.2⟩]
      · rw [if_neg hm, if_neg (fun z => hm ⟨(List.mem_cons.mp z.1).resolve_left (fun e => h e.symm), z.2⟩)]
theorem wipe_wipe (vs : List Nat) : wipe (wipe σ vs) vs = wipe σ vs := by
  refine List.ext_getElem? fun j => ?_
  rw [wipe_get, wipe_get, wipe_length]
  by_cases h : j ∈ vs ∧ j < σ.length
  · rw [if_pos h, if_pos h]
  · rw [if_neg h]
theorem wipe_set {i : Nat} {x : Option V} {vs : List Nat} (h : i ∈ vs) : wipe (σ.set i x) vs = wipe σ vs := by
  refine List.ext_getElem? fun j => ?_
  rw [wipe_get, wipe_get, List.length_set]
  by_cases hm : j ∈ vs ∧ j < σ.length
  · rw [if_pos hm, if_pos hm]
  · rw [if_neg hm, if_neg hm]
    by_cases e : i = j
    · subst e
      have hl : ¬ i < σ.length := fun z => hm ⟨h, z⟩
      rw [List.getElem?_eq_none (by rw [List.length_set]; omega), List.getElem?_eq_none (by omega)]
    · rw [List.getElem?_set_ne e]

/-- slots forgotten -/
theorem Ok.wipe (k : Ok K B H σ ρ) (vs : List Nat) : Ok K B H (L2.wipe σ vs) (wipeE ρ vs) ∧ ∀ a, mset (L2.wipe σ vs) (wipeE ρ vs) a → mset σ ρ a := by
  have at_ : ∀ {i : Nat} {s : Sl}, (wipeE ρ vs)[i]? = some s → s ≠ .no → ρ[i]? = some s ∧ (L2.wipe σ vs)[i]? = σ[i]? := fun {i s} e n => by
    rw [wipeE_get] at e
    by_cases h : i ∈ vs ∧ i < ρ.length
    · rw [if_pos h] at e; cases e; exact absurd rfl n
    · rw [if_neg h] at e
      rw [wipe_get, ← k.len, if_neg h]
      exact ⟨e, rfl⟩
  have sub : ∀ a, mset (L2.wipe σ vs) (wipeE ρ vs) a → mset σ ρ a := fun a ⟨i, s, e, m, z⟩ => by
    obtain ⟨e1, e2⟩ := at_ e (by intro z; rw [z] at m; cases m)
    rw [e2] at z
    exact ⟨i, s, e1, m, z⟩
  have g : ∀ {f : Fr} (a : Addr), H a ≠ none → GF B (mset σ ρ) B.H0 f a → GF B (mset (L2.wipe σ vs) (wipeE ρ vs)) B.H0 f a := fun {f} a _ q => ⟨fun z => q.1 (sub a z), q.2⟩
  refine ⟨⟨by rw [wipeE_len, wipe_length]; exact k.len, k.dom, k.av, k.ext, fun i s e => ?_, fun i j s t a e1 m1 e2 m2 z1 z2 => ?_, k.tb⟩, sub⟩
  · cases s with
    | no => exact True.intro
    | val d f =>
      obtain ⟨e1, e2⟩ := at_ e (by simp)
      obtain ⟨v, q1, q2⟩ := k.sl i _ e1
      exact ⟨v, e2.trans q1, q2.mono Keep.refl g⟩
    | ml ds f =>
      obtain ⟨e1, e2⟩ := at_ e (by simp)
      obtain ⟨p, vs, q1, q2, q3, q4⟩ := k.sl i _ e1
      exact ⟨p, vs, e2.trans q1, q2, q3.mono Keep.refl g, q4⟩
    | mp n ds =>
      obtain ⟨e1, e2⟩ := at_ e (by simp)
      obtain ⟨p, vs, q1, q2⟩ := k.sl i _ e1
      exact ⟨p, vs, e2.trans q1, q2⟩
    | md ks ds f =>
      obtain ⟨e1, e2⟩ := at_ e (by simp)
      obtain ⟨p, vs, q1, q2, l, q3, q4⟩ := k.sl i _ e1
      exact ⟨p, vs, e2.trans q1, q2, l, q3.mono Keep.refl g, q4⟩
    | mt ks ds f =>
      obtain ⟨e1, e2⟩ := at_ e (by simp)
      obtain ⟨p, vs, q1, q2, l, q3, q4⟩ := k.sl i _ e1
      exact ⟨p, vs, e2.trans q1, q2, l, q3.mono Keep.refl g, q4⟩
  · obtain ⟨e3, e4⟩ := at_ e1 (by intro z; rw [z] at m1; cases m1)
    obtain ⟨e5, e6⟩ := at_ e2 (by intro z; rw [z] at m2; cases m2)
    rw [e4] at z1
    rw [e6] at z2
    exact k.inj i j s t a e3 m1 e5 m2 z1 z2
/-- what is kept clear of is written -/
theorem Ok.updAv2 {p : Addr} {o u : HO} (k : Ok K B H σ ρ) (pav : p ∈ B.Av) (hp : H p = some u) (mu : ¬ Im u) (h0 : B.H0 p = none) : Ok K B (L2.upd H p o) σ ρ := by
  have kp : Keep (fun a => a ≠ p) H (L2.upd H p o) := fun a o' h q => by
    by_cases z : a = p
    · subst z
      rcases q with q | q
      · exact absurd rfl q
      · rw [hp] at h; cases h; exact absurd q mu
    · rw [upd_ne z]; exact h
  have dm : ∀ a, H a ≠ none → L2.upd H p o a ≠ none := fun a h => by
    by_cases z : a = p
    · subst z; rw [upd_same]; exact Option.some_ne_none _
    · rw [upd_ne z]; exact h
  have gp : ∀ {f : Fr} {Hs : Hp} (a : Addr), GF B (mset σ ρ) Hs f a → a ≠ p := fun a g z => g.2.1 (z ▸ pav)
  refine ⟨k.len, fun a h => dm a (k.dom a h), fun a h => dm a (k.av a h), fun a w h q => kp a w (k.ext a w h q) (.inl fun z => ?_), fun i s e => ?_, k.inj, tb_upd hp mu k.tb⟩
  · subst z
    have h : B.H0 a = some w := h
    rw [h] at h0; cases h0
  · have q := k.sl i s e
    have ne : ∀ {p' : Addr}, p' ∉ B.Av → p' ≠ p := fun h z => h (z ▸ pav)
    cases s with
    | no => exact True.intro
    | val d f => obtain ⟨v, e1, e2⟩ := q; exact ⟨v, e1, e2.mono (kp.weak gp) fun _ _ g => g⟩
    | ml ds f => obtain ⟨p', vs, e1, e2, e3, e4, e5⟩ := q; exact ⟨p', vs, e1, by rw [upd_ne (ne e5)]; exact e2, e3.mono (kp.weak gp) fun _ _ g => g, e4, e5⟩
    | mp n ds => obtain ⟨p', vs, e1, e2, e3, e4, e5⟩ := q; exact ⟨p', vs, e1, by rw [upd_ne (ne e5)]; exact e2, e3.mono (kp.weak fun _ g => g.elim) fun _ _ g => g, e4, e5⟩
    | md ks ds f => obtain ⟨p', vs, e1, e2, l, e3, e4, e5⟩ := q; exact ⟨p', vs, e1, by rw [upd_ne (ne e5)]; exact e2, l, e3.mono (kp.weak gp) fun _ _ g => g, e4, e5⟩
    | mt ks ds f => obtain ⟨p', vs, e1, e2, l, e3, e4, e5⟩ := q; exact ⟨p', vs, e1, by rw [upd_ne (ne e5)]; exact e2, l, e3.mono (kp.weak gp) fun _ _ g => g, e4, e5⟩
theorem Ok.updAv {p : Addr} {o u : HO} (k : Ok K (B.add p) H σ ρ) (hp : H p = some u) (mu : ¬ Im u) (h0 : B.H0 p = none) : Ok K (B.add p) (L2.upd H p o) σ ρ := k.updAv2 List.mem_cons_self hp mu h0
/-- behind a comprehension: its own names are as they were -/
theorem Ok.merge {B1 : Bx} {vs : List Nat} (k1 : Ok K B1 H1 σ ρ1) (hB0 : B1.H0 = B.H0) (hav : ∀ a, H1 a ≠ none → a ∉ B1.Av → a ∉ B.Av) (hv : ∀ i ∈ vs, ∀ s : Sl, ρ1[i]? = some s → s.isM = false) (k2 : Ok K B H (L2.wipe σ vs) ρ2) (kp : Keep (fun a => ¬ mset σ ρ1 a) H1 H) (sub : ∀ a, mset (L2.wipe σ vs) ρ2 a → mset σ ρ1 a) :
    Ok K B H σ (mergeE ρ1 ρ2 vs) ∧ ∀ a, mset σ (mergeE ρ1 ρ2 vs) a → mset (L2.wipe σ vs) ρ2 a := by
  have hl2 : ρ2.length = σ.length := by rw [k2.len, wipe_length]
  have hl1 := k1.len
  have cs : ∀ {i : Nat} {s : Sl}, (mergeE ρ1 ρ2 vs)[i]? = some s → (i ∈ vs ∧ ρ1[i]? = some s) ∨ (¬ (i ∈ vs) ∧ ρ2[i]? = some s ∧ (L2.wipe σ vs)[i]? = σ[i]?) := fun {i s} e => by
    rw [mergeE_get] at e
    by_cases h : i ∈ vs ∧ i < ρ2.length
    · rw [if_pos h] at e
      refine .inl ⟨h.1, ?_⟩
      rw [List.getD_eq_getElem?_getD] at e
      have : i < ρ1.length := by omega
      rw [List.getElem?_eq_getElem this] at e ⊢
      exact e
    · rw [if_neg h] at e
      have hi : i < ρ2.length := (List.getElem?_eq_some_iff.mp e).1
      refine .inr ⟨fun z => h ⟨z, hi⟩, e, ?_⟩
      rw [wipe_get, if_neg (fun z => h ⟨z.1, hi⟩)]
  have sub2 : ∀ a, mset σ (mergeE ρ1 ρ2 vs) a → mset (L2.wipe σ vs) ρ2 a := fun a ⟨i, s, e, m, z⟩ => by
    rcases cs e with ⟨hi, e1⟩ | ⟨hi, e1, e2⟩
    · rw [hv i hi s e1] at m; cases m
    · exact ⟨i, s, e1, m, e2.trans z⟩
  have g1 : ∀ {f : Fr} (a : Addr), H1 a ≠ none → GF B1 (mset σ ρ1) B1.H0 f a → GF B (mset σ (mergeE ρ1 ρ2 vs)) B.H0 f a := fun {f} a ha q => ⟨fun z => q.1 (sub a (sub2 a z)), hav a ha q.2.1, by rw [← hB0]; exact q.2.2.1, fun z => hB0 ▸ q.2.2.2 z⟩
  have g2 : ∀ {f : Fr} (a : Addr), H a ≠ none → GF B (mset (L2.wipe σ vs) ρ2) B.H0 f a → GF B (mset σ (mergeE ρ1 ρ2 vs)) B.H0 f a := fun {f} a _ q => ⟨fun z => q.1 (sub2 a z), q.2⟩
  refine ⟨⟨by rw [mergeE_len]; exact hl2, k2.dom, k2.av, k2.ext, fun i s e => ?_, fun i j s t a e1 m1 e2 m2 z1 z2 => ?_, k2.tb⟩, sub2⟩
  · rcases cs e with ⟨hi, e1⟩ | ⟨hi, e1, e2⟩
    · have q := k1.sl i s e1
      cases s with
      | no => exact True.intro
      | val d f => obtain ⟨v, q1, q2⟩ := q; exact ⟨v, q1, q2.mono (kp.weak fun _ g => g.1) g1⟩
      | ml ds f => have := hv i hi _ e1; cases this
      | mp n ds => have := hv i hi _ e1; cases this
      | md ks ds f => have := hv i hi _ e1; cases this
      | mt ks ds f => have := hv i hi _ e1; cases this
    · have q := k2.sl i s e1
      cases s with
      | no => exact True.intro
      | val d f => obtain ⟨v, q1, q2⟩ := q; exact ⟨v, e2.symm.trans q1, q2.mono Keep.refl g2⟩
      | ml ds f => obtain ⟨p, ws, q1, q2, q3, q4⟩ := q; exact ⟨p, ws, e2.symm.trans q1, q2, q3.mono Keep.refl g2, q4⟩
      | mp n ds => obtain ⟨p, ws, q1, q2⟩ := q; exact ⟨p, ws, e2.symm.trans q1, q2⟩
      | md ks ds f => obtain ⟨p, ws, q1, q2, l, q3, q4⟩ := q; exact ⟨p, ws, e2.symm.trans q1, q2, l, q3.mono Keep.refl g2, q4⟩
      | mt ks ds f => obtain ⟨p, ws, q1, q2, l, q3, q4⟩ := q; exact ⟨p, ws, e2.symm.trans q1, q2, l, q3.mono Keep.refl g2, q4⟩
  · have f : ∀ {i : Nat} {s : Sl}, (mergeE ρ1 ρ2 vs)[i]? = some s → s.isM = true → σ[i]? = some (some (.ref a)) → ρ2[i]? = some s ∧ (L2.wipe σ vs)[i]? = some (some (.ref a)) := fun {i s} e m z => by
      rcases cs e with ⟨hi, e1⟩ | ⟨hi, e1, e2⟩
      · rw [hv i hi s e1] at m; cases m
      · exact ⟨e1, e2.trans z⟩
    obtain ⟨a1, a2⟩ := f e1 m1 z1
    obtain ⟨b1, b2⟩ := f e2 m2 z2
    exact k2.inj i j s t a a1 m1 b1 m2 a2 b2
end
end DL

namespace DL
open PySem L2
variable [Tabs]

def Tgt.ixs : Tgt → List Nat
  | .one i => [i]
  | .tup is => is
section
variable {K : PySem.W.Frag} {B : Bx} {H H' H1 Hs : Hp} {σ σ' : L2.St} {ρ ρ' ρ1 ρ2 : En}
theorem setTs_w {us : List Nat} : ∀ (is : List Nat) (ds : List D) (f : Fr) (σ : L2.St) (ρ ρ' : En) (vs : List V) (Q' : L2.St → Hp → Prop), (∀ i ∈ is, i ∈ us) → Ok K B H σ ρ → Rs K (GF B (mset σ ρ) Hs f) H ds vs → setTs is ds f ρ = some ρ' →
    (∀ σ', Ok K B H σ' ρ' → (∀ a, mset σ' ρ' a → mset σ ρ a) → wipe σ' us = wipe σ us → Q' σ' H) → gTs is vs σ H Q'
  | [], [], f, σ, ρ, ρ', vs, Q', _, k, r, e, fin => by
    unfold Rs at r; subst r; cases e
    exact ⟨rfl, fin σ k (fun _ h => h) rfl⟩
  | i :: is, d :: ds, f, σ, ρ, ρ', vs, Q', hu, k, r, e, fin => by
    unfold Rs at r
    obtain ⟨v, w, rfl, h1, h2⟩ := r
    unfold setTs at e
    by_cases hi : i < ρ.length
    · rw [if_pos hi] at e
      obtain ⟨k2, s2⟩ := k.asg hi h1
      have sub : ∀ a, mset (σ.set i (some v)) (ρ.set i (.val d f)) a → mset σ ρ a := fun a z => (s2.new a z).resolve_right (k2.mdom z)
      refine ⟨v, w, rfl, ?_⟩
      refine setTs_w is ds f _ _ ρ' w Q' (fun j hj => hu j (List.mem_cons_of_mem _ hj)) k2 (h2.mono Keep.refl fun a ha g => ⟨fun z => g.1 (sub a z), g.2⟩) e fun σ' k3 s3 w3 => fin σ' k3 (fun a z => sub a (s3 a z)) ?_
      rw [w3]
      exact wipe_set (hu i List.mem_cons_self)
    · rw [if_neg hi] at e; cases e
  | [], _ :: _, _, _, _, _, _, _, _, _, _, e, _ => by cases e
  | _ :: _, [], _, _, _, _, _, _, _, _, _, e, _ => by cases e
theorem setT_w {us : List Nat} {tg : Tgt} {d : D} {f : Fr} {v : V} {Q' : L2.St → Hp → Prop} (hu : ∀ i ∈ tg.ixs, i ∈ us) (k : Ok K B H σ ρ) (r : R K (GF B (mset σ ρ) Hs f) H d v) (e : setT tg d f ρ = some ρ')
    (fin : ∀ σ', Ok K B H σ' ρ' → (∀ a, mset σ' ρ' a → mset σ ρ a) → wipe σ' us = wipe σ us → Q' σ' H) : gOf K tg v σ H Q' := by
  cases tg with
  | one i =>
    replace e : (if i < ρ.length then some (ρ.set i (.val d f)) else none) = some ρ' := e
    by_cases hi : i < ρ.length
    · rw [if_pos hi] at e
      cases e
      obtain ⟨k2, s2⟩ := k.asg hi r
      exact fin _ k2 (fun a z => (s2.new a z).resolve_right (k2.mdom z)) (wipe_set (hu i (by simp [Tgt.ixs])))
    · rw [if_neg hi] at e; cases e
  | tup is =>
    cases d with
    | tup ds =>
      unfold R at r
      obtain ⟨a, vs, rfl, ha, rs⟩ := r
      have hl : is.length = ds.length := by
        have : ∀ (is : List Nat) (ds : List D) (ρ : En), setTs is ds f ρ = some ρ' → is.length = ds.length := fun is => by
          induction is with
          | nil => intro ds ρ e; cases ds with
            | nil => rfl
            | cons _ _ => cases e
          | cons i is ih => intro ds ρ e; cases ds with
            | nil => cases e
            | cons d ds =>
              unfold setTs at e
              by_cases hi : i < ρ.length
              · rw [if_pos hi] at e; rw [List.length_cons, List.length_cons, ih ds _ e]
              · rw [if_neg hi] at e; cases e
        exact this is ds ρ e
      exact ⟨a, vs, rfl, ha, by rw [hl, rs.len], setTs_w is ds f σ ρ ρ' vs Q' hu k rs e fin⟩
    | tk ks =>
      unfold R at r
      obtain ⟨a, rfl, ha⟩ := r
      have hl : is.length = (ks.map kD).length := by
        have : ∀ (is : List Nat) (ds : List D) (ρ : En), setTs is ds f ρ = some ρ' → is.length = ds.length := fun is => by
          induction is with
          | nil => intro ds ρ e; cases ds with
            | nil => rfl
            | cons _ _ => cases e
          | cons i is ih => intro ds ρ e; cases ds with
            | nil => cases e
            | cons d ds =>
              unfold setTs at e
              by_cases hi : i < ρ.length
              · rw [if_pos hi] at e; rw [List.length_cons, List.length_cons, ih ds _ e]
              · rw [if_neg hi] at e; cases e
        exact this is _ ρ e
      exact ⟨a, _, rfl, .inl (.inl ha), by rw [hl, List.length_map, List.length_map], setTs_w (Hs := Hs) is (ks.map kD) f σ ρ ρ' (ks.map kV) Q' hu k (rs_keys ks) e fin⟩
    | _ => cases e
end
def slotsOk (ρ : En) (vs : List Nat) : Bool := vs.all fun i => !(ρ.getD i .no).isM && i < ρ.length
def frLe (f g : Fr) (d : D) : Bool := fmin f g == f || nol d
/-- [elt for tg in it if test]: I by the turn, what is made so far; f: how new what is made is at least -/
def dLc (it : TID) (tg : Tgt) (tt : TB) (te : TD) (vs : List Nat) : TD := fun ρ Q => it ρ fun ds f0 ρ1 => slotsOk ρ1 vs = true ∧ ∃ (f : Fr) (I : Nat → List D → En → Prop), I 0 [] (wipeE ρ1 vs) ∧
  (∀ i d acc ρ2, ds[i]? = some d → I i acc ρ2 → ∃ ρ3, setT tg d f0 ρ2 = some ρ3 ∧ tt ρ3 fun b ρ4 => (b = true → te ρ4 fun r ρ5 => ∃ o, stoD r = some o ∧ frLe f o.f o.d = true ∧ acc.length < sizeLine ∧ I (i + 1) (acc ++ [o.d]) (wipeE ρ5 vs)) ∧ (b = false → I (i + 1) acc (wipeE ρ4 vs))) ∧
  ∀ acc ρ2, I ds.length acc ρ2 → Q (.nl acc f) (mergeE ρ1 ρ2 vs)
section
variable {K : PySem.W.Frag} {B : Bx} {H H' H1 Hs : Hp} {σ σ' : L2.St} {ρ ρ' ρ1 ρ2 : En}
theorem frLe_gf {M : Addr → Prop} {f g : Fr} {d : D} {v : V} (e : frLe f g d = true) (h : R K (GF B M Hs g) H d v) : R K (GF B M Hs f) H d v := by
  unfold frLe at e
  rw [Bool.or_eq_true] at e
  rcases e with e | e
  · have e : fmin f g = f := by simpa using e
    exact h.mono Keep.refl fun a _ q => e ▸ q.minR
  · exact R.nol e h
/-- a turn of a comprehension: what holds -/
structure LcAt (K : PySem.W.Frag) (B : Bx) (Hs H1 : Hp) (σ : L2.St) (ρ1 : En) (vs : List Nat) (Dl : Addr) (f : Fr) (acc : List D) (ρ2 : En) (H : Hp) : Prop where
  ok : Ok K (B.add Dl) H (L2.wipe σ vs) ρ2
  kp : Keep (fun a => ¬ mset σ ρ1 a) H1 H
  dm : ∀ a, H1 a ≠ none → H a ≠ none
  sub : ∀ a, mset (L2.wipe σ vs) ρ2 a → mset σ ρ1 a
  kn : ∀ i : Nat, i ∉ vs → (∃ s : Sl, ρ1[i]? = some s ∧ s ≠ .no) → ∃ s : Sl, ρ2[i]? = some s ∧ s ≠ .no
  li : ∃ vacc, H Dl = some (.lst vacc) ∧ Rs K (GF (B.add Dl) (mset (L2.wipe σ vs) ρ2) Hs f) H acc vacc
theorem ev_lc {wi : TI} {it : TID} {tg : Tgt} {ttt : TT} {tt : TB} {te : TE} {d : TD} {vs : List Nat} (hi : EvI K wi it) (htg : ∀ i ∈ tg.ixs, i ∈ vs) (ht : EvT K ttt tt) (he : Ev1 K te d) : Ev1 K (tLc wi (gOf K tg) ttt te vs) (dLc it tg tt d vs) := fun B σ H ρ Q Q' k q fin =>
  hi B σ H ρ _ _ k q fun J H1 ds f0 ρ1 k1 s1 n1 dj ⟨hso, f, I, h0, hs, hd⟩ => fun Dl hD => by
    have hv : ∀ i ∈ vs, ∀ s : Sl, ρ1[i]? = some s → s.isM = false := fun i hm s e => by
      have := List.all_eq_true.mp hso i hm
      rw [Bool.and_eq_true] at this
      have t := this.1
      rw [List.getD_eq_getElem?_getD, e] at t
      simpa using t
    have hDs : H Dl = none := none_back s1.dom hD
    have hD0 : B.H0 Dl = none := fresh0 k.dom hDs
    have hDne : ∀ {a : Addr}, H1 a ≠ none → a ≠ Dl := fun h z => h (z ▸ hD)
    have st0 : LcAt K B H H1 σ ρ1 vs Dl f [] (wipeE ρ1 vs) (upd H1 Dl (.lst [])) := by
      obtain ⟨w1, w2⟩ := (k1.clear (o := .lst []) hD).wipe vs
      refine ⟨w1, (All.new hD).keep, fun a h => (All.new hD).dom h, w2, fun i hni ⟨s, e, ns⟩ => ⟨s, ?_, ns⟩, [], upd_same, Rs.nil⟩
      rw [wipeE_get, if_neg (fun z => hni z.1)]; exact e
    refine ⟨fun i m H2 => m = ds.length - i ∧ i ≤ ds.length ∧ ∃ acc ρ2, LcAt K B H H1 σ ρ1 vs Dl f acc ρ2 H2 ∧ I i acc ρ2, ⟨ds.length, by simp, Nat.zero_le _, [], _, st0, h0⟩, ?_⟩
    rintro i m H2 ⟨rfl, hil, acc, ρ2, L, hI⟩
    obtain ⟨g1, g2⟩ := dj H2 L.kp i
    by_cases hlt : i < ds.length
    · obtain ⟨jg, jy⟩ := g1 hlt
      refine .inr ⟨jg, fun H' => i < ds.length ∧ ∃ acc ρ2, LcAt K B H H1 σ ρ1 vs Dl f acc ρ2 H' ∧ I (i + 1) acc ρ2, fun H' ⟨_, w⟩ => ⟨ds.length - (i + 1), by omega, rfl, hlt, w⟩, fun x H3 y => ?_⟩
      obtain ⟨al, dd, ed, rd⟩ := jy x H3 y
      obtain ⟨ρ3, e3, q3⟩ := hs i dd acc ρ2 ed hI
      have k3 := L.ok.all al
      have rd' : R K (GF (B.add Dl) (mset (L2.wipe σ vs) ρ2) H f0) H3 dd x := rd.mono Keep.refl fun a ha ⟨g, h1⟩ =>
        ⟨fun z => g.1 (L.sub a z), fun z => (List.mem_cons.mp z).elim (hDne h1) g.2.1, g.2.2⟩
      refine setT_w htg k3 rd' e3 fun σ4 k4 sub4 w4 => ?_
      rw [wipe_wipe] at w4
      refine ⟨w4, ht (B.add Dl) σ4 H3 ρ3 _ _ k4 q3 fun b H5 ρ4 k5 s5 n5 q5 => ?_⟩
      have dom15 : ∀ a, H1 a ≠ none → H5 a ≠ none := fun a h => s5.dom a (al.dom (L.dm a h))
      have keep15 : Keep (fun a => ¬ mset σ ρ1 a) H1 H5 := fun a o h g => by
        refine s5.keep a o (al a o (L.kp a o h g)) (g.imp (fun z w => z (L.sub a (sub4 a w))) id)
      have sub5 : ∀ a, mset σ4 ρ4 a → mset σ ρ1 a := fun a z => L.sub a (sub4 a (s5.sub a z))
      -- the list that is made, at H5
      obtain ⟨vacc, hDa, rsa⟩ := L.li
      have hDav : Dl ∈ (B.add Dl).Av := List.mem_cons_self
      have nmD : ¬ mset σ4 ρ3 Dl := fun z => k4.mav z hDav
      have hDa5 : H5 Dl = some (.lst vacc) := s5.keep Dl _ (al Dl _ hDa) (.inl nmD)
      have rs5 : Rs K (GF (B.add Dl) (mset σ4 ρ4) H f) H5 acc vacc := (rsa.all al).mono (s5.keep.weak fun a g z => g.1 (sub4 a z)) fun a _ g => ⟨fun z => g.1 (sub4 a (s5.sub a z)), g.2⟩
      have known : ∀ {ρ' : En}, Kn ρ3 ρ' → ∀ i : Nat, i ∉ vs → (∃ s : Sl, ρ1[i]? = some s ∧ s ≠ .no) → ∃ s : Sl, (wipeE ρ' vs)[i]? = some s ∧ s ≠ .no := fun {ρ'} n j hj w => by
        obtain ⟨s, e, ns⟩ := L.kn j hj w
        have e3' : ρ3[j]? = some s := by
          have gen : ∀ (is : List Nat) (ds : List D) (f : Fr) (ρ ρ' : En), (∀ i ∈ is, i ∈ vs) → setTs is ds f ρ = some ρ' → ρ'[j]? = ρ[j]? := fun is => by
            induction is with
            | nil => intro ds f ρ ρ' _ e; cases ds <;> cases e; rfl
            | cons i is ih =>
              intro ds f ρ ρ' hu e
              cases ds with
              | nil => cases e
              | cons d ds =>
                unfold setTs at e
                by_cases hi : i < ρ.length
                · rw [if_pos hi] at e
                  rw [ih ds f _ ρ' (fun l hl => hu l (List.mem_cons_of_mem _ hl)) e, List.getElem?_set_ne (fun (z : i = j) => hj (z ▸ hu i List.mem_cons_self))]
                · rw [if_neg hi] at e; cases e
          cases tg with
          | one i =>
            replace e3 : (if i < ρ2.length then some (ρ2.set i (.val dd f0)) else none) = some ρ3 := e3
            by_cases hi : i < ρ2.length
            · rw [if_pos hi] at e3
              cases e3
              rw [List.getElem?_set_ne (fun (z : i = j) => hj (z ▸ htg i (by simp [Tgt.ixs])))]; exact e
            · rw [if_neg hi] at e3; cases e3
          | tup is =>
            cases dd with
            | tup es => rw [gen is es f0 ρ2 ρ3 htg e3]; exact e
            | tk ks => rw [gen is (ks.map kD) f0 ρ2 ρ3 htg e3]; exact e
            | _ => cases e3
        obtain ⟨t, et, nt⟩ := n j ⟨s, e3', ns⟩
        exact ⟨t, by rw [wipeE_get, if_neg (fun z => hj z.1)]; exact et, nt⟩
      cases b with
      | false =>
        refine iteF ⟨hlt, acc, _, ?_, q5.2 rfl⟩
        obtain ⟨k6, sub6⟩ := k5.wipe vs
        rw [w4] at k6 sub6
        exact ⟨k6, keep15, dom15, fun a z => sub5 a (sub6 a z), known n5, vacc, hDa5, rs5.mono Keep.refl fun a _ g => ⟨fun z => g.1 (sub6 a z), g.2⟩⟩
      | true =>
        refine iteT (he (B.add Dl) σ4 H5 ρ4 _ _ k5 (q5.1 rfl) fun y H6 r ρ5 k6 s6 n6 e6 ⟨o, eo, fo, hz, q6⟩ => ?_)
        have dom16 : ∀ a, H1 a ≠ none → H6 a ≠ none := fun a h => s6.dom a (dom15 a h)
        have nmD5 : ¬ mset σ4 ρ4 Dl := fun z => k5.mav z hDav
        have hDa6 : H6 Dl = some (.lst vacc) := s6.keep Dl _ hDa5 (.inl nmD5)
        have hd5 : ∀ a, H a ≠ none → H5 a ≠ none := fun a h => dom15 a (s1.dom a h)
        have ro : R K (GF (B.add Dl) (mset σ4 ρ5) H f) H6 o.d y := frLe_gf fo ((RelR.rg (B := B.add Dl) (show ∀ a, (B.add Dl).H0 a ≠ none → H a ≠ none from k.dom) (e6.base hd5)).sto eo)
        have rs6 := Rs.step s6 rs5
        obtain ⟨k7, sub7⟩ := k6.wipe vs
        rw [w4] at k7 sub7
        have k8 := k7.updAv (o := .lst (vacc ++ [y])) hDa6 (fun z => z) hD0
        have kp8 : Keep (fun a => a ≠ Dl) H6 (upd H6 Dl (.lst (vacc ++ [y]))) := fun a u h g => by
          by_cases z : a = Dl
          · subst z
            rcases g with g | g
            · exact absurd rfl g
            · rw [hDa6] at h; cases h; exact g.elim
          · rw [upd_ne z]; exact h
        have ne : ∀ {M : Addr → Prop} {Hs : Hp} {f : Fr} (a : Addr), GF (B.add Dl) M Hs f a → a ≠ Dl := fun a g z => g.2.1 (z ▸ hDav)
        refine ⟨vacc, hDa6, by rw [← rsa.len]; exact hz, hlt, _, _, ⟨k8, ?_, ?_, fun a z => sub5 a (s6.sub a (sub7 a z)), known (n5.trans n6), vacc ++ [y], upd_same, ?_⟩, q6⟩
        · refine fun a u h g => @fun n => ?_
          have hne : a ≠ Dl := hDne (by rw [h]; exact Option.some_ne_none _)
          rw [upd_ne hne]
          exact s6.keep a u (keep15 a u h g) (g.imp (fun z w => z (sub5 a w)) id)
        · intro a h
          rw [upd_ne (hDne h)]; exact dom16 a h
        · exact (rs6.mono (kp8.weak ne) fun a _ g => ⟨fun z => g.1 (sub7 a z), g.2⟩).snoc (ro.mono (kp8.weak ne) fun a _ g => ⟨fun z => g.1 (sub7 a z), g.2⟩)
    · have e : i = ds.length := by omega
      subst e
      refine .inl ⟨g2 (Nat.le_refl _), ?_⟩
      obtain ⟨vacc, hDa, rsa⟩ := L.li
      obtain ⟨m1, m2⟩ := k1.merge (B := B.add Dl) rfl (fun a ha g z => (List.mem_cons.mp z).elim (hDne ha) g) hv L.ok L.kp L.sub
      · have km : Ok K B H2 σ (mergeE ρ1 ρ2 vs) := m1.unclear
        have nm : ¬ mset σ (mergeE ρ1 ρ2 vs) Dl := fun z => m1.mav z List.mem_cons_self
        refine fin (.ref Dl) H2 (.nl acc f) _ km ⟨fun a o h g => L.kp a o (s1.keep a o h g) (g.imp (fun z w => z (s1.sub a w)) id), fun a h => L.dm a (s1.dom a h), fun a z => s1.sub a (L.sub a (m2 a z))⟩ (n1.trans fun j w => ?_) ?_ (hd acc ρ2 hI)
        · by_cases hj : j ∈ vs ∧ j < ρ2.length
          · obtain ⟨s, e, ns⟩ := w
            exact ⟨s, by rw [mergeE_get, if_pos hj, List.getD_eq_getElem?_getD, e]; rfl, ns⟩
          · rw [mergeE_get, if_neg hj]
            by_cases hjv : j ∈ vs
            · obtain ⟨s, e, ns⟩ := w
              have h1 := (List.getElem?_eq_some_iff.mp e).1
              have h2 : ρ2.length = ρ1.length := by rw [L.ok.len, wipe_length, k1.len]
              exact absurd ⟨hjv, by omega⟩ hj
            · exact L.kn j hjv w
        · exact ⟨Dl, vacc, rfl, hDa, hDs, nm, fun z => k1.av Dl z hD, m1, rsa.mono Keep.refl fun a _ g => ⟨fun z => g.1 (m2 a z), g.2⟩⟩
end
end DL

namespace DL
open PySem L2
variable [Tabs]

def DTs (X : Cx) (ifs : List Expr) (t : TB) : Prop := ∃ tt, PTs X ifs tt ∧ EvT X.K tt t
def dYes : TB := fun ρ Q => Q true ρ
theorem dts_nil {X : Cx} : DTs X [] dYes := ⟨_, pts_nil, fun B σ H ρ Q Q' k q fin => fin true H ρ k Stp.refl Kn.refl q⟩
theorem dts_one {X : Cx} {c : Expr} {t : TB} (h : DT X c t) : DTs X [c] t := let ⟨_, p, ev⟩ := h; ⟨_, pts_one p, ev⟩
section
variable {ι : Type} {X : ι → Cx} {K : PySem.W.Frag} {e : Expr} {d : TD} {ifs : List Expr} {t : TB}
theorem DE.alls (h : ∀ i, ∃ te, PE (X i) e te ∧ Ev1 K te d) : ∃ te, (∀ i, PE (X i) e te) ∧ ((∃ _ : ι, True) → Ev1 K te d) :=
  ⟨fun σ H Q => ∀ i, Classical.choose (h i) σ H Q, fun i => ⟨fun pins s σ H Q I q => (Classical.choose_spec (h i)).1.run pins s σ H Q I (q i)⟩, fun _ B σ H ρ Q Q' k q fin i => (Classical.choose_spec (h i)).2 B σ H ρ Q Q' k q fin⟩
theorem DTs.alls (h : ∀ i, ∃ te, PTs (X i) ifs te ∧ EvT K te t) : ∃ te, (∀ i, PTs (X i) ifs te) ∧ ((∃ _ : ι, True) → EvT K te t) :=
  ⟨fun σ H Q => ∀ i, Classical.choose (h i) σ H Q, fun i => ⟨fun pins s σ H Q I q => (Classical.choose_spec (h i)).1.run pins s σ H Q I (q i)⟩, fun _ B σ H ρ Q Q' k q fin i => (Classical.choose_spec (h i)).2 B σ H ρ Q Q' k q fin⟩
end
/-- the contexts of a comprehension's block -/
structure Bk where
  s : Shared
  H : Hp
  C : Addr
  cl : List (Str × Addr)
  fp : List Addr
abbrev bk (X : Cx) (scope : Scope) (i : Bk) : Cx := X.blk i.s i.H scope (compEnvC scope i.cl i.C X.env) i.fp
section
variable {X : Cx} {elt tg iter : Expr} {ifs : List Expr} {scope : Scope} {own : List (Str × Nat)} {pos spos : Pos} {it : TID} {g : Tgt} {tt : TB} {d : TD}
theorem tests_K {X : Cx} {Y : Cx} {te : TE} {d : TD} (h : X.K = Y.K) (e : Ev1 X.K te d) : Ev1 Y.K te d := h ▸ e
theorem de_lc (hc : X.calm = true) (hN : X.N.Nodup) (hi : DI X tg iter it) (ok : BlkOk X.N X.env.scope scope own) (hix : ∀ i ∈ g.ixs, i ∈ own.map (·.2)) (hg : ∀ i, DG (bk X scope i) tg g) (ht : ∀ i, DTs (bk X scope i) ifs tt) (he : ∀ i, DE (bk X scope i) elt d)
    (hs : ∀ x, foldedSetIterable iter X.env x = pure x := by intro _; rfl) : DE X (.ListComp elt [⟨tg, iter, ifs, 0⟩] scope pos) (dLc it g tt d (own.map (·.2))) := by
  obtain ⟨wi, pi, ei⟩ := hi
  obtain ⟨te, p1, e1⟩ := DE.alls (X := bk X scope) (K := X.K) he
  obtain ⟨ttt, p2, e2⟩ := DTs.alls (X := bk X scope) (K := X.K) ht
  have w : ∃ _ : Bk, True := ⟨⟨X.s_0, fun _ => none, 0, [], []⟩, True.intro⟩
  exact ⟨_, pe_lc (g := gOf X.K g) hc hN pi ok (fun s H C cl fp => hg ⟨s, H, C, cl, fp⟩) (fun s H C cl fp => p2 ⟨s, H, C, cl, fp⟩) (fun s H C cl fp => p1 ⟨s, H, C, cl, fp⟩) hs, ev_lc ei hix (e2 w) (e1 w)⟩
theorem ds_setLc {i : Nat} {y : Str} {py : Pos} (hc : X.calm = true) (hN : X.N.Nodup) (hsw : swapsWith (.ListComp elt [⟨tg, iter, ifs, 0⟩] scope pos) (some (.Name y py)) spos.line X.env = pure true) (hi : DI X tg iter it) (ok : BlkOk X.N X.env.scope scope own) (hix : ∀ i ∈ g.ixs, i ∈ own.map (·.2)) (hg : ∀ i, DG (bk X scope i) tg g) (ht : ∀ i, DTs (bk X scope i) ifs tt) (he : ∀ i, DE (bk X scope i) elt d)
    (hy : X.N[i]? = some y := by rfl) (hyl : X.env.scope.names.lookup y = some .local := by rfl)
    (hs : ∀ x, foldedSetIterable iter X.env x = pure x := by intro _; rfl) : DS X (.Assign [.Name y py] (.ListComp elt [⟨tg, iter, ifs, 0⟩] scope pos) spos) (dAsg (dLc it g tt d (own.map (·.2))) i) := by
  obtain ⟨wi, pi, ei⟩ := hi
  obtain ⟨te, p1, e1⟩ := DE.alls (X := bk X scope) (K := X.K) he
  obtain ⟨ttt, p2, e2⟩ := DTs.alls (X := bk X scope) (K := X.K) ht
  have w : ∃ _ : Bk, True := ⟨⟨X.s_0, fun _ => none, 0, [], []⟩, True.intro⟩
  exact ⟨_, ps_setLc (g := gOf X.K g) hc hN hy hyl hsw pi ok (fun s H C cl fp => hg ⟨s, H, C, cl, fp⟩) (fun s H C cl fp => p2 ⟨s, H, C, cl, fp⟩) (fun s H C cl fp => p1 ⟨s, H, C, cl, fp⟩) hs, evs_asg (ev_lc ei hix (e2 w) (e1 w))⟩
end
end DL

namespace DL
open PySem PySem.Spec PyProof.Rows L2
variable [Tabs]
section
variable {prog : Program} {w : World} {κ : Type} [DecidableEq κ] {knd : KeyKind prog w κ} {A : Around} {E : Value → Shared → Prop} {s : Shared}
/-- one pair is put into a dict -/
theorem put_ok {a : Addr} {ps : List (κ × Value)} {x : κ} {key v : Value} {Q : Unit → Shared → Prop} (hx : knd.is x key = true) (m : s.heap.DictOf knd a ps) (z : ps.length ≤ sizeLine)
    (q : ∀ h', h'.DictOf knd a (stored ps x v) → Heap.SameBut a s.heap h' → Q () { s with heap := h' }) : wpAny (model prog w) A (dictPut a (knd.hash x) key v) Q E s := by
  obtain ⟨ob, xs, n, hob, hex, hdat, hkeys, hps, hnd⟩ := m
  have hxs : xs.size ≤ sizeLine := by
    have l1 := hps.length
    rw [Array.length_toList] at l1
    omega
  have hfind : (xs.findIdx? fun e => knd.is x e.key) = ps.findIdx? fun kv => decide (kv.1 = x) := by
    rw [← hps.findIdx x]
    obtain ⟨l⟩ := xs
    simp
  unfold dictPut
  refine wpAny_bind (wpAny_dictFind_of hx hob hdat hkeys ?_)
  cases hi : xs.findIdx? fun e => knd.is x e.key with
  | some i =>
    have hany := any_of_findIdx_some (hfind ▸ hi)
    refine wpAny_updateDict hob hdat (q _ ⟨_, _, n, Heap.get?_update_self _ hob (Obj.isFreed_of_dict (Obj.data_mapDict hdat _)), hex.mapDict _, Obj.data_mapDict hdat _, hkeys.modify _ _, ?_, ?_⟩ (Heap.SameBut.update ..))
    · have hil : (xs.toList.findIdx? fun e => knd.is x e.key) = some i := by rw [← hi]; obtain ⟨l⟩ := xs; simp
      have hmod := hps.modify hnd hil v
      unfold stored
      rw [if_pos hany]
      obtain ⟨l⟩ := xs
      simpa using hmod
    · unfold stored
      rw [if_pos hany, keys_map_store]
      exact hnd
  | none =>
    have hmem : x ∉ ps.map (·.1) := not_mem_of_findIdx_none (hfind ▸ hi)
    have hany : ¬ (ps.any fun kv => decide (kv.1 = x)) = true := fun t => by
      obtain ⟨kv, h1, h2⟩ := List.any_eq_true.mp t
      exact hmem (List.mem_map.mpr ⟨kv, h1, of_decide_eq_true h2⟩)
    refine wpAny_updateDictKeys (hz := hxs) hob hdat (q _ ⟨_, _, n + 1, Heap.get?_update_self _ hob (Obj.isFreed_of_dict (Obj.data_mapDictKeys hdat _)), hex.mapDictKeys _, Obj.data_mapDictKeys hdat _, hkeys.push hx _, ?_, ?_⟩ (Heap.SameBut.update ..))
    · have happ := hps.append hx (knd.hash x) v
      unfold stored
      rw [if_neg hany]
      obtain ⟨l⟩ := xs
      simpa using happ
    · unfold stored
      rw [if_neg hany, List.map_append, List.nodup_append]
      exact ⟨hnd, by simp, fun b hb c hc e => hmem (by simp only [List.map_cons, List.map_nil, List.mem_singleton] at hc; rw [← hc, ← e]; exact hb)⟩
/-- all of another dict is put into a dict -/
theorem merge_ok {a b : Addr} {ps more : List (κ × Value)} {Q : Unit → Shared → Prop} (hne : a ≠ b) (hsys : (b == sysModules) = false) (hnr : ∀ (x : κ) (v : Value), knd.is x v = true → ∀ c, v ≠ .ref c)
    (ma : s.heap.DictOf knd a ps) (mb : s.heap.DictOf knd b more) (z : ps.length + more.length ≤ sizeLine)
    (q : ∀ h', h'.DictOf knd a (merged ps more) → Heap.SameBut a s.heap h' → Q () { s with heap := h' }) : wpAny (model prog w) A (mergeMapping a (.ref b) false) Q E s := by
  obtain ⟨oa, xa, na, hoa, hexa, hda, hka, hpa, hna⟩ := id ma
  obtain ⟨ob, xb, nb, hob, hexb, hdb, hkb, hpb, hnb⟩ := id mb
  have hlen : more.length = xb.size := by rw [← hpb.length, Array.length_toList]
  unfold mergeMapping
  refine wpAny_bind (wpAny_isInstance mb.typeIs isSubtype_dict_dict ?_)
  rw [if_pos rfl]
  refine wpAny_bind (wpAny_specialOf mb.typeIs F.slot_dict_iter.lookup ?_)
  have hq : (some (Value.builtin "dict.__iter__") == some (Value.builtin "dict.__iter__")) = true := by decide
  rw [hq]
  refine wpAny_bind (wpAny_pure ?_)
  dsimp only
  rw [if_neg (by rw [hsys]; exact Bool.false_ne_true)]
  simp only [Bool.false_eq_true, if_false]
  refine wpAny_bind (wpAny_dictEntries hoa hda ?_)
  -- the loop that puts the pairs
  have loop : wpAny (model prog w) A (do
      let es ← dictEntries b
      let ep ← dictEpoch b
      forIn (List.range es.size) PUnit.unit fun i (_ : PUnit) => (do
        let es' ← dictEntries b
        match es'[i]? with
          | some e => do
            holding [e.key, e.val] (dictPut a e.hash e.key e.val)
            let ep' ← dictEpoch b
            if (ep' != ep) = true then do
              (unsupported "dict.changed-during-merge" : Sem PUnit)
              pure (ForInStep.yield PUnit.unit)
            else pure (ForInStep.yield PUnit.unit)
          | _ => do
            (unsupported "dict.changed-during-merge" : Sem PUnit)
            pure (ForInStep.yield PUnit.unit) : Sem (ForInStep PUnit))
      pure ()) Q E s := by
    refine wpAny_bind (wpAny_dictEntries hob hdb (wpAny_bind (wpAny_dictEpoch hob hdb (wpAny_bind ?_))))
    refine wpAny_forIn_list _ (fun l _ s' => ∃ h' i, s' = { s with heap := h' } ∧ i ≤ xb.size ∧ l = (List.range xb.size).drop i ∧ h'.DictOf knd a (merged ps (more.take i)) ∧ h'.get? b = some ob ∧ Heap.SameBut a s.heap h') _ ?_ ?_ _ _
      ⟨s.heap, 0, rfl, Nat.zero_le _, rfl, ma, hob, Heap.SameBut.refl _ _⟩
    · rintro j l _ s' ⟨h', i, rfl, hi, hl, md, hb', sb⟩
      have hlt : i < xb.size := by
        refine Nat.lt_of_not_le fun t => ?_
        rw [List.drop_eq_nil_of_le (by rw [List.length_range]; exact t)] at hl
        cases hl
      have hdrop := List.drop_eq_getElem_cons (l := List.range xb.size) (i := i) (by rw [List.length_range]; exact hlt)
      rw [hdrop, List.getElem_range] at hl
      obtain ⟨rfl, rfl⟩ := List.cons.inj hl
      refine wpAny_bind (wpAny_dictEntries hb' hdb ?_)
      have hm : j < more.length := by rw [hlen]; exact hlt
      have hmj : more[j]? = some more[j] := List.getElem?_eq_getElem hm
      obtain ⟨c1, c2⟩ := hpb.get? (e := xb[j]) (by rw [Array.getElem?_toList]; exact Array.getElem?_eq_getElem hlt) hmj
      obtain ⟨x', c3, c4⟩ := hkb xb[j] (Array.getElem_mem hlt)
      have c5 : x' = more[j].1 := knd.inj _ _ _ c3 c1
      rw [Array.getElem?_eq_getElem hlt]
      dsimp only
      rw [c4, c5, c2]
      have hz : (merged ps (more.take j)).length ≤ sizeLine := by
        have l1 := merged_length_le ps (more.take j)
        have l2 : (more.take j).length ≤ more.length := by rw [List.length_take]; exact Nat.min_le_right _ _
        omega
      refine wpAny_bind (wpAny_holding (put_ok c1 md hz fun h2 md2 sb2 => ?_))
      have hb2 : h2.get? b = some ob := (sb2.2 b fun t => hne t.symm).trans hb'
      refine wpAny_bind (wpAny_dictEpoch hb2 hdb ?_)
      rw [if_neg (by simp)]
      refine wpAny_pure ⟨h2, j + 1, rfl, hlt, rfl, ?_, hb2, sb.trans sb2⟩
      rw [merged_take_succ ps more j more[j] hmj]
      exact md2
    · rintro _ s' ⟨h', i, rfl, hi, hl, md, hb', sb⟩
      have hge : xb.size ≤ i := by
        refine Nat.le_of_not_lt fun t => ?_
        have hdrop := List.drop_eq_getElem_cons (l := List.range xb.size) (i := i) (by rw [List.length_range]; exact t)
        rw [hdrop] at hl
        cases hl
      rw [List.take_of_length_le (by rw [hlen]; exact hge)] at md
      exact wpAny_pure (q h' md sb)
  split
  · refine wpAny_bind (wpAny_dictEntries hob hdb (wpAny_bind ?_))
    rw [← Array.forIn_toList]
    refine wpAny_forIn_list _ (fun l _ s' => s' = s ∧ ∀ e ∈ l, e ∈ xb.toList) _ ?_ ?_ _ _ ⟨rfl, fun _ h => h⟩
    · rintro e l _ s' ⟨rfl, hsub⟩
      obtain ⟨x', c3, _⟩ := hkb e (by simpa using hsub e List.mem_cons_self)
      have nr := hnr x' _ c3
      cases ek : e.key with
      | ref c => exact absurd ek (nr c)
      | _ => exact wpAny_pure ⟨rfl, fun y hy => hsub y (List.mem_cons_of_mem _ hy)⟩
    · rintro _ s' ⟨rfl, _⟩
      exact loop
  · exact loop
end

section
variable {X : Cx} {m k v : Expr} {pos : Pos} {tm tk tv : TE}
theorem kv_nodup {prog : Program} {w : World} {h : Heap} {a : Addr} {kvs : List (Key × V)} {vs : List (Key × Value)} (r : KV kvs vs) (d : h.DictOf (mixKind prog w) a vs) : (kvs.map (·.1)).Nodup := by
  obtain ⟨_, _, _, _, _, _, _, _, n⟩ := d
  rw [r.keys]; exact n
/-- {**m, k: v}: p the new dict, q the one that bears the pair alone -/
def tStar (tm tk tv : TE) : TE := fun σ H Q => ∀ p, H p = none → tm σ (upd H p (.dK [])) fun x H1 => H1 p = some (.dK []) ∧ ∃ a kvs, x = .ref a ∧ a ≠ p ∧ H1 a = some (.dK kvs) ∧ kvs.length ≤ 1000 ∧
  ∀ q, (upd H1 p (.dK kvs)) q = none → tPairs [(tk, tv)] σ (upd (upd H1 p (.dK kvs)) q (.dK [])) fun ps H2 => H2 p = some (.dK kvs) ∧ H2 q = some (.dK []) ∧ q ≠ p ∧ ∃ (k : Key) (v : V), ps = [(kV k, v)] ∧ Q (.ref p) (upd (upd H2 q (.dK [(k, v)])) p (.dK (putK kvs k v)))
theorem pe_star (hm : PE X m tm) (hk : PE X k tk) (hv : PE X v tv) : PE X (.Dict [none, some k] [m, v] pos) (tStar tm tk tv) := by
  refine ⟨fun pins s σ H Q I h => ?_⟩
  rw [arm_eval_Dict]
  refine wpAny_bind (wpAny_standAt ?_)
  show wpAny _ _ (dictDisplay [(none, do let x ← eval m X.env; standAt pos; pure x), (some (eval k X.env), do let x ← eval v X.env; standAt pos; pure x)]) _ _ _
  unfold dictDisplay
  dsimp only
  refine wpAny_bind ?_
  rw [List.forIn_cons]
  dsimp only
  rw [if_pos (by rfl : (([] : List (Sem Value × Sem Value)).isEmpty) = true)]
  refine wpAny_bind (wpAny_bind (wpAny_pure ?_))
  dsimp only
  refine wpAny_bind (wpAny_bind (wpAny_alloc (wpAny_pure ?_)))
  have hn := I.hok.fresh (Nat.le_refl s.heap.objs.size)
  have I1 := I.laid (a := s.heap.objs.size) (o := .dK []) (h' := s.heap.push { cls := .type "dict", data := .dict #[] }) (t' := s.toks) (fun _ _ q => Heap.get?_push_of_some _ q) (Nat.le_refl _) (dk_empty s.heap I.big)
  have h1 := h _ hn
  refine wpAny_bind (wpAny_holding (wpAny_bind (thn (hm.run pins _ σ _ _ I1 h1) fun u s1 ⟨x, H1, I2, rx, e1, a, kvs, ex, hap, e2, hz, h2⟩ => ?_)))
  subst ex
  obtain rfl : u = Value.ref a := rx
  refine wpAny_bind (wpAny_standAt (wpAny_pure ?_))
  have hne : s.heap.objs.size ≠ a := fun t => hap t.symm
  obtain ⟨zp, sp, vsp, relp, ddp⟩ := dk_of I2.hok e1
  obtain ⟨za, sa, vsa, rela, dda⟩ := dk_of I2.hok e2
  have evp : vsp = [] := by cases relp; rfl
  subst evp
  have nref : ∀ (y : Key) (u : Value), (mixKind X.prog X.w).is y u = true → ∀ c, u ≠ .ref c := fun y u hy c t => by
    subst t
    rcases keyIs_shape hy with ⟨_, _, _, t⟩ | ⟨_, _, _, t⟩ <;> cases t
  have hla := rela.length
  refine wpAny_bind (wpAny_onRaise (wpAny_tryCatch (wpAny_onRaise (wpAny_holding (merge_ok hne sa nref ddp dda (by show 0 + _ ≤ _; rw [← hla]; exact (by omega : 0 + kvs.length ≤ sizeLine)) fun h2' dd2 sb2 => ?_)))))
  rw [merged_nil_of_nodup _ (by rw [← rela.keys]; exact kv_nodup rela dda)] at dd2
  have I3 := d_write (ob := .dK kvs) (t' := s1.toks) I2 (by rw [e1]; exact True.intro) sb2 (let ⟨o, _, _, t, _⟩ := dd2; ⟨o, t⟩) (dk_new za sp rela dd2)
  refine wpAny_pure ?_
  dsimp only
  rw [List.forIn_cons]
  refine wpAny_bind ?_
  dsimp only
  rw [if_neg (by simp)]
  refine wpAny_pure ?_
  dsimp only
  rw [List.forIn_nil]
  refine wpAny_pure ?_
  dsimp only
  rw [if_neg (by simp)]
  refine wpAny_bind (wpAny_bind (wpAny_holding (wpAny_subDict (knd := mixKind X.prog X.w) (by simp) ?_)))
  have hq := I3.hok.fresh (Nat.le_refl h2'.objs.size)
  have I4 := I3.laid (a := h2'.objs.size) (o := .dK []) (h' := h2'.push { cls := .type "dict", data := .dict #[] }) (t' := s1.toks) (fun _ _ t => Heap.get?_push_of_some _ t) (Nat.le_refl _) (dk_empty h2' I3.big)
  refine thn ((pps_cons (pos := pos) hk hv pps_nil).run pins _ σ _ _ I4 (h2 _ hq)) fun ws s3 ⟨ps, H2, I5, rel, e3, e4, hqp, ky, vv, eps, qq⟩ => ?_
  subst eps
  cases rel with
  | @cons _ uz _ _ rk rt =>
    cases rt
    obtain ⟨u1, z1⟩ := uz
    obtain ⟨ru, rz⟩ := rk
    obtain ⟨zq, sq, vsq, relq, ddq⟩ := dk_of I5.hok e4
    have evq : vsq = [] := by cases relq; rfl
    subst evq
    refine ⟨[(ky, z1)], ⟨kV_is ru, rfl, True.intro⟩, ddq, fun h3 dd3 sb3 => ?_⟩
    have hkv1 : KV [(ky, vv)] [(ky, z1)] := .cons ⟨rfl, rz⟩ .nil
    have I6 := d_write (ob := .dK [(ky, vv)]) (t' := s3.toks + 1) I5 (by rw [e4]; exact True.intro) sb3 (let ⟨o, _, _, t, _⟩ := dd3; ⟨o, t⟩) (dk_new (by show 1 ≤ sizeLine; decide) sq hkv1 dd3)
    have e5 : (upd H2 h2'.objs.size (.dK [(ky, vv)])) s.heap.objs.size = some (.dK kvs) := by rw [upd_ne hqp.symm]; exact e3
    obtain ⟨zp6, sp6, vsp6, relp6, ddp6⟩ := dk_of I6.hok e5
    have hl6 := relp6.length
    refine wpAny_bind (wpAny_onRaise (wpAny_holding (merge_ok hqp.symm sq nref ddp6 dd3 (by show _ + 1 ≤ _; rw [← hl6, sizeLine_eq]; omega) fun h4 dd4 sb4 => ?_)))
    have I7 := d_write (ob := .dK (putK kvs ky vv)) (t' := s3.toks + 1) I6 (by rw [e5]; exact True.intro) sb4 (let ⟨o, _, _, t, _⟩ := dd4; ⟨o, t⟩) (dk_new (by
      have l1 := length_putK kvs ky vv
      rw [sizeLine_eq]; omega) sp6 (relp6.put ky rz) dd4)
    refine wpAny_pure ?_
    dsimp only
    exact wpAny_pure ⟨.ref s.heap.objs.size, _, I7, rfl, qq⟩
end
end DL

namespace DL
open PySem L2
variable [Tabs]

/-! ### dicts whose keys are whole numbers and texts -/
def keyOf : D → Option Key
  | .int i => some (.inl i)
  | .str s => some (.inr s)
  | _ => none
def lookD {α : Type} : List Key → List α → Key → Option α
  | k :: ks, d :: ds, x => if k = x then some d else lookD ks ds x
  | _, _, _ => none
def putKs (ks : List Key) (x : Key) : List Key := if ks.any (fun k => decide (k = x)) = true then ks else ks ++ [x]
def putDs {α : Type} (ks : List Key) (ds : List α) (x : Key) (d : α) : List α := if ks.any (fun k => decide (k = x)) = true then List.zipWith (fun k y => if k = x then d else y) ks ds else ds ++ [d]
section
variable {K : PySem.W.Frag} {G : Addr → Prop} {H : Hp}
theorem keyOf_v {d : D} {v : V} {x : Key} (h : R K G H d v) (e : keyOf d = some x) : v = kV x := by
  cases d <;> cases e <;> (unfold R at h; subst h; rfl)
theorem look_v : ∀ {ks : List Key} {ds : List D} {vs : List V} {x : Key} {d : D}, Rs K G H ds vs → lookD ks ds x = some d → ∃ v, valV (ks.zip vs) x = some v ∧ R K G H d v
  | [], _, _, _, _, _, e => by cases e
  | _ :: _, [], _, _, _, _, e => by cases e
  | k :: ks, d :: ds, _, x, d', h, e => by
    unfold Rs at h
    obtain ⟨v, r, rfl, h1, h2⟩ := h
    unfold lookD at e
    by_cases hk : k = x
    · rw [if_pos hk] at e
      cases e
      exact ⟨v, by rw [List.zip_cons_cons]; exact valV_pos hk, h1⟩
    · rw [if_neg hk] at e
      obtain ⟨u, h3, h4⟩ := look_v h2 e
      exact ⟨u, by rw [List.zip_cons_cons, valV_neg hk]; exact h3, h4⟩
theorem look_none : ∀ {ks : List Key} {ds : List D} {vs : List V} {x : Key}, ks.length = vs.length → Rs K G H ds vs → lookD ks ds x = none → valV (ks.zip vs) x = none
  | [], _, _, _, _, _, _ => rfl
  | k :: ks, [], vs, _, hl, h, _ => by unfold Rs at h; subst h; cases hl
  | k :: ks, d :: ds, _, x, hl, h, e => by
    unfold Rs at h
    obtain ⟨v, r, rfl, h1, h2⟩ := h
    unfold lookD at e
    by_cases hk : k = x
    · rw [if_pos hk] at e; cases e
    · rw [if_neg hk] at e
      rw [List.zip_cons_cons, valV_neg hk]
      exact look_none (by simpa using hl) h2 e
theorem any_zip {β : Type} (x : Key) : ∀ {ks : List Key} {vs : List β}, ks.length = vs.length → ((ks.zip vs).any fun kv => decide (kv.1 = x)) = ks.any fun k => decide (k = x)
  | [], [], _ => rfl
  | k :: ks, v :: vs, h => by rw [List.zip_cons_cons, List.any_cons, List.any_cons, any_zip x (by simpa using h)]
  | [], _ :: _, h => by cases h
  | _ :: _, [], h => by cases h
theorem map_zip {β : Type} (x : Key) (y : β) : ∀ {ks : List Key} {vs : List β}, ks.length = vs.length → (ks.zip vs).map (fun kv => if kv.1 = x then (kv.1, y) else kv) = ks.zip (List.zipWith (fun k z => if k = x then y else z) ks vs)
  | [], [], _ => rfl
  | k :: ks, v :: vs, h => by
    rw [List.zip_cons_cons, List.map_cons, List.zipWith_cons_cons, List.zip_cons_cons, map_zip x y (by simpa using h)]
    by_cases hk : k = x
    · rw [if_pos hk, if_pos hk]
    · rw [if_neg hk, if_neg hk]
  | [], _ :: _, h => by cases h
  | _ :: _, [], h => by cases h
theorem put_zip {ks : List Key} {vs : List V} (x : Key) (y : V) (h : ks.length = vs.length) : putK (ks.zip vs) x y = (putKs ks x).zip (putDs ks vs x y) ∧ (putKs ks x).length = (putDs ks vs x y).length := by
  unfold putK putKs putDs
  rw [any_zip x h]
  by_cases hk : ks.any (fun k => decide (k = x)) = true
  · rw [if_pos hk, if_pos hk, if_pos hk, map_zip x y h]
    exact ⟨rfl, by rw [List.length_zipWith, h, Nat.min_self]⟩
  · rw [if_neg hk, if_neg hk, if_neg hk]
    refine ⟨?_, by rw [List.length_append, List.length_append, h] <;> rfl⟩
    rw [List.zip_append h]
    rfl
theorem put_rs {d : D} {v : V} {x : Key} (h1 : R K G H d v) : ∀ {ks : List Key} {ds : List D} {vs : List V}, Rs K G H ds vs → Rs K G H (putDs ks ds x d) (putDs ks vs x v) := by
  intro ks ds vs h
  unfold putDs
  by_cases hk : ks.any (fun k => decide (k = x)) = true
  · rw [if_pos hk, if_pos hk]
    clear hk
    induction ks generalizing ds vs with
    | nil => cases ds <;> cases vs <;> exact Rs.nil
    | cons k ks ih =>
      cases ds with
      | nil => unfold Rs at h; subst h; exact Rs.nil
      | cons e es =>
        unfold Rs at h
        obtain ⟨u, r, rfl, h2, h3⟩ := h
        rw [List.zipWith_cons_cons, List.zipWith_cons_cons]
        refine Rs.cons ?_ (ih h3)
        by_cases hk : k = x
        · rw [if_pos hk, if_pos hk]; exact h1
        · rw [if_neg hk, if_neg hk]; exact h2
  · rw [if_neg hk, if_neg hk]
    exact h.snoc h1
end
section
variable {K : PySem.W.Frag} {B : Bx} {H H' Hs : Hp} {σ : L2.St} {ρ ρ' : En} {v : V} {r : Rv}
/-- a dict that is seen: where it stands -/
theorem Rg.dic {ks : List Key} {ds : List D} (k : Ok K B H σ ρ) (h : Rg K B Hs H σ ρ v r) (e : (ob ρ r).d = .dic ks ds) : ∃ a vs, v = .ref a ∧ H a = some (.dK (ks.zip vs)) ∧ ks.length = vs.length ∧ a ∉ B.Av ∧ Rs K (GF B (mset σ ρ) Hs (ob ρ r).f) H ds vs := by
  cases r with
  | v d f =>
    have e : d = .dic ks ds := e
    subst e
    have h : R K (GF B (mset σ ρ) Hs f) H (.dic ks ds) v := h
    unfold R at h
    obtain ⟨a, vs, e1, e2, l, g, rs⟩ := h
    exact ⟨a, vs, e1, e2, l, g.2.1, rs⟩
  | nl _ _ => cases e
  | nt _ _ _ => cases e
  | nd ks' ds' f =>
    have e : D.dic ks' ds' = .dic ks ds := e
    cases e
    have h : R K (GF B (mset σ ρ) Hs (cf f)) H (.dic ks ds) v := h
    unfold R at h
    obtain ⟨a, vs, e1, e2, l, g, rs⟩ := h
    exact ⟨a, vs, e1, e2, l, g.2.1, rs⟩
  | m i =>
    obtain ⟨ev, s, es, ns⟩ := h
    have eo : ob ρ (.m i) = obS s := by show obS (ρ.getD i .no) = _; rw [List.getD_eq_getElem?_getD, es]; rfl
    rw [eo] at e ⊢
    have q := k.sl i s es
    cases s with
    | no => exact absurd rfl ns
    | val d f =>
      obtain ⟨w, e1, e2⟩ := q
      rw [ev] at e1; cases e1
      have e : d = .dic ks ds := e
      subst e
      unfold R at e2
      obtain ⟨a, vs, e1, e2, l, g, rs⟩ := e2
      exact ⟨a, vs, e1, e2, l, g.2.1, rs.mono Keep.refl fun _ _ g => g.fr⟩
    | ml _ _ => cases e
    | mp _ _ => cases e
    | mt _ _ _ => cases e
    | md ks' ds' f =>
      have e : D.dic ks' ds' = .dic ks ds := e
      cases e
      obtain ⟨p, vs, e1, e2, l, rs, _, av⟩ := q
      rw [ev] at e1; cases e1
      exact ⟨p, vs, rfl, e2, l, av, rs.mono Keep.refl fun _ _ g => g.fr⟩
def dDNew : TD := fun ρ Q => Q (.nd [] [] .z) ρ
theorem ev_dnew : Ev1 K tDNewK dDNew := fun B σ H ρ Q Q' k q fin => fun p hp => by
  obtain ⟨o1, o2⟩ := new_nd (f := .z) (ks := []) (ds := []) (vs := []) (Hs := H) k (fun _ h => h) hp rfl Rs.nil
  exact fin _ _ _ ρ o1 (All.new hp).step Kn.refl o2 q
def dDGet (d t : TD) : TD := fun ρ Q => d ρ fun r ρ1 => t ρ1 fun r2 ρ2 => ∃ ks ds x e, (ob ρ2 r).d = .dic ks ds ∧ keyOf (ob ρ2 r2).d = some x ∧ lookD ks ds x = some e ∧ Q (.v e (ob ρ2 r).f) ρ2
theorem ev_dget {td ty : TE} {d t : TD} (h : Ev1 K td d) (h2 : Ev1 K ty t) : Ev1 K (tDGet td ty) (dDGet d t) := fun B σ H ρ Q Q' k q fin =>
  h B σ H ρ _ _ k q fun x H1 r1 ρ1 k1 s1 n1 w1 q1 => h2 B σ H1 ρ1 _ _ k1 q1 fun y H2 r2 ρ2 k2 s2 n2 w2 ⟨ks, ds, ky, e, ed, ek, el, q2⟩ => by
    have g1 := (w1.rg k.dom).go s2 n2
    obtain ⟨a, vs, rfl, ha, hl, _, rs⟩ := g1.dic k2 ed
    obtain ⟨v, ev, rv⟩ := look_v rs el
    have ry := keyOf_v (Rg.ro k2 (w2.rg k1.dom)).all ek
    subst ry
    exact ⟨a, v, rfl, ev ▸ DGet.k ha, fin v H2 (.v e _) ρ2 k2 (s1.trans s2) (n1.trans n2) rv q2⟩
def dStar (dm dk dv : TD) : TD := fun ρ Q => dm ρ fun r ρ1 => ∃ ks ds, (ob ρ1 r).d = .dic ks ds ∧ ks.length ≤ 1000 ∧ dk ρ1 fun rk ρ2 => dv ρ2 fun rv ρ3 =>
  ∃ x o, keyOf (ob ρ3 rk).d = some x ∧ stoD rv = some o ∧ Q (.nd (putKs ks x) (putDs ks ds x o.d) (fmin (ob ρ1 r).f o.f)) ρ3
theorem ev_star {tm tk tv : TE} {dm dk dv : TD} (hm : Ev1 K tm dm) (hk : Ev1 K tk dk) (hv : Ev1 K tv dv) : Ev1 K (tStar tm tk tv) (dStar dm dk dv) := fun B σ H ρ Q Q' k q fin => fun p hp => by
  have hp0 : B.H0 p = none := fresh0 k.dom hp
  have k0 := k.clear (o := .dK []) hp
  have pav : p ∈ (B.add p).Av := List.mem_cons_self
  refine hm (B.add p) σ _ ρ _ _ k0 q fun x H1 r1 ρ1 k1 s1 n1 w1 ⟨ks, ds, ed, hz, q1⟩ => ?_
  have hp1 : H1 p = some (.dK []) := s1.keep p _ upd_same (.inl fun z => k0.mav z pav)
  have g1 : Rg K (B.add p) (upd H p (.dK [])) H1 σ ρ1 x r1 := w1.rg k0.dom
  obtain ⟨a, vs, rfl, ha, hl, hav, rs⟩ := g1.dic k1 ed
  have hap : a ≠ p := fun z => hav (z ▸ pav)
  refine ⟨hp1, a, ks.zip vs, rfl, hap, ha, by rw [List.length_zip, hl, Nat.min_self, ← hl]; exact hz, fun qq hq => ?_⟩
  have k1' : Ok K (B.add p) (upd H1 p (.dK (ks.zip vs))) σ ρ1 := k1.updAv hp1 (fun z => z) hp0
  have hqp : qq ≠ p := fun z => by rw [z, upd_same] at hq; cases hq
  have k2 := k1'.clear (o := .dK []) hq
  have qav : qq ∈ ((B.add p).add qq).Av := List.mem_cons_self
  have pav2 : p ∈ ((B.add p).add qq).Av := List.mem_cons_of_mem _ pav
  refine hk ((B.add p).add qq) σ _ ρ1 _ _ k2 q1 fun y H2 r2 ρ2 k3 s2 n2 w2 q2 => hv ((B.add p).add qq) σ H2 ρ2 _ _ k3 q2 fun z H3 r3 ρ3 k4 s3 n3 w3 ⟨ky, o, ek, eo, q3⟩ => ?_
  have h2p : H2 p = some (.dK (ks.zip vs)) := s2.keep p _ (by rw [upd_ne hqp.symm]; exact upd_same) (.inl fun t => k2.mav t pav2)
  have h3p : H3 p = some (.dK (ks.zip vs)) := s3.keep p _ h2p (.inl fun t => k3.mav t pav2)
  have h3q : H3 qq = some (.dK []) := s3.keep qq _ (s2.keep qq _ upd_same (.inl fun t => k2.mav t qav)) (.inl fun t => k3.mav t qav)
  have gk := (w2.rg k2.dom).go s3 n3
  have ry := keyOf_v (Rg.ro k4 gk).all ek
  subst ry
  refine ⟨h3p, h3q, hqp, ky, z, rfl, ?_⟩
  obtain ⟨e1, e2⟩ := put_zip (vs := vs) ky z hl
  rw [e1]
  have hq0 : B.H0 qq = none := fresh0 (B := B) (Hs := upd H1 p (.dK (ks.zip vs))) (fun a h => k1'.dom a h) hq
  have k5 : Ok K ((B.add p).add qq) (upd H3 qq (.dK [(ky, z)])) σ ρ3 := k4.updAv h3q (fun t => t) hq0
  have h5p : (upd H3 qq (.dK [(ky, z)])) p = some (.dK (ks.zip vs)) := by rw [upd_ne hqp.symm]; exact h3p
  have k6 : Ok K ((B.add p).add qq) (upd (upd H3 qq (.dK [(ky, z)])) p (.dK ((putKs ks ky).zip (putDs ks vs ky z)))) σ ρ3 := k5.updAv2 pav2 h5p (fun t => t) hp0
  have k7 : Ok K (B.add p) _ σ ρ3 := k6.unclear
  have k8 : Ok K B _ σ ρ3 := k7.unclear
  -- what is kept on the way
  have kpE : Keep (fun a => a ≠ p ∧ a ≠ qq) H3 (upd (upd H3 qq (.dK [(ky, z)])) p (.dK ((putKs ks ky).zip (putDs ks vs ky z)))) := fun a u h g => by
    by_cases t1 : a = p
    · subst t1
      rcases g with g | g
      · exact absurd rfl g.1
      · rw [h3p] at h; cases h; exact g.elim
    · by_cases t2 : a = qq
      · subst t2
        rcases g with g | g
        · exact absurd rfl g.2
        · rw [h3q] at h; cases h; exact g.elim
      · rw [upd_ne t1, upd_ne t2]; exact h
  have kp1 : Keep (fun a => ¬ mset σ ρ1 a ∧ a ≠ p) H1 H3 := fun a u h g => @fun n => by
    have up : (upd H1 p (.dK (ks.zip vs))) a = some u ∨ a = p := by
      by_cases t : a = p
      · exact .inr t
      · exact .inl (by rw [upd_ne t]; exact h)
    rcases up with up | up
    · have u2 : (upd (upd H1 p (.dK (ks.zip vs))) qq (.dK [])) a = some u := All.new hq a u up
      exact s3.keep a u (s2.keep a u u2 (g.imp (fun t => t.1) id)) (g.imp (fun t w => t.1 (s2.sub a w)) id)
    · subst up
      rcases g with g | g
      · exact absurd rfl g.2
      · rw [hp1] at h; cases h; exact g.elim
  have dm1 : ∀ a, H1 a ≠ none → H3 a ≠ none := fun a h => by
    refine s3.dom a (s2.dom a ?_)
    by_cases t : a = qq
    · rw [t, upd_same]; exact Option.some_ne_none _
    · rw [upd_ne t]
      by_cases t2 : a = p
      · rw [t2, upd_same]; exact Option.some_ne_none _
      · rw [upd_ne t2]; exact h
  have dmE : ∀ a, H3 a ≠ none → (upd (upd H3 qq (.dK [(ky, z)])) p (.dK ((putKs ks ky).zip (putDs ks vs ky z)))) a ≠ none := fun a h => by
    by_cases t : a = p
    · rw [t, upd_same]; exact Option.some_ne_none _
    · rw [upd_ne t]
      by_cases t2 : a = qq
      · rw [t2, upd_same]; exact Option.some_ne_none _
      · rw [upd_ne t2]; exact h
  have hne0 : ∀ {a : Addr}, H a ≠ none → a ≠ p := fun h t => h (t ▸ hp)
  have hne1 : ∀ {a : Addr}, H1 a ≠ none → a ≠ qq := fun {a} h t => by
    subst t
    by_cases t : a = p
    · exact hqp t
    · rw [upd_ne t] at hq; exact h hq
  have sub31 : ∀ a, mset σ ρ3 a → mset σ ρ1 a := fun a t => s2.sub a (s3.sub a t)
  have dom01 : ∀ a, H a ≠ none → H1 a ≠ none := fun a h => s1.dom a (All.dom (All.new hp) h)
  have dHs : ∀ a, H a ≠ none → (upd H p (.dK [])) a ≠ none := fun a h => All.dom (All.new hp) h
  refine fin (.ref p) _ (.nd (putKs ks ky) (putDs ks ds ky o.d) (fmin (ob ρ1 r1).f o.f)) ρ3 k8 ⟨fun a u h g => @fun n => ?_, fun a h => dmE a (dm1 a (dom01 a h)), fun a t => s1.sub a (sub31 a t)⟩ (n1.trans (n2.trans n3))
    ⟨p, putDs ks vs ky z, rfl, upd_same, e2, hp, fun t => k7.mav t pav, fun t => k.av p t hp, k7, ?_⟩ q3
  · have h1 : H1 a = some u := s1.keep a u (All.new hp a u h) g
    have g1 : ¬ mset σ ρ1 a ∨ Im u := g.imp (fun t w => t (s1.sub a w)) id
    have na : a ≠ p := hne0 (by rw [h]; exact Option.some_ne_none _)
    have nq : a ≠ qq := hne1 (by rw [h1]; exact Option.some_ne_none _)
    exact kpE a u (kp1 a u h1 (g1.imp (fun t => ⟨t, na⟩) id)) (.inl ⟨na, nq⟩)
  · have r1' : Rs K (GF (B.add p) (mset σ ρ3) H (fmin (ob ρ1 r1).f o.f)) _ ds vs :=
      (rs.mono (G' := fun a => GF (B.add p) (mset σ ρ1) (upd H p (.dK [])) (ob ρ1 r1).f a ∧ a ≠ p ∧ a ≠ qq) (kp1.weak fun a g => ⟨g.1, fun t => g.2.1 (t ▸ pav)⟩) (fun a h g => ⟨g, fun t => g.2.1 (t ▸ pav), hne1 h⟩)).mono (kpE.weak fun a g => g.2) fun a _ g => GF.minL (GF.base dHs ⟨fun t => g.1.1 (sub31 a t), g.1.2⟩)
    have r3' : R K (GF (B.add p) (mset σ ρ3) H (fmin (ob ρ1 r1).f o.f)) (upd (upd H3 qq (.dK [(ky, z)])) p (.dK ((putKs ks ky).zip (putDs ks vs ky z)))) o.d z := by
      have dd : ∀ a, H a ≠ none → H2 a ≠ none := fun a h => s2.dom a (by
        have h1 := dom01 a h
        rw [upd_ne (hne1 h1)]
        by_cases t2 : a = p
        · rw [t2, upd_same]; exact Option.some_ne_none _
        · rw [upd_ne t2]; exact h1)
      have w4 := (w3.rg k3.dom).sto eo
      exact R.mono (kpE.weak fun a g => ⟨fun t => g.2.1 (t ▸ pav2), fun t => g.2.1 (t ▸ qav)⟩) (fun a _ g => GF.minR (GF.base dd g.unadd)) w4
    exact put_rs r3' r1'
end
section
variable {X : Cx} {m k v a b : Expr} {pos : Pos} {dm dk dv da db : TD} {j : Nat}
theorem de_dnew : DE X (.Dict [] [] pos) dDNew := ⟨_, pe_dnewK, ev_dnew⟩
theorem de_dget (hr : Room j X.A) (ha : DE X a da) (hb : DE X b db) (hs : NoSl b := by intro _ _; rfl) : DE X (.Subscript a b pos) (dDGet da db) := let ⟨_, p1, e1⟩ := ha; let ⟨_, p2, e2⟩ := hb; ⟨_, pe_dget (hu_of hr) p1 p2 hs, ev_dget e1 e2⟩
theorem de_dstar (hm : DE X m dm) (hk : DE X k dk) (hv : DE X v dv) : DE X (.Dict [none, some k] [m, v] pos) (dStar dm dk dv) := let ⟨_, p1, e1⟩ := hm; let ⟨_, p2, e2⟩ := hk; let ⟨_, p3, e3⟩ := hv; ⟨_, pe_star p1 p2 p3, ev_star e1 e2 e3⟩
end
end DL

namespace DL
open PySem L2
variable [Tabs]
/-! ### isinstance(x, T), T a built-in type -/
def tyN : D → String
  | .non => "NoneType"
  | .bl _ => "bool"
  | .int _ => "int"
  | .str _ => "str"
  | .tup _ => "tuple"
  | .lst _ => "list"
  | .fz _ => "list"
  | .dic _ _ => "dict"
  | .dit _ _ => "dict"
  | .un _ => "list"
  | .tux _ => "tuple"
  | .tk _ => "tuple"
  | .obj _ => ""
  | .clo _ _ => ""
def isObj : D → Bool
  | .obj _ => true
  | .clo _ _ => true
  | _ => false
theorem isObj_ty {d : D} (h : isObj d = true) : tyN d = "" := by cases d <;> first | rfl | cases h
def dIsi (T : String) (d : TD) : TD := fun ρ Q => d ρ fun r ρ1 => ∃ b, kitB (tyN (ob ρ1 r).d) T = some b ∧ Q (.v (.bl b) .n) ρ1
section
variable {K : PySem.W.Frag} {G : Addr → Prop} {H : Hp}
theorem ro_ty {d : D} {v : V} (h : RO K G H d v) (n : isObj d = false) : TyX K H v (.type (tyN d)) := by
  cases d with
  | non => cases h.non; exact .base .non
  | bl b => cases h.bl; exact .base (.bl b)
  | int i => cases h.int; exact .base (.int i)
  | str s => cases h.str; exact .base (.str s)
  | tup ds =>
    obtain ⟨a, vs, rfl, hs, _⟩ := h.tup
    rcases hs with (hs | ⟨o, hs⟩) | ⟨o, its, n, h1, h2, _⟩
    · exact .base (.tup hs)
    · exact .fTuple hs
    · exact .kTuple h1 h2
  | lst ds => obtain ⟨a, vs, rfl, hs, _⟩ := h; exact .base (.lst hs)
  | fz ds =>
    obtain ⟨a, vs, rfl, hs, _⟩ := h.fz
    rcases hs with ⟨o, hs⟩ | ((hs | ⟨o, hs⟩) | ⟨o, its, n, h1, h2, _⟩)
    · exact .base (.frz hs)
    · cases hs
    · cases hs
    · exact .kList h1 h2
  | dic ks ds => obtain ⟨a, vs, rfl, hs, _⟩ := h; exact .base (.dK hs)
  | dit ks ds => obtain ⟨a, vs, rfl, hs, _⟩ := h; exact .base (.dT hs)
  | tux ds => unfold RO R at h; obtain ⟨a, vs, o, rfl, hs, _⟩ := h; exact .fTuple hs
  | un n => unfold RO R at h; obtain ⟨a, vs, rfl, hs, _⟩ := h; exact .base (.lst hs)
  | tk ks => unfold RO R at h; obtain ⟨a, rfl, hs⟩ := h; exact .base (.tup hs)
  | obj φ => cases n
  | clo H0 φ => cases n
end
theorem de_isi {X : Cx} {e : Expr} {T : String} {x : Str} {d : TD} {p p2 pos : Pos} (hm : X.mg "isinstance" = none) (hmt : X.mg x = none) (hv : bootBuiltins x = some (.type T)) (he : DE X e d) (hg : Gl X "isinstance" := by rfl) (hgt : Gl X x := by rfl) (hn : x ≠ "__name__" := by decide) (hd : (x == ("__debug__" : Str)) = false := by decide)
    (h1 : starEach [e, .Name x p2] X.env = (false, eval e X.env) :: starEach [.Name x p2] X.env := by rfl) (h2 : starEach [.Name x p2] X.env = (false, eval (.Name x p2) X.env) :: starEach [] X.env := by rfl) (hpl : (backTo pos (starEach [.Name x p2] X.env)).any (·.1) = false := by rfl) (hT : kitB "" T = none := by decide +kernel) :
    DE X (.Call (.Name "isinstance" p) [e, .Name x p2] [] pos) (dIsi T d) := by
  obtain ⟨_, pe, ev⟩ := he
  refine ⟨_, pe_callB call_isi hg hm (by decide +kernel) (pa_cons pe (pa_cons (pe_bltn (v := .ty T) hgt hmt hv rfl hn hd) pa_nil h2) h1) (by decide) (by decide) h1 hpl, fun B σ H ρ Q Q' k q fin => ?_⟩
  exact ev B σ H ρ _ _ k q fun v H1 r ρ1 k1 s1 n1 e1 ⟨b, eb, q1⟩ => ⟨v, .ty T, _, .type T, b, rfl, .ty T, ro_ty (obR k1 k.dom e1) (by
    cases z : isObj (ob ρ1 r).d with
    | false => rfl
    | true => rw [isObj_ty z, hT] at eb; cases eb), kit_ty eb, fin (.bl b) H1 (.v (.bl b) .n) ρ1 k1 s1 n1 rel_b q1⟩
def dNeg (d : TD) : TD := fun ρ Q => d ρ fun r ρ1 => ∃ i, (ob ρ1 r).d = .int i ∧ Q (.v (.int (-i)) .n) ρ1
theorem de_neg {X : Cx} {a : Expr} {d : TD} {pos : Pos} (h : DE X a d) : DE X (.UnaryOp .USub a pos) (dNeg d) :=
  let ⟨_, p, ev⟩ := h; ⟨_, pe_un un_neg p, fun B σ H ρ Q Q' k q fin => ev B σ H ρ _ _ k q fun v H1 r ρ1 k1 s1 n1 e1 ⟨i, ei, q1⟩ => by
    have ro := obR k1 k.dom e1
    rw [ei] at ro
    exact ⟨i, ro.int, fin _ H1 (.v (.int (-i)) .n) ρ1 k1 s1 n1 rel_i q1⟩⟩
end DL

namespace DL
open PySem L2
variable [Tabs]
/-! ### what holds behind a statement, said once -/
def dCut (t : TSD) : TSD := fun E ρ => ∃ I : En → Prop, t { E with nx := I } ρ ∧ ∀ ρ', I ρ' → E.nx ρ'
theorem evs_cut {K : PySem.W.Frag} {ts : TS} {t : TSD} (h : EvS K ts t) : EvS K ts (dCut t) := fun B σ H ρ E D' k ⟨I, q, i⟩ l =>
  h B σ H ρ { E with nx := I } D' k q ⟨fun σ' H' ρ' k' s' q' => l.nx σ' H' ρ' k' s' (i ρ' q'), l.rt, l.bk, l.ct⟩
theorem ds_cut {X : Cx} {st : Stmt} {t : TSD} (h : DS X st t) : DS X st (dCut t) := let ⟨_, p, ev⟩ := h; ⟨_, p, evs_cut ev⟩
end DL

namespace DL
open PySem L2
variable [Tabs]
/-! ### a new base: what is known here was there ahead of what follows, up to the def's return -/
def rbS : Sl → Sl
  | .no => .no
  | .val d .z => .val d .z
  | .val d _ => .val d .p
  | .ml ds _ => .val (.lst ds) .p
  | .mp _ ds => .val (.lst ds) .p
  | .md ks ds _ => .val (.dic ks ds) .p
  | .mt ks ds _ => .val (.dit ks ds) .p
theorem rbS_isM (s : Sl) : (rbS s).isM = false := by
  cases s with
  | val d f => cases f <;> rfl
  | _ => rfl
def dReb (t : TSD) : TSD := fun E ρ => t ⟨fun _ => False, fun d ρ' => nol d = true ∧ E.rt d (List.replicate ρ'.length .no), fun _ => False, fun _ => False⟩ (ρ.map rbS)
section
variable {K : PySem.W.Frag} {B : Bx} {H H1 : Hp} {σ σ1 : L2.St} {ρ ρ1 : En}
theorem Ok.reb (k : Ok K B H σ ρ) : Ok K ⟨H, [], []⟩ H σ (ρ.map rbS) := by
  have at_ : ∀ {i : Nat} {s : Sl}, (ρ.map rbS)[i]? = some s → ∃ s0, ρ[i]? = some s0 ∧ s = rbS s0 := fun {i s} e => by
    rw [List.getElem?_map] at e
    cases q : ρ[i]? with
    | none => rw [q] at e; cases e
    | some s0 => rw [q] at e; exact ⟨s0, rfl, (Option.some.inj e).symm⟩
  have nm : ∀ a, ¬ mset σ (ρ.map rbS) a := fun a ⟨i, s, e, m, _⟩ => by
    obtain ⟨s0, _, rfl⟩ := at_ e
    rw [rbS_isM] at m; cases m
  have g : ∀ a, H a ≠ none → GF ⟨H, [], []⟩ (mset σ (ρ.map rbS)) H .p a := fun a h => ⟨nm a, by simp, h, fun z => by cases z⟩
  refine ⟨by rw [List.length_map]; exact k.len, fun _ h => h, fun a h => absurd h (by simp), fun _ _ h _ => h, fun i s e => ?_, fun i j s t a e1 m1 _ _ _ _ => ?_, k.tb⟩
  · obtain ⟨s0, e0, rfl⟩ := at_ e
    have q := k.sl i s0 e0
    cases s0 with
    | no => exact True.intro
    | val d f =>
      obtain ⟨v, e1, e2⟩ := q
      have go : R K (GF ⟨H, [], []⟩ (mset σ (ρ.map rbS)) H .p) H d v := e2.mono Keep.refl fun a ha _ => g a ha
      cases f with
      | z => exact ⟨v, e1, e2.mono Keep.refl fun a _ g => g.2.2.1.elim⟩
      | _ => exact ⟨v, e1, go⟩
    | ml ds f =>
      obtain ⟨p, vs, e1, e2, e3, _⟩ := q
      refine ⟨.ref p, e1, ?_⟩
      unfold R
      exact ⟨p, vs, rfl, e2, g p (by rw [e2]; exact Option.some_ne_none _), e3.mono Keep.refl fun a ha _ => g a ha⟩
    | mp n ds =>
      obtain ⟨p, vs, e1, e2, e3, _⟩ := q
      refine ⟨.ref p, e1, ?_⟩
      unfold R
      exact ⟨p, vs, rfl, e2, g p (by rw [e2]; exact Option.some_ne_none _), e3.mono Keep.refl fun a ha _ => g a ha⟩
    | md ks ds f =>
      obtain ⟨p, vs, e1, e2, l, e3, _⟩ := q
      refine ⟨.ref p, e1, ?_⟩
      unfold R
      exact ⟨p, vs, rfl, e2, l, g p (by rw [e2]; exact Option.some_ne_none _), e3.mono Keep.refl fun a ha _ => g a ha⟩
    | mt ks ds f =>
      obtain ⟨p, vs, e1, e2, l, e3, _⟩ := q
      refine ⟨.ref p, e1, ?_⟩
      unfold R
      exact ⟨p, vs, rfl, e2, l, g p (by rw [e2]; exact Option.some_ne_none _), e3.mono Keep.refl fun a ha _ => g a ha⟩
  · obtain ⟨s0, _, rfl⟩ := at_ e1
    rw [rbS_isM] at m1; cases m1
/-- nothing is known of the slots -/
theorem Ok.none {B0 : Bx} (k : Ok K B H σ ρ) (k1 : Ok K B0 H1 σ1 ρ1) (h0 : B0 = ⟨H, [], []⟩) : Ok K B H1 σ1 (List.replicate ρ1.length .no) := by
  subst h0
  have no_ : ∀ {i : Nat} {s : Sl}, (List.replicate ρ1.length Sl.no)[i]? = some s → s = .no := fun {i s} e => List.eq_of_mem_replicate (List.mem_of_getElem? e)
  refine ⟨by rw [List.length_replicate]; exact k1.len, fun a h => k1.dom a (k.dom a h), fun a h => k1.dom a (k.av a h), fun a o h q => k1.ext a o (k.ext a o h q) (by simp), fun i s e => ?_, fun i j s t a e1 m1 _ _ _ _ => ?_, k1.tb⟩
  · rw [no_ e]; exact True.intro
  · rw [no_ e1] at m1; cases m1
theorem evs_reb {ts : TS} {t : TSD} (h : EvS K ts t) : EvS K ts (dReb t) := fun B σ H ρ E D' k q l =>
  h ⟨H, [], []⟩ σ H (ρ.map rbS) _ D' k.reb q ⟨fun _ _ _ _ _ z => z.elim, fun v H' σ' ρ' d k' r ⟨hn, q'⟩ => l.rt v H' σ' _ d (k.none k' rfl) (R.nol hn r) q', fun _ _ _ _ _ z => z.elim, fun _ _ _ _ _ z => z.elim⟩
end
theorem dss_reb {X : Cx} {st : List Stmt} {t : TSD} (h : DSs X st t) : DSs X st (dReb t) := let ⟨_, p, ev⟩ := h; ⟨_, p, evs_reb ev⟩

/-! ### a list inside a new thing is changed; what follows ends in a return -/
def safeS : Sl → Bool
  | .no => true
  | .val d f => f == .p || f == .z || nol d
  | .ml ds f => f == .p || f == .z || nols ds
  | .mp _ _ => true
  | .md _ ds f => f == .p || f == .z || nols ds
  | .mt _ ds f => f == .p || f == .z || nols ds
mutual
/-- behind an append to a list in it, one knows not which -/
def mutD : D → D
  | .tup ds => .tup (mutDs ds)
  | .tux ds => .tux (mutDs ds)
  | .tk ks => .tk ks
  | .obj φ => .obj φ
  | .clo _ φ => .obj φ
  | .lst ds => .un (ds.length + 1)
  | .un n => .un (n + 1)
  | .fz ds => .fz (mutDs ds)
  | .dic ks ds => .dic ks (mutDs ds)
  | .dit ks ds => .dit ks (mutDs ds)
  | .non => .non
  | .bl b => .bl b
  | .int i => .int i
  | .str s => .str s
def mutDs : List D → List D
  | [] => []
  | d :: ds => mutD d :: mutDs ds
end
mutual
theorem R.mut {K : PySem.W.Frag} {G : Addr → Prop} {H : Hp} {a : Addr} {vs : List V} {y : V} (ha : H a = some (.lst vs)) : ∀ {d : D} {v : V}, R K G H d v → R K G (L2.upd H a (.lst (vs ++ [y]))) (mutD d) v
  | .non, _, h => by unfold mutD; unfold R at h ⊢; exact h
  | .bl _, _, h => by unfold mutD; unfold R at h ⊢; exact h
  | .int _, _, h => by unfold mutD; unfold R at h ⊢; exact h
  | .str _, _, h => by unfold mutD; unfold R at h ⊢; exact h
  | .tup _, _, h => by
    unfold mutD; unfold R at h ⊢
    obtain ⟨p, ws, e, s, r⟩ := h
    refine ⟨p, ws, e, ?_, Rs.mut ha r⟩
    exact (show Keep (fun _ => False) H (L2.upd H a (.lst (vs ++ [y]))) from fun x o q w => by
      by_cases z : x = a
      · subst z; rw [ha] at q; cases q; exact w.elim (fun t => t.elim) fun t => t.elim
      · rw [upd_ne z]; exact q).tup s
  | .tux _, _, h => by
    unfold mutD; unfold R at h ⊢
    obtain ⟨p, ws, o, e, s, c, dn, r⟩ := h
    exact ⟨p, ws, o, e, by rw [upd_ne (fun z => by rw [z, ha] at s; cases s)]; exact s, c, dn, Rs.mut ha r⟩
  | .fz _, _, h => by
    unfold mutD; unfold R at h ⊢
    obtain ⟨p, ws, e, s, r⟩ := h
    refine ⟨p, ws, e, ?_, Rs.mut ha r⟩
    exact (show Keep (fun _ => False) H (L2.upd H a (.lst (vs ++ [y]))) from fun x o q w => by
      by_cases z : x = a
      · subst z; rw [ha] at q; cases q; exact w.elim (fun t => t.elim) fun t => t.elim
      · rw [upd_ne z]; exact q).nm s
  | .lst ds, _, h => by
    unfold mutD; unfold R at h ⊢
    obtain ⟨p, ws, e, s, g, r⟩ := h
    by_cases z : p = a
    · subst z
      rw [ha] at s; cases s
      exact ⟨p, _, e, upd_same, by rw [List.length_append, r.len]; exact Nat.le_refl _, g⟩
    · exact ⟨p, ws, e, by rw [upd_ne z]; exact s, by rw [r.len]; omega, g⟩
  | .un n, _, h => by
    unfold mutD; unfold R at h ⊢
    obtain ⟨p, ws, e, s, l, g⟩ := h
    by_cases z : p = a
    · subst z
      rw [ha] at s; cases s
      exact ⟨p, _, e, upd_same, by rw [List.length_append]; show vs.length + 1 ≤ _; omega, g⟩
    · exact ⟨p, ws, e, by rw [upd_ne z]; exact s, by omega, g⟩
  | .dic ks _, _, h => by
    unfold mutD; unfold R at h ⊢
    obtain ⟨p, ws, e, s, l, g, r⟩ := h
    exact ⟨p, ws, e, by rw [upd_ne (fun z => by rw [z, ha] at s; cases s)]; exact s, l, g, Rs.mut ha r⟩
  | .dit ks _, _, h => by
    unfold mutD; unfold R at h ⊢
    obtain ⟨p, ws, e, s, l, g, r⟩ := h
    exact ⟨p, ws, e, by rw [upd_ne (fun z => by rw [z, ha] at s; cases s)]; exact s, l, g, Rs.mut ha r⟩
  | .tk _, _, h => by
    unfold mutD
    unfold R at h ⊢
    obtain ⟨b, e, s⟩ := h
    exact ⟨b, e, by rw [upd_ne (fun z => by rw [z, ha] at s; cases s)]; exact s⟩
  | .obj _, _, h => by unfold mutD; unfold R at h ⊢; exact h
  | .clo _ _, _, h => by unfold mutD; unfold R at h ⊢; exact ⟨h.1, h.2.1⟩
theorem Rs.mut {K : PySem.W.Frag} {G : Addr → Prop} {H : Hp} {a : Addr} {vs : List V} {y : V} (ha : H a = some (.lst vs)) : ∀ {ds : List D} {ws : List V}, Rs K G H ds ws → Rs K G (L2.upd H a (.lst (vs ++ [y]))) (mutDs ds) ws
  | [], _, h => by unfold mutDs; unfold Rs at h ⊢; exact h
  | _ :: _, _, h => by
    unfold mutDs; unfold Rs at h ⊢
    obtain ⟨v, r, e, h1, h2⟩ := h
    exact ⟨v, r, e, R.mut ha h1, Rs.mut ha h2⟩
end
theorem mutDs_len : ∀ ds : List D, (mutDs ds).length = ds.length
  | [] => rfl
  | _ :: ds => by unfold mutDs; rw [List.length_cons, List.length_cons, mutDs_len ds]
def mutS (s : Sl) : Sl := if safeS s = true then s else match s with
  | .no => .no
  | .val d f => .val (mutD d) f
  | .ml ds f => .ml (mutDs ds) f
  | .mp k ds => .mp k ds
  | .md ks ds f => .md ks (mutDs ds) f
  | .mt ks ds f => .mt ks (mutDs ds) f
/-- a list: how many items at most -/
def lszD : D → Nat
  | .lst ds => ds.length
  | .un n => n
  | _ => sizeLine
theorem lst_of {K : PySem.W.Frag} {G : Addr → Prop} {H : Hp} {l : D} {v : V} (h : R K G H l v) (z : lszD l < sizeLine) : ∃ a vs, v = .ref a ∧ H a = some (.lst vs) ∧ G a ∧ vs.length < sizeLine := by
  cases l with
  | lst ds => unfold R at h; obtain ⟨a, vs, e, s, g, r⟩ := h; exact ⟨a, vs, e, s, g, by rw [← r.len]; exact z⟩
  | un n => unfold R at h; obtain ⟨a, vs, e, s, l, g⟩ := h; exact ⟨a, vs, e, s, g, Nat.lt_of_le_of_lt l z⟩
  | _ => exact absurd z (Nat.lt_irrefl _)
def dMut (dx d : TD) (t : TSD) : TSD := fun E ρ => dx ρ fun r ρ1 => ∃ l f, r = .v l f ∧ (f = .h ∨ f = .n) ∧ lszD l < sizeLine ∧ d ρ1 fun r2 ρ2 => t ⟨fun _ => False, E.rt, fun _ => False, fun _ => False⟩ (ρ2.map mutS)
section
variable {K : PySem.W.Frag} {B : Bx} {H H1 : Hp} {σ σ1 : L2.St} {ρ ρ1 : En}
theorem Ok.mutated {a : Addr} {vs : List V} {y : V} (k : Ok K B H σ ρ) (ha : H a = some (.lst vs)) (hm : ¬ mset σ ρ a) (h0 : B.H0 a = Option.none) : Ok K B (L2.upd H a (.lst (vs ++ [y]))) σ (ρ.map mutS) := by
  have at_ : ∀ {i : Nat} {s : Sl}, (ρ.map mutS)[i]? = some s → ∃ s0, ρ[i]? = some s0 ∧ mutS s0 = s := fun {i s} e => by
    rw [List.getElem?_map] at e
    cases q : ρ[i]? with
    | none => rw [q] at e; cases e
    | some s0 => rw [q] at e; exact ⟨s0, rfl, Option.some.inj e⟩
  have isM : ∀ s : Sl, (mutS s).isM = s.isM := fun s => by
    unfold mutS
    by_cases z : safeS s = true
    · rw [if_pos z]
    · rw [if_neg z]; cases s <;> rfl
  have sub : ∀ x, mset σ (ρ.map mutS) x → mset σ ρ x := fun x ⟨i, s, e, m, z⟩ => by
    obtain ⟨s0, e1, rfl⟩ := at_ e
    exact ⟨i, s0, e1, by rw [← isM]; exact m, z⟩
  have kp : Keep (fun x => x ≠ a) H (L2.upd H a (.lst (vs ++ [y]))) := fun x o h q => by
    by_cases z : x = a
    · subst z
      rcases q with q | q
      · exact absurd rfl q
      · rw [ha] at h; cases h; exact q.elim
    · rw [upd_ne z]; exact h
  have dm : ∀ x, H x ≠ Option.none → L2.upd H a (.lst (vs ++ [y])) x ≠ Option.none := fun x h => by
    by_cases z : x = a
    · subst z; rw [upd_same]; exact Option.some_ne_none _
    · rw [upd_ne z]; exact h
  have gp : ∀ x, GF B (mset σ ρ) B.H0 .p x → x ≠ a := fun x g z => g.2.2.1 (z ▸ h0)
  have rv : ∀ {d : D} {f : Fr} {v : V}, (f == .p || f == .z || nol d) = true → R K (GF B (mset σ ρ) B.H0 f) H d v → R K (GF B (mset σ (ρ.map mutS)) B.H0 f) (L2.upd H a (.lst (vs ++ [y]))) d v := fun {d f v} hs r => by
    rw [Bool.or_eq_true, Bool.or_eq_true] at hs
    rcases hs with (hs | hs) | hs
    · have hs : f = .p := by simpa using hs
      subst hs
      exact r.mono (kp.weak gp) fun x _ g => ⟨fun z => g.1 (sub x z), g.2⟩
    · have hs : f = .z := by simpa using hs
      subst hs
      exact r.mono (kp.weak fun x g => g.2.2.1.elim) fun x _ g => g.2.2.1.elim
    · exact R.nol (G := fun _ => False) hs ((R.nol (G' := fun _ => False) hs r).mono (kp.weak fun x g => g.elim) fun x _ g => g)
  have rvs : ∀ {ds : List D} {f : Fr} {vs' : List V}, (f == .p || f == .z || nols ds) = true → Rs K (GF B (mset σ ρ) B.H0 f) H ds vs' → Rs K (GF B (mset σ (ρ.map mutS)) B.H0 f) (L2.upd H a (.lst (vs ++ [y]))) ds vs' := fun {ds f vs'} hs r => by
    rw [Bool.or_eq_true, Bool.or_eq_true] at hs
    rcases hs with (hs | hs) | hs
    · have hs : f = .p := by simpa using hs
      subst hs
      exact r.mono (kp.weak gp) fun x _ g => ⟨fun z => g.1 (sub x z), g.2⟩
    · have hs : f = .z := by simpa using hs
      subst hs
      exact r.mono (kp.weak fun x g => g.2.2.1.elim) fun x _ g => g.2.2.1.elim
    · exact Rs.nol (G := fun _ => False) hs ((Rs.nol (G' := fun _ => False) hs r).mono (kp.weak fun x g => g.elim) fun x _ g => g)
  have gm : ∀ {f : Fr} (x : Addr), GF B (mset σ ρ) B.H0 f x → GF B (mset σ (ρ.map mutS)) B.H0 f x := fun {f} x g => ⟨fun z => g.1 (sub x z), g.2⟩
  have rm : ∀ {d : D} {f : Fr} {v : V}, R K (GF B (mset σ ρ) B.H0 f) H d v → R K (GF B (mset σ (ρ.map mutS)) B.H0 f) (L2.upd H a (.lst (vs ++ [y]))) (mutD d) v := fun {d f v} r => (R.mut ha r).mono Keep.refl fun x _ g => gm x g
  have rms : ∀ {ds : List D} {f : Fr} {vs' : List V}, Rs K (GF B (mset σ ρ) B.H0 f) H ds vs' → Rs K (GF B (mset σ (ρ.map mutS)) B.H0 f) (L2.upd H a (.lst (vs ++ [y]))) (mutDs ds) vs' := fun {ds f vs'} r => (Rs.mut ha r).mono Keep.refl fun x _ g => gm x g
  refine ⟨by rw [List.length_map]; exact k.len, fun x h => dm x (k.dom x h), fun x h => dm x (k.av x h), fun x o h q => by rw [upd_ne (fun z => by rw [z, h0] at h; cases h)]; exact k.ext x o h q, fun i s e => ?_, fun i j s t x e1 m1 e2 m2 z1 z2 => ?_, tb_upd ha (fun z => z) k.tb⟩
  · obtain ⟨s0, e1, rfl⟩ := at_ e
    have q := k.sl i s0 e1
    unfold mutS
    by_cases hs : safeS s0 = true
    · rw [if_pos hs]
      cases s0 with
      | no => exact True.intro
      | val d f => obtain ⟨v, q1, q2⟩ := q; exact ⟨v, q1, rv hs q2⟩
      | ml ds f =>
        obtain ⟨p, ws, q1, q2, q3, q4⟩ := q
        exact ⟨p, ws, q1, by rw [upd_ne (show p ≠ a by intro z; subst z; exact hm ⟨i, _, e1, rfl, q1⟩)]; exact q2, rvs hs q3, q4⟩
      | mp n ds =>
        obtain ⟨p, ws, q1, q2, q3, q4⟩ := q
        exact ⟨p, ws, q1, by rw [upd_ne (show p ≠ a by intro z; subst z; exact hm ⟨i, _, e1, rfl, q1⟩)]; exact q2, q3.mono (kp.weak fun x g => g.elim) fun x _ g => g, q4⟩
      | md ks ds f =>
        obtain ⟨p, ws, q1, q2, l, q3, q4⟩ := q
        exact ⟨p, ws, q1, by rw [upd_ne (show p ≠ a by intro z; subst z; exact hm ⟨i, _, e1, rfl, q1⟩)]; exact q2, l, rvs hs q3, q4⟩
      | mt ks ds f =>
        obtain ⟨p, ws, q1, q2, l, q3, q4⟩ := q
        exact ⟨p, ws, q1, by rw [upd_ne (show p ≠ a by intro z; subst z; exact hm ⟨i, _, e1, rfl, q1⟩)]; exact q2, l, rvs hs q3, q4⟩
    · rw [if_neg hs]
      cases s0 with
      | no => exact absurd rfl hs
      | mp n ds => exact absurd rfl hs
      | val d f => obtain ⟨v, q1, q2⟩ := q; exact ⟨v, q1, rm q2⟩
      | ml ds f =>
        obtain ⟨p, ws, q1, q2, q3, q4⟩ := q
        exact ⟨p, ws, q1, by rw [upd_ne (show p ≠ a by intro z; subst z; exact hm ⟨i, _, e1, rfl, q1⟩)]; exact q2, rms q3, q4⟩
      | md ks ds f =>
        obtain ⟨p, ws, q1, q2, l, q3, q4⟩ := q
        exact ⟨p, ws, q1, by rw [upd_ne (show p ≠ a by intro z; subst z; exact hm ⟨i, _, e1, rfl, q1⟩)]; exact q2, l, rms q3, q4⟩
      | mt ks ds f =>
        obtain ⟨p, ws, q1, q2, l, q3, q4⟩ := q
        exact ⟨p, ws, q1, by rw [upd_ne (show p ≠ a by intro z; subst z; exact hm ⟨i, _, e1, rfl, q1⟩)]; exact q2, l, rms q3, q4⟩
  · obtain ⟨t1, a1, rfl⟩ := at_ e1
    obtain ⟨t2, a2, rfl⟩ := at_ e2
    rw [isM] at m1 m2
    exact k.inj i j t1 t2 x a1 m1 a2 m2 z1 z2
theorem evs_mut {to te : TE} {dx d : TD} {ts : TS} {t : TSD} (hx : Ev1 K to dx) (he : Ev1 K te d) (ht : EvS K ts t) : EvS K (tSeq (tDrop (tBM K "list" rAppend to (tCons te tNil))) ts) (dMut dx d t) := fun B σ H ρ E D' k q l => by
  refine (?_ : tDrop (tBM K "list" rAppend to (tCons te tNil)) _ σ H)
  refine hx B σ H ρ _ _ k q fun x H1 r ρ1 k1 s1 n1 w1 ⟨ll, f, er, hf, hz, q1⟩ => ?_
  subst er
  have w1 : R K (GF B (mset σ ρ1) H f) H1 ll x := w1
  obtain ⟨a, vs, rfl, ha, ga, hz⟩ := lst_of w1 hz
  have h0 : B.H0 a = Option.none := by
    have := ga.2.2.1
    rcases hf with rfl | rfl <;> exact this
  refine ⟨.inl ⟨rfl, vs, SqL.of ha⟩, he B σ H1 ρ1 _ _ k1 q1 fun y H2 r2 ρ2 k2 s2 n2 w2 q2 => ?_⟩
  have ha2 : H2 a = some (.lst vs) := s2.keep a _ ha (.inl ga.1)
  refine ⟨a, vs, y, rfl, rfl, ha2, hz, ?_⟩
  exact ht B σ _ _ _ _ (k2.mutated ha2 (fun z => ga.1 (s2.sub a z)) h0) q2 ⟨fun _ _ _ _ _ z => z.elim, l.rt, fun _ _ _ _ _ z => z.elim, fun _ _ _ _ _ z => z.elim⟩
end
section
variable {X : Cx} {o e : Expr} {dx d : TD} {t : TSD} {rest : List Stmt} {pos pos' apos : Pos}
theorem dss_mut (ho : DE X o dx) (he : DE X e d) (hr : DSs X rest t)
    (hpe : ∀ {to : TE} {ta : TA}, PE X o to → PA X [e] ta → PE X (.Call (.Attribute o "append" apos) [e] [] pos) (tBM X.K "list" rAppend to ta) := by intro _ _ h1 h2; exact pe_bm PySem.F.plainAttrs_list PySem.F.slot_list_append PySem.F.type_list_append mt_append h1 h2)
    (hs1 : starEach [e] X.env = (false, eval e X.env) :: starEach [] X.env := by rfl) (hs : swapsWith (.Call (.Attribute o "append" apos) [e] [] pos) none pos'.line X.env = pure false := by rfl) :
    DSs X (.Expr (.Call (.Attribute o "append" apos) [e] [] pos) pos' :: rest) (dMut dx d t) :=
  let ⟨_, p1, e1⟩ := ho; let ⟨_, p2, e2⟩ := he; let ⟨_, p3, e3⟩ := hr; ⟨_, pss_cons (ps_expr (hpe p1 (pa_cons p2 pa_nil hs1)) hs) p3, evs_mut e1 e2 e3⟩
end
end DL

namespace DL
open PySem L2 PySem.Spec PyProof.Rows
variable [Tabs]
/-! ### tuple(x), told that it is a plain object; .index -/
theorem hu65 {k : Nat} {A : Around} (hr : Room k A) : A.units + 65 < cLine := by
  have := hr.un
  omega
section
variable {X : Cx}
def rTupX (K : PySem.W.Frag) : List V → Hp → VK → Prop := fun xs H Q => ∃ p ys, xs = [.ref p] ∧ SqL K H p ys ∧ ∀ l o, H l = none → o.cls = .type "tuple" → o.dict = none → Q (.ref l) (L2.upd H l (.frz o (.tup ys)))
theorem call_tupleX : CallR X (.type "tuple") (rTupX X.K) := by
  intro pins s σ H xs us Q I r h
  obtain ⟨p, ys, rfl, hq, q⟩ := h
  obtain ⟨u, rfl, rx⟩ := vals1 r
  cases rx
  obtain ⟨its, r', pl, hz⟩ := I.list hq
  have hlen := r'.length
  refine call_tuple_list pl.isList (fun h' kp => ?_) (by simp only [List.size_toArray] <;> omega)
  have I1 : Inv X pins σ H { s with heap := h' } := I.kept (t' := s.toks) kp
  have I2 : Inv X pins σ (L2.upd H h'.objs.size (.frz { cls := .type "tuple", data := .seq its.toArray } (.tup ys))) { s with heap := h'.push { cls := .type "tuple", data := .seq its.toArray } } :=
    I1.laid (t' := s.toks) (fun b o e => Heap.get?_push_of_some _ e) (Nat.le_refl _) (show ObjOk X.prog X.w _ _ _ (.frz _ (.tup ys)) from ⟨Heap.get?_push_size _ rfl, hz, its, r', IsTup.new _ _⟩)
  exact ⟨.ref h'.objs.size, _, I2, rfl, q _ _ (I1.hok.fresh (Nat.le_refl _)) rfl rfl⟩
def pTupleX : OpN := fun os k => match os with
  | [o] => ∃ ds, (o.d = .lst ds ∨ o.d = .fz ds) ∧ k (.v (.tux ds) o.f)
  | _ => False
theorem calls_tupleX {K : PySem.W.Frag} : CallS K (rTupX K) pTupleX := by
  intro B σ Hs H ρ xs os k Q' ok hd ro h fin
  unfold pTupleX at h
  split at h
  · rename_i ob1
    obtain ⟨v, rfl, rv⟩ := ro.one
    obtain ⟨ds, e, h⟩ := h
    have hh : ∃ a vs, v = .ref a ∧ SqL K H a vs ∧ Rs K (GF B (mset σ ρ) Hs ob1.f) H ds vs := by
      rcases e with e | e
      · rw [e] at rv
        obtain ⟨a, vs, rfl, hs, r⟩ := rv
        exact ⟨a, vs, rfl, SqL.of hs, r⟩
      · rw [e] at rv
        obtain ⟨a, vs, rfl, hs, r⟩ := rv.fz
        exact ⟨a, vs, rfl, hs.seq, r⟩
    obtain ⟨p, vs, rfl, hs, r⟩ := hh
    refine ⟨p, vs, rfl, hs, fun l o hl hc hdn => ?_⟩
    refine fin _ _ (.v (.tux ds) _) (ok.all (All.new hl)) (All.new hl).step ?_ h
    show R K _ _ (.tux ds) (.ref l)
    unfold R
    exact ⟨l, vs, o, rfl, upd_same, hc, hdn, r.all (All.new hl)⟩
  · exact h.elim
/-- t.index(x), the items of any depth -/
def rIndexT (K : PySem.W.Frag) : V → List V → Hp → VK → Prop := fun x xs H Q => ∃ (a : Addr) (y : V) (d : PyData) (ds : List PyData) (j : Nat) (z : PyData), x = V.ref a ∧ xs = [y] ∧ Dp K H (V.ref a) (.tuple ds) ∧ Dp K H y d ∧
  SeqAt.shaped (.list ds) = true ∧ SeqAt.shaped d = true ∧ ds[j]? = some z ∧ PyData.eqv z d = true ∧ (∀ (m : Nat) (z' : PyData), m < j → ds[m]? = some z' → PyData.eqv z' d = false) ∧ Q (.int (j : Nat)) H
theorem mt_indexT (hu : X.A.units + 65 < cLine) : MtR X "tuple.index" (rIndexT X.K) := by
  intro pins s σ H x xs v us Q I rx rxs h
  obtain ⟨a, y, d, ds, j, z, rfl, rfl, hl, hy, sl, sd, hz, hzj, hno, q⟩ := h
  cases rx
  obtain ⟨uy, rfl, ry⟩ := Vals.one rxs
  obtain ⟨bs, r1⟩ := Dp.reads I d y uy hy ry
  have hxs : PyData.canLayAll0 ds = true := SeqAt.canLay_of_shaped sl
  have hroom : X.A.units + 1 + min (PyData.depthAll ds) d.depth < cLine := room_in_shaped sd hu
  cases hl with
  | tup hs ha =>
    obtain ⟨its, rv, pl, hlen⟩ := I.tuple hs
    obtain ⟨⟨cls, dd, dt, sls⟩, ho, hc, n, hdt⟩ := pl
    simp only at hc hdt
    subst hc hdt
    obtain ⟨as, h4⟩ := Dp.readsAll I ds _ its ha rv
    have hn : its.length = ds.length := SeqAt.ReadsAll.length ds its as h4
    have hmap : its.map (SeqAt.readOf s.heap) = ds := SeqAt.readsAll_map ds its as hxs h4
    obtain ⟨hjd, _⟩ := List.getElem?_eq_some_iff.mp hz
    have hjl : j < its.length := by omega
    have hj : j < its.toArray.size := by simpa using hjl
    have at_ : ∀ (m : Nat) (hm : m < its.toArray.size) (z' : PyData), ds[m]? = some z' → SeqAt.readOf s.heap its.toArray[m] = z' := by
      intro m hm z' hz'
      have hml : m < its.length := by simpa using hm
      rw [← hmap, List.getElem?_map, List.getElem?_eq_getElem hml] at hz'
      have e1 : SeqAt.readOf s.heap its[m] = z' := Option.some.inj (show some (SeqAt.readOf s.heap its[m]) = some z' from hz')
      simpa using e1
    refine call_meets PySem.F.slot_tuple_index ⟨_, ho, rfl⟩ PySem.F.entry_tuple_index (PySem.F.args_tuple_index_2 _ _)
      (TI.tuple_indexAt a its.toArray n dd sls uy (fun u => PyData.eqv (SeqAt.readOf s.heap u) d) j hj ?_ ?_) ⟨ho, SeqAt.items_eqAt (vs := its.toArray) (show ReadsAll s.heap its.toArray.toList ds as from h4) r1 hxs (SeqAt.canLay_of_shaped sd) hroom, ?_⟩
    · show PyData.eqv (SeqAt.readOf s.heap its.toArray[j]) d = true
      rw [at_ j hj z hz]
      exact hzj
    · intro m hm hmj
      have hmd : m < ds.length := by omega
      have hz' : ds[m]? = some ds[m] := List.getElem?_eq_getElem hmd
      show PyData.eqv (SeqAt.readOf s.heap its.toArray[m]) d = false
      rw [at_ m hm _ hz']
      exact hno m _ hmj hz'
    · exact ⟨.int (j : Nat), H, I.tok _, ⟨_, rfl⟩, q⟩
/-- a method of a plain tuple -/
def tBT (r : V → List V → Hp → VK → Prop) (to : TE) (t : TA) : TE := fun σ H Q => to σ H fun x H1 => (∃ a o vs, x = .ref a ∧ H1 a = some (.frz o (.tup vs)) ∧ o.cls = .type "tuple" ∧ o.dict = none) ∧ t σ H1 fun xs H2 => r x xs H2 Q
variable {o e : Expr} {es : List Expr} {to : TE} {t : TA} {name : Str} {apos cpos : Pos} {id : String} {r : V → List V → Hp → VK → Prop}
theorem pe_bt (slot : Slot "tuple" name id) (hty : typeOf (.builtin id) = pure (.type "method_descriptor")) (hm : MtR X id r) (ho : PE X o to) (ha : PA X (e :: es) t)
    (hbase : attributeBase o name X.env (eval o X.env) = eval o X.env := by rfl)
    (hfew : ((backTo cpos (starEach (e :: es) X.env)).all (fun x => !x.1) && (backToKw cpos (keywordEach [] X.env)).all (fun x => x.1.isSome)
      && decide ((e :: es).length + ([] : List Keyword).length + (if ([] : List Keyword).isEmpty then 0 else 1) < 30)) = true := by rfl)
    (hline : (apos.endLine == cpos.line) = true := by rfl) (hs : starEach (e :: es) X.env = (false, eval e X.env) :: starEach es X.env := by rfl) (hplain : (backTo cpos (starEach es X.env)).any (·.1) = false := by rfl) :
    PE X (.Call (.Attribute o name apos) (e :: es) [] cpos) (tBT r to t) := by
  refine ⟨fun pins s σ H Q I h => ?_⟩
  refine wpAny_Call_method_late hbase hfew hline rfl (thn (ho.run pins s σ H _ I h) fun v s1 ⟨x, H1, I1, r1, ⟨a, ob, vs, ex, hb, hc, hd⟩, q1⟩ => ?_)
  subst ex
  have r1' := r1
  obtain rfl : v = .ref a := r1
  obtain ⟨hg, _⟩ := I1.hok a _ hb
  refine ⟨"tuple", id, PySem.F.plainAttrs_tuple, slot, hty, ⟨ob, hg, hc⟩, fun a' e => (by cases e; exact ⟨ob, hg, hd⟩), ?_⟩
  have hA := ha.run cpos pins s1 σ H1 _ I1 q1
  rw [hs] at hA ⊢
  refine Calls.callWith_builtin (by show (false || (backTo cpos (starEach es X.env)).any (·.1)) = false; rw [hplain] <;> rfl) (Calls.evalArgs_plain ?_)
  exact thn hA fun us s2 ⟨vs, H2, I2, r2, q2⟩ => hm pins s2 σ H2 _ vs _ us Q I2 r1' r2 q2
end
/-- the first place of an equal one -/
def firstAt (ds : List D) (x : D) (j : Nat) : Prop := ∃ z, ds[j]? = some z ∧ eqD z x = true ∧ ∀ (m : Nat) (z' : D), m < j → ds[m]? = some z' → eqD z' x = false
def dIdxT (d t : TD) : TD := fun ρ Q => d ρ fun r ρ1 => (∃ ds, (ob ρ1 r).d = .tux ds) ∧ t ρ1 fun r2 ρ2 => ∃ ds j, (ob ρ2 r).d = .tux ds ∧ cmpOk (.lst ds) = true ∧ cmpOk (ob ρ2 r2).d = true ∧ firstAt ds (ob ρ2 r2).d j ∧ Q (.v (.int (j : Nat)) .n) ρ2
def dIdxL (d t : TD) : TD := fun ρ Q => d ρ fun r ρ1 => (∃ ds, (ob ρ1 r).d = .lst ds ∨ (ob ρ1 r).d = .fz ds) ∧ t ρ1 fun r2 ρ2 => ∃ ds j, ((ob ρ2 r).d = .lst ds ∨ (ob ρ2 r).d = .fz ds) ∧ cmpOk (.lst ds) = true ∧ cmpOk (ob ρ2 r2).d = true ∧ firstAt ds (ob ρ2 r2).d j ∧ Q (.v (.int (j : Nat)) .n) ρ2
theorem toPys_get : ∀ {ds : List D} {j : Nat}, (toPys ds)[j]? = ds[j]?.map toPy
  | [], j => by unfold toPys; simp
  | d :: ds, 0 => by unfold toPys; rfl
  | d :: ds, j + 1 => by unfold toPys; rw [List.getElem?_cons_succ, List.getElem?_cons_succ]; exact toPys_get
theorem first_py {ds : List D} {x : D} {j : Nat} (h : firstAt ds x j) : ∃ z, (toPys ds)[j]? = some z ∧ PyData.eqv z (toPy x) = true ∧ ∀ (m : Nat) (z' : PyData), m < j → (toPys ds)[m]? = some z' → PyData.eqv z' (toPy x) = false := by
  obtain ⟨z, h1, h2, h3⟩ := h
  refine ⟨toPy z, by rw [toPys_get, h1]; rfl, h2, fun m z' hm e => ?_⟩
  rw [toPys_get] at e
  cases q : ds[m]? with
  | none => rw [q] at e; cases e
  | some w => rw [q] at e; cases e; exact h3 m w hm q
section
variable {K : PySem.W.Frag}
theorem ev_idxT {to te : TE} {d t : TD} (h : Ev1 K to d) (h2 : Ev1 K te t) : Ev1 K (tBT (rIndexT K) to (tCons te tNil)) (dIdxT d t) := fun B σ H ρ Q Q' k q fin =>
  h B σ H ρ _ _ k q fun x H1 r ρ1 k1 s1 n1 w1 ⟨⟨ds0, e0⟩, q1⟩ => by
    have g1 := w1.rg k.dom
    have ro1 := Rg.ro k1 g1
    rw [e0] at ro1
    unfold RO R at ro1
    obtain ⟨a, vs, o, rfl, hb, hc, hd, _⟩ := ro1
    refine ⟨⟨a, o, vs, rfl, hb, hc, hd⟩, h2 B σ H1 ρ1 _ _ k1 q1 fun y H2 r2 ρ2 k2 s2 n2 w2 ⟨ds, j, e1, c1, c2, fa, q2⟩ => ?_⟩
    have g2 := g1.go s2 n2
    have ro2 := Rg.ro k2 g2
    rw [e1] at ro2
    unfold RO R at ro2
    obtain ⟨a', vs', o', ea, hb', _, _, rs⟩ := ro2
    cases ea
    have ry := (obR k2 k1.dom w2).all
    obtain ⟨z, z1, z2, z3⟩ := first_py fa
    unfold cmpOk at c1 c2
    rw [Bool.and_eq_true] at c1 c2
    exact ⟨a, y, toPy (ob ρ2 r2).d, toPys ds, j, z, rfl, rfl, .tup (.inl (.inr ⟨o', hb'⟩)) (dps_of (by have := c1.1; unfold nod at this; exact this) rs), dp_of c2.1 ry, (by have := c1.2; unfold toPy at this; exact this), c2.2, z1, z2, z3, fin _ H2 (.v (.int (j : Nat)) .n) ρ2 k2 (s1.trans s2) (n1.trans n2) rel_i q2⟩
theorem ev_idxL {to te : TE} {d t : TD} (h : Ev1 K to d) (h2 : Ev1 K te t) : Ev1 K (tBM K "list" (rIndexD K) to (tCons te tNil)) (dIdxL d t) := fun B σ H ρ Q Q' k q fin =>
  h B σ H ρ _ _ k q fun x H1 r ρ1 k1 s1 n1 w1 ⟨⟨ds0, e0⟩, q1⟩ => by
    have seq : ∀ {H : Hp} {ρ : En} {G : Addr → Prop} {ds : List D}, RO K G H (ob ρ r).d x → ((ob ρ r).d = .lst ds ∨ (ob ρ r).d = .fz ds) → ∃ a vs, x = .ref a ∧ SqL K H a vs ∧ Rs K G H ds vs := fun {H ρ G ds} ro e => by
      rcases e with e | e
      · rw [e] at ro; obtain ⟨a, vs, rfl, hs, r⟩ := ro; exact ⟨a, vs, rfl, SqL.of hs, r⟩
      · rw [e] at ro; obtain ⟨a, vs, rfl, hs, r⟩ := ro.fz; exact ⟨a, vs, rfl, hs.seq, r⟩
    have g1 := w1.rg k.dom
    obtain ⟨a, vs, rfl, hs, _⟩ := seq (Rg.ro k1 g1) e0
    refine ⟨.inl ⟨rfl, vs, hs⟩, h2 B σ H1 ρ1 _ _ k1 q1 fun y H2 r2 ρ2 k2 s2 n2 w2 ⟨ds, j, e1, c1, c2, fa, q2⟩ => ?_⟩
    have g2 := g1.go s2 n2
    obtain ⟨a', vs', ea, hs', rs⟩ := seq (Rg.ro k2 g2) e1
    cases ea
    have ry := (obR k2 k1.dom w2).all
    obtain ⟨z, z1, z2, z3⟩ := first_py fa
    unfold cmpOk at c1 c2
    rw [Bool.and_eq_true] at c1 c2
    exact ⟨a, y, toPy (ob ρ2 r2).d, toPys ds, j, z, rfl, rfl, .lst hs' (dps_of (by have := c1.1; unfold nod at this; exact this) rs), dp_of c2.1 ry, (by have := c1.2; unfold toPy at this; exact this), c2.2, z1, z2, z3, fin _ H2 (.v (.int (j : Nat)) .n) ρ2 k2 (s1.trans s2) (n1.trans n2) rel_i q2⟩
end
section
variable {X : Cx} {o e : Expr} {d t : TD} {tl : TL} {apos pos p : Pos} {k : Nat}
theorem de_tupleX (hm : X.mg "tuple" = none) (ha : DA X [e] tl) (hg : Gl X "tuple" := by rfl) (he : starEach [e] X.env = (false, eval e X.env) :: starEach [] X.env := by rfl) (hpl : (backTo pos (starEach [] X.env)).any (·.1) = false := by rfl) : DE X (.Call (.Name "tuple" p) [e] [] pos) (dCB pTupleX tl) :=
  de_callTy call_tupleX calls_tupleX hm (by decide +kernel) ha hg (by decide) (by decide) he hpl
theorem de_indexT (hr : Room k X.A) (ho : DE X o d) (he : DE X e t)
    (hpe : ∀ {to : TE} {ta : TA}, PE X o to → PA X [e] ta → PE X (.Call (.Attribute o "index" apos) [e] [] pos) (tBT (rIndexT X.K) to ta) := by intro _ _ h1 h2; exact pe_bt PySem.F.slot_tuple_index PySem.F.type_tuple_index (mt_indexT (hu65 hr)) h1 h2)
    (hs1 : starEach [e] X.env = (false, eval e X.env) :: starEach [] X.env := by rfl) : DE X (.Call (.Attribute o "index" apos) [e] [] pos) (dIdxT d t) :=
  let ⟨_, p1, e1⟩ := ho; let ⟨_, p2, e2⟩ := he; ⟨_, hpe p1 (pa_cons p2 pa_nil hs1), ev_idxT e1 e2⟩
theorem de_indexL (hr : Room k X.A) (ho : DE X o d) (he : DE X e t)
    (hpe : ∀ {to : TE} {ta : TA}, PE X o to → PA X [e] ta → PE X (.Call (.Attribute o "index" apos) [e] [] pos) (tBM X.K "list" (rIndexD X.K) to ta) := by intro _ _ h1 h2; exact pe_bm PySem.F.plainAttrs_list PySem.F.slot_list_index PySem.F.type_list_index (mt_indexD (hu65 hr)) h1 h2)
    (hs1 : starEach [e] X.env = (false, eval e X.env) :: starEach [] X.env := by rfl) : DE X (.Call (.Attribute o "index" apos) [e] [] pos) (dIdxL d t) :=
  let ⟨_, p1, e1⟩ := ho; let ⟨_, p2, e2⟩ := he; ⟨_, hpe p1 (pa_cons p2 pa_nil hs1), ev_idxL e1 e2⟩
end
end DL
namespace DL
open PySem L2
variable [Tabs]
/-! ### x in a list whose items are of any depth -/
def pInD (neg : Bool) : Op2 := fun a b k => ∃ ds, (b.d = .lst ds ∨ b.d = .fz ds) ∧ cmpOk a.d = true ∧ cmpOk (.lst ds) = true ∧ k (.v (.bl (neg ^^ ds.any fun z => eqD z a.d)) .n)
theorem any_py {x : D} : ∀ ds : List D, ((toPys ds).any fun z => PyData.eqv z (toPy x)) = ds.any fun z => eqD z x
  | [] => by unfold toPys; rfl
  | d :: ds => by unfold toPys; rw [List.any_cons, List.any_cons, any_py ds]; rfl
theorem inD_of {K : PySem.W.Frag} {G G' : Addr → Prop} {H : Hp} {x y : V} {a b : D} {ds : List D} (ra : RO K G H a x) (rb : RO K G' H b y) (e : b = .lst ds ∨ b = .fz ds) (c1 : cmpOk a = true) (c2 : cmpOk (.lst ds) = true) :
    Dp K H x (toPy a) ∧ Dp K H y (.list (toPys ds)) ∧ SeqAt.shaped (toPy a) = true ∧ SeqAt.shaped (.list (toPys ds)) = true := by
  unfold cmpOk at c1 c2
  rw [Bool.and_eq_true] at c1 c2
  have nd : nods ds = true := by have := c2.1; unfold nod at this; exact this
  refine ⟨dp_of c1.1 ra.all, ?_, c1.2, by have := c2.2; unfold toPy at this; exact this⟩
  rcases e with e | e
  · rw [e] at rb; obtain ⟨p, vs, rfl, hs, r⟩ := rb; exact .lst (SqL.of hs) (dps_of nd r)
  · rw [e] at rb; obtain ⟨p, vs, rfl, hs, r⟩ := rb.fz; exact .lst hs.seq (dps_of nd r)
theorem ops_inD {K : PySem.W.Frag} : OpS K (rInD K) (pInD false) := by
  intro B σ Hs H ρ x y a b k Q' ok hd ra rb ⟨ds, e, c1, c2, q⟩ fin
  obtain ⟨h1, h2, h3, h4⟩ := inD_of ra rb e c1 c2
  refine ⟨_, _, h1, h2, h3, h4, ?_⟩
  rw [any_py]
  exact fin_at ok fin (fun _ => R.b) (by rw [Bool.false_xor] at q; exact q)
theorem ops_notInD {K : PySem.W.Frag} : OpS K (rNotInD K) (pInD true) := by
  intro B σ Hs H ρ x y a b k Q' ok hd ra rb ⟨ds, e, c1, c2, q⟩ fin
  obtain ⟨h1, h2, h3, h4⟩ := inD_of ra rb e c1 c2
  refine ⟨_, _, h1, h2, h3, h4, ?_⟩
  rw [any_py]
  exact fin_at ok fin (fun _ => R.b) (by rw [Bool.true_xor] at q; exact q)
section
variable {X : Cx} {a b : Expr} {da db : TD} {pos : Pos} {k : Nat}
theorem de_inD (hr : Room k X.A) (ha : DE X a da) (hb : DE X b db) (hm : behindInMarks .In b = false := by rfl) : DE X (.Compare a [.In] [b] pos) (dOp (pInD false) da db) := let ⟨_, p1, e1⟩ := ha; let ⟨_, p2, e2⟩ := hb; ⟨_, pe_cmpR (op_inD (hu65 hr)) p1 p2 hm, ev_op ops_inD e1 e2⟩
theorem de_notinD (hr : Room k X.A) (ha : DE X a da) (hb : DE X b db) (hm : behindInMarks .NotIn b = false := by rfl) : DE X (.Compare a [.NotIn] [b] pos) (dOp (pInD true) da db) := let ⟨_, p1, e1⟩ := ha; let ⟨_, p2, e2⟩ := hb; ⟨_, pe_cmpR (op_notInD (hu65 hr)) p1 p2 hm, ev_op ops_notInD e1 e2⟩
theorem dt_inD (hr : Room k X.A) (ha : DE X a da) (hb : DE X b db) (hm : behindInMarks .In b = false := by rfl) : DT X (.Compare a [.In] [b] pos) (dTest (dOp (pInD false) da db)) := let ⟨_, p1, e1⟩ := ha; let ⟨_, p2, e2⟩ := hb; ⟨_, pt_cmpR (op_inD (hu65 hr)) p1 p2 hm, evt_tB (ev_op ops_inD e1 e2)⟩
theorem dt_notinD (hr : Room k X.A) (ha : DE X a da) (hb : DE X b db) (hm : behindInMarks .NotIn b = false := by rfl) : DT X (.Compare a [.NotIn] [b] pos) (dTest (dOp (pInD true) da db)) := let ⟨_, p1, e1⟩ := ha; let ⟨_, p2, e2⟩ := hb; ⟨_, pt_cmpR (op_notInD (hu65 hr)) p1 p2 hm, evt_tB (ev_op ops_notInD e1 e2)⟩
end
end DL

namespace DL
open PySem L2
variable [Tabs]

/-! ### == of a thing with itself; what may be compared -/
theorem eqvK_refl : ∀ ks : List Key, PyData.eqvAll (ks.map kP) (ks.map kP) = true
  | [] => by simp [PyData.eqvAll]
  | .inl i :: ks => by
    have := eqvK_refl ks
    simp [PyData.eqvAll, PyData.eqv, kP] at this ⊢
    exact this
  | .inr i :: ks => by
    have := eqvK_refl ks
    simp [PyData.eqvAll, PyData.eqv, kP] at this ⊢
    exact this
mutual
theorem eqD_refl : ∀ {d : D}, nod d = true → eqD d d = true
  | .non, _ => by unfold eqD toPy PyData.eqv; rfl
  | .bl _, _ => by unfold eqD toPy PyData.eqv; simp
  | .int _, _ => by unfold eqD toPy PyData.eqv; simp
  | .str _, _ => by unfold eqD toPy PyData.eqv; simp
  | .tup _, q => by unfold nod at q; unfold eqD toPy PyData.eqv; exact eqDs_refl q
  | .lst _, q => by unfold nod at q; unfold eqD toPy PyData.eqv; exact eqDs_refl q
  | .fz _, q => by unfold nod at q; unfold eqD toPy PyData.eqv; exact eqDs_refl q
  | .tux _, q => by unfold nod at q; unfold eqD toPy PyData.eqv; exact eqDs_refl q
  | .tk ks, _ => by unfold eqD toPy PyData.eqv; exact eqvK_refl ks
  | .obj _, q => by unfold nod at q; cases q
  | .clo _ _, q => by unfold nod at q; cases q
  | .dic _ _, q => by unfold nod at q; cases q
  | .dit _ _, q => by unfold nod at q; cases q
  | .un _, q => by unfold nod at q; cases q
theorem eqDs_refl : ∀ {ds : List D}, nods ds = true → PyData.eqvAll (toPys ds) (toPys ds) = true
  | [], _ => by unfold toPys PyData.eqvAll; rfl
  | d :: ds, q => by
    unfold nods at q
    rw [Bool.and_eq_true] at q
    unfold toPys PyData.eqvAll
    have h := eqD_refl q.1
    unfold eqD at h
    rw [h, eqDs_refl q.2]; rfl
end
/-- may be compared, at depth n at most -/
def cmpN (n : Nat) (d : D) : Prop := nod d = true ∧ (toPy d).canLay0 = true ∧ (toPy d).depth ≤ n
theorem cmpN.ok {n : Nat} {d : D} (h : cmpN n d) (hn : n ≤ 64 := by decide) : cmpOk d = true := by
  unfold cmpOk SeqAt.shaped
  rw [h.1, h.2.1, decide_eq_true (Nat.le_trans h.2.2 hn)]; rfl
theorem cmpN.le {n m : Nat} {d : D} (h : cmpN n d) (hn : n ≤ m) : cmpN m d := ⟨h.1, h.2.1, Nat.le_trans h.2.2 hn⟩
theorem cmpN_int {n : Nat} {i : Int} : cmpN n (.int i) := ⟨rfl, by unfold toPy PyData.canLay0; rfl, by unfold toPy PyData.depth; exact Nat.zero_le _⟩
theorem cmpN_bl {n : Nat} {i : Bool} : cmpN n (.bl i) := ⟨rfl, by unfold toPy PyData.canLay0; rfl, by unfold toPy PyData.depth; exact Nat.zero_le _⟩
theorem cmpN_non {n : Nat} : cmpN n .non := ⟨rfl, by unfold toPy PyData.canLay0; rfl, by unfold toPy PyData.depth; exact Nat.zero_le _⟩
theorem cmpN_str {n : Nat} {s : Str} (h : PyData.strOk s = true) : cmpN n (.str s) := ⟨rfl, by unfold toPy PyData.canLay0; exact h, by unfold toPy PyData.depth; exact Nat.zero_le _⟩
theorem cmpN_all {n : Nat} : ∀ {ds : List D}, (∀ d ∈ ds, cmpN n d) → nods ds = true ∧ PyData.canLayAll0 (toPys ds) = true ∧ PyData.depthAll (toPys ds) ≤ n
  | [], _ => ⟨rfl, by unfold toPys PyData.canLayAll0; rfl, by unfold toPys PyData.depthAll; exact Nat.zero_le _⟩
  | d :: ds, h => by
    obtain ⟨a, b, c⟩ := h d (by simp)
    obtain ⟨x, y, z⟩ := cmpN_all (ds := ds) fun e he => h e (by simp [he])
    refine ⟨by unfold nods; rw [a, x]; rfl, by unfold toPys PyData.canLayAll0; rw [b, y]; rfl, ?_⟩
    unfold toPys PyData.depthAll
    exact Nat.max_le.mpr ⟨c, z⟩
theorem cmpN_lst {n : Nat} {ds : List D} (h : ∀ d ∈ ds, cmpN n d) : cmpN (n + 1) (.lst ds) := by
  obtain ⟨a, b, c⟩ := cmpN_all h
  exact ⟨by unfold nod; exact a, by unfold toPy PyData.canLay0; exact b, by unfold toPy PyData.depth; omega⟩
theorem cmpN_fz {n : Nat} {ds : List D} (h : ∀ d ∈ ds, cmpN n d) : cmpN (n + 1) (.fz ds) := by
  obtain ⟨a, b, c⟩ := cmpN_all h
  exact ⟨by unfold nod; exact a, by unfold toPy PyData.canLay0; exact b, by unfold toPy PyData.depth; omega⟩
theorem cmpN_tup {n : Nat} {ds : List D} (h : ∀ d ∈ ds, cmpN n d) : cmpN (n + 1) (.tup ds) := by
  obtain ⟨a, b, c⟩ := cmpN_all h
  exact ⟨by unfold nod; exact a, by unfold toPy PyData.canLay0; exact b, by unfold toPy PyData.depth; omega⟩
theorem cmpN_tux {n : Nat} {ds : List D} (h : ∀ d ∈ ds, cmpN n d) : cmpN (n + 1) (.tux ds) := by
  obtain ⟨a, b, c⟩ := cmpN_all h
  exact ⟨by unfold nod; exact a, by unfold toPy PyData.canLay0; exact b, by unfold toPy PyData.depth; omega⟩
theorem both_of {d e : D} (h : cmpOk d = true) (h2 : cmpOk e = true) : both d e = true := by
  unfold both
  cases d <;> cases e <;> first | rfl | (show (cmpOk _ && cmpOk _) = true; rw [h, h2]; rfl)

/-! ### a walk of one of two kinds -/
theorem evi_or {K : PySem.W.Frag} {wi wi' : TI} {t t' : TID} (h : EvI K wi t) (h' : EvI K wi' t') : EvI K (fun σ H R => wi σ H R ∨ wi' σ H R) (fun ρ Q => t ρ Q ∨ t' ρ Q) := fun B σ H ρ Q R' k q fin =>
  q.imp (fun q => h B σ H ρ Q R' k q fin) (fun q => h' B σ H ρ Q R' k q fin)
theorem di_or {X : Cx} {tg e : Expr} {t t' : TID} (h : DI X tg e t) (h' : DI X tg e t') : DI X tg e (fun ρ Q => t ρ Q ∨ t' ρ Q) := let ⟨_, p, ev⟩ := h; let ⟨_, p', ev'⟩ := h'; ⟨_, PI.or p p', evi_or ev ev'⟩

/-! ### list(x), the copy's parts known to have no list -/
def pListG : OpN := fun os k => match os with
  | [o] => ∃ ds g, itemsOf o.d = some ds ∧ (g = o.f ∨ (nols ds = true ∧ g = .z)) ∧ k (.nl ds g)
  | _ => False
theorem calls_listG {K : PySem.W.Frag} : CallS K (rList1 K) pListG := by
  intro B σ Hs H ρ xs os k Q' ok hd ro h fin
  unfold pListG at h
  split at h
  · obtain ⟨v, rfl, rv⟩ := ro.one
    obtain ⟨ds, g, e, hg, h⟩ := h
    obtain ⟨p, vs, rfl, hs, r⟩ := rv.items e
    refine ⟨p, vs, rfl, hs, fun l hl => ?_⟩
    rcases hg with rfl | ⟨hn, rfl⟩
    · obtain ⟨o1, o2⟩ := new_nl ok hd hl r
      exact fin _ _ _ o1 (All.new hl).step o2 h
    · obtain ⟨o1, o2⟩ := new_nl (f := .z) ok hd hl (Rs.nol hn r)
      exact fin _ _ _ o1 (All.new hl).step o2 h
  · exact h.elim
theorem de_listG {X : Cx} {e : Expr} {t : TL} {p pos : Pos} (hm : X.mg "list" = none) (ha : DA X [e] t) (hg : Gl X "list" := by rfl) (he : starEach [e] X.env = (false, eval e X.env) :: starEach [] X.env := by rfl) (hpl : (backTo pos (starEach [] X.env)).any (·.1) = false := by rfl) : DE X (.Call (.Name "list" p) [e] [] pos) (dCB pListG t) :=
  de_callTy call_list_of calls_listG hm (by decide +kernel) ha hg (by decide) (by decide) he hpl
end DL

namespace DL
open PySem L2
variable [Tabs]
/-! ### what may be raised: rx x ρ, that an own exception of the name x leaves here -/
abbrev RX := Str → En → Prop
def XL (K : PySem.W.Frag) (cn : Str → Option Value) (W : WX) (rx : RX) (B : Bx) (σ : L2.St) (H : Hp) (ρ : En) : Prop :=
  ∀ (x : Str) (σ' : L2.St) (H' : Hp) (ρ' : En) (C : Value), Ok K B H' σ' ρ' → SStp σ H ρ σ' H' ρ' → rx x ρ' → cn x = some C → W C none σ' H'
abbrev TDX := RX → TD
abbrev TLX := RX → TL
abbrev TSX := RX → TSD
def Ev1x (K : PySem.W.Frag) (cn : Str → Option Value) (W : WX) (te : TE) (t : TDX) : Prop := ∀ (rx : RX) (B : Bx) (σ : L2.St) (H : Hp) (ρ : En) (Q : Rv → En → Prop) (Q' : VK), Ok K B H σ ρ → t rx ρ Q → XL K cn W rx B σ H ρ →
  (∀ v H' r ρ', Ok K B H' σ ρ' → Stp σ H ρ H' ρ' → Kn ρ ρ' → RelR K B H H' σ ρ' v r → Q r ρ' → Q' v H') → te σ H Q'
def EvLx (K : PySem.W.Frag) (cn : Str → Option Value) (W : WX) (ta : TA) (t : TLX) : Prop := ∀ (rx : RX) (B : Bx) (σ : L2.St) (H : Hp) (ρ : En) (Q : List Rv → En → Prop) (Q' : List V → Hp → Prop), Ok K B H σ ρ → t rx ρ Q → XL K cn W rx B σ H ρ →
  (∀ vs H' rs ρ', Ok K B H' σ ρ' → Stp σ H ρ H' ρ' → Kn ρ ρ' → RgL K B H H' σ ρ' vs rs → Q rs ρ' → Q' vs H') → ta σ H Q'
def EvSx (K : PySem.W.Frag) (cn : Str → Option Value) (W : WX) (ts : TS) (t : TSX) : Prop := ∀ (rx : RX) (B : Bx) (σ : L2.St) (H : Hp) (ρ : En) (E : ED) (D' : Ends), Ok K B H σ ρ → t rx E ρ → Lk K B σ H ρ E D' → XL K cn W rx B σ H ρ → ts D' σ H
def DEx (X : Cx) (W : WX) (e : Expr) (t : TDX) : Prop := ∃ te, PE X e te ∧ Ev1x X.K X.mg W te t
def DAx (X : Cx) (W : WX) (es : List Expr) (t : TLX) : Prop := ∃ te, PA X es te ∧ EvLx X.K X.mg W te t
def DSx (X : Cx) (W : WX) (st : Stmt) (t : TSX) : Prop := ∃ ts, PS X st ts ∧ EvSx X.K X.mg W ts t
def DSsx (X : Cx) (W : WX) (st : List Stmt) (t : TSX) : Prop := ∃ ts, PSs X st ts ∧ EvSx X.K X.mg W ts t
section
variable {K : PySem.W.Frag} {cn : Str → Option Value} {W : WX} {rx : RX} {B : Bx} {H H1 : Hp} {σ σ1 : L2.St} {ρ ρ1 : En}
theorem XL.go (l : XL K cn W rx B σ H ρ) (s : SStp σ H ρ σ1 H1 ρ1) : XL K cn W rx B σ1 H1 ρ1 := fun x σ' H' ρ' C k t q e => l x σ' H' ρ' C k (s.trans t) q e
theorem ev1x_of {te : TE} {d : TD} (h : Ev1 K te d) : Ev1x K cn W te (fun _ => d) := fun _ B σ H ρ Q Q' k q _ fin => h B σ H ρ Q Q' k q fin
theorem evlx_of {te : TA} {d : TL} (h : EvL K te d) : EvLx K cn W te (fun _ => d) := fun _ B σ H ρ Q Q' k q _ fin => h B σ H ρ Q Q' k q fin
theorem evsx_of {ts : TS} {d : TSD} (h : EvS K ts d) : EvSx K cn W ts (fun _ => d) := fun _ B σ H ρ E D' k q l _ => h B σ H ρ E D' k q l
theorem evlx_one {te : TE} {d : TDX} (h : Ev1x K cn W te d) : EvLx K cn W (tCons te tNil) (fun rx => dCons (d rx) dNil) := fun rx B σ H ρ Q Q' k q lx fin =>
  h rx B σ H ρ _ _ k q lx fun x H1 r ρ1 k1 s1 n1 e1 q1 => fin [x] H1 [r] ρ1 k1 s1 n1 (.cons (e1.rg k.dom) .nil) q1
theorem evsx_seq {t u : TS} {dt du : TSX} (h1 : EvSx K cn W t dt) (h2 : EvSx K cn W u du) : EvSx K cn W (tSeq t u) (fun rx => dSeq (dt rx) (du rx)) := fun rx B σ H ρ E D' k q l lx =>
  h1 rx B σ H ρ _ _ k q (l.nxt fun σ1 H1 ρ1 k1 s1 q1 => h2 rx B σ1 H1 ρ1 E D' k1 q1 (l.go s1) (lx.go s1)) lx
theorem evsx_if {c : TT} {dc : TB} {t u : TS} {dt du : TSX} (hc : EvT K c dc) (h1 : EvSx K cn W t dt) (h2 : EvSx K cn W u du) : EvSx K cn W (tIfS c t u) (fun rx => dIf dc (dt rx) (du rx)) := fun rx B σ H ρ E D' k q l lx =>
  hc B σ H ρ _ _ k q fun b H1 ρ1 k1 s1 n1 q1 => by
    cases b with
    | true => exact iteT (h1 rx B σ H1 ρ1 E D' k1 (q1.1 rfl) (l.go s1.s) (lx.go s1.s))
    | false => exact iteF (h2 rx B σ H1 ρ1 E D' k1 (q1.2 rfl) (l.go s1.s) (lx.go s1.s))
theorem evsx_cut {ts : TS} {t : TSX} (h : EvSx K cn W ts t) : EvSx K cn W ts (fun rx => dCut (t rx)) := fun rx B σ H ρ E D' k ⟨I, q, i⟩ l lx =>
  h rx B σ H ρ { E with nx := I } D' k q ⟨fun σ' H' ρ' k' s' q' => l.nx σ' H' ρ' k' s' (i ρ' q'), l.rt, l.bk, l.ct⟩ lx
theorem evsx_while {c : TT} {t : TB} {ts : TS} {b : TSX} (hc : EvT K c t) (hb : EvSx K cn W ts b) : EvSx K cn W (tWhile c ts) (fun rx => dWhile t (b rx)) := fun rx B σ H ρ E D' k ⟨I, ⟨m0, h0⟩, hs⟩ l lx => by
  refine ⟨fun m σ2 H2 => ∃ ρ2, Ok K B H2 σ2 ρ2 ∧ SStp σ H ρ σ2 H2 ρ2 ∧ I m ρ2, ⟨m0, ρ, k, SStp.refl, h0⟩, ?_⟩
  rintro m σ2 H2 ⟨ρ2, k2, s2, hI⟩
  refine hc B σ2 H2 ρ2 _ _ k2 (hs m ρ2 hI) fun bb H3 ρ3 k3 s3 n3 q3 => ?_
  have s4 := s2.trans s3.s
  cases bb with
  | true =>
    refine iteT ⟨fun σ' H' => ∃ m', m' < m ∧ ∃ ρ', Ok K B H' σ' ρ' ∧ SStp σ H ρ σ' H' ρ' ∧ I m' ρ', fun σ' H' ⟨m', hm, w⟩ => ⟨m', hm, w⟩, ?_⟩
    exact hb rx B σ2 H3 ρ3 _ _ k3 (q3.1 rfl) ⟨fun σ' H' ρ' k' s' ⟨m', hm, q'⟩ => ⟨m', hm, ρ', k', s4.trans s', q'⟩, l.rt, fun σ' H' ρ' k' s' q' => l.nx σ' H' ρ' k' (s4.trans s') q', fun σ' H' ρ' k' s' ⟨m', hm, q'⟩ => ⟨m', hm, ρ', k', s4.trans s', q'⟩⟩ (lx.go s4)
  | false => exact iteF (l.nx σ2 H3 ρ3 k3 s4 (q3.2 rfl))
theorem evsx_ret {te : TE} {d : TDX} (h : Ev1x K cn W te d) : EvSx K cn W (tRet te) (fun rx => dRet (d rx)) := fun rx B σ H ρ E D' k q l lx =>
  h rx B σ H ρ _ _ k q lx fun v H1 r ρ1 k1 s1 n1 e1 ⟨o, eo, fo, q1⟩ => l.rt v H1 σ ρ1 o.d k1 (stoR k.dom e1 eo fo) q1
theorem evsx_drop {te : TE} {d : TDX} (h : Ev1x K cn W te d) : EvSx K cn W (tDrop te) (fun rx => dDrop (d rx)) := fun rx B σ H ρ E D' k q l lx =>
  h rx B σ H ρ _ _ k q lx fun v H1 r ρ1 k1 s1 n1 e1 q1 => l.nx σ H1 ρ1 k1 s1.s q1
theorem evsx_unp {te : TE} {d : TDX} {is : List Nat} (h : Ev1x K cn W te d) : EvSx K cn W (tAsg te (gOf K (.tup is))) (fun rx => dUnp (d rx) is) := fun rx B σ H ρ E D' k q l lx =>
  h rx B σ H ρ _ _ k q lx fun v H1 r ρ1 k1 s1 n1 e1 ⟨o, ρ2, eo, e2, q1⟩ => setT_ok k1 ((e1.rg k.dom).sto eo) e2 fun σ' k2 s2 => l.nx σ' H1 ρ2 k2 (s1.s.trans s2) q1
/-- name = f(..), a def's answer -/
theorem evsx_asg {te : TE} {d : TDX} {i : Nat} (h : Ev1x K cn W te d) : EvSx K cn W (tAsg te (gName i)) (fun rx E ρ => d rx ρ fun r ρ1 => i < ρ1.length ∧ match r with | .v x f => E.nx (ρ1.set i (.val x f)) | _ => False) := fun rx B σ H ρ E D' k q l lx =>
  h rx B σ H ρ _ _ k q lx fun v H1 r ρ1 k1 s1 n1 e1 ⟨hi, q1⟩ => by
    show D'.nx (σ.set i (some v)) H1
    cases r with
    | v x f =>
      obtain ⟨o1, o2⟩ := k1.asg hi e1
      exact l.nx _ _ _ o1 (s1.s.trans o2) q1
    | _ => exact q1.elim
end
def dAsgX (d : TD) (i : Nat) : TSD := fun E ρ => d ρ fun r ρ1 => i < ρ1.length ∧ match r with | .v x f => E.nx (ρ1.set i (.val x f)) | _ => False
section
variable {X : Cx} {W : WX} {st : Stmt} {rest a b : List Stmt} {t u ta tb : TSX} {e c : Expr} {d : TDX} {dc : TB} {pos : Pos}
theorem dex_of {d : TD} (h : DE X e d) : DEx X W e (fun _ => d) := let ⟨_, p, ev⟩ := h; ⟨_, p, ev1x_of ev⟩
theorem dax_of {es : List Expr} {d : TL} (h : DA X es d) : DAx X W es (fun _ => d) := let ⟨_, p, ev⟩ := h; ⟨_, p, evlx_of ev⟩
theorem dax_one (h : DEx X W e d) (hs : starEach [e] X.env = (false, eval e X.env) :: starEach [] X.env := by rfl) : DAx X W [e] (fun rx => dCons (d rx) dNil) := let ⟨_, p, ev⟩ := h; ⟨_, pa_cons p pa_nil hs, evlx_one ev⟩
theorem dsx_of {d : TSD} (h : DS X st d) : DSx X W st (fun _ => d) := let ⟨_, p, ev⟩ := h; ⟨_, p, evsx_of ev⟩
theorem dssx_of {st : List Stmt} {d : TSD} (h : DSs X st d) : DSsx X W st (fun _ => d) := let ⟨_, p, ev⟩ := h; ⟨_, p, evsx_of ev⟩
theorem dssx_nil : DSsx X W [] (fun _ => dNext) := dssx_of dss_nil
theorem dssx_one (h : DSx X W st t) : DSsx X W [st] t := let ⟨_, p, ev⟩ := h; ⟨_, pss_one p, ev⟩
theorem dssx_cons (h : DSx X W st t) (r : DSsx X W rest u) : DSsx X W (st :: rest) (fun rx => dSeq (t rx) (u rx)) := let ⟨_, p, ev⟩ := h; let ⟨_, p2, ev2⟩ := r; ⟨_, pss_cons p p2, evsx_seq ev ev2⟩
theorem dsx_if (hc : DT X c dc) (ha : DSsx X W a ta) (hb : DSsx X W b tb) : DSx X W (.If c a b pos) (fun rx => dIf dc (ta rx) (tb rx)) := let ⟨_, p, ev⟩ := hc; let ⟨_, p1, e1⟩ := ha; let ⟨_, p2, e2⟩ := hb; ⟨_, ps_if p p1 p2, evsx_if ev e1 e2⟩
theorem dsx_cut (h : DSx X W st t) : DSx X W st (fun rx => dCut (t rx)) := let ⟨_, p, ev⟩ := h; ⟨_, p, evsx_cut ev⟩
theorem dsx_while {t : TB} {body : List Stmt} {b : TSX} (hc : DT X c t) (hb : DSsx X W body b) (hf : ∀ {tc : TT} {tb : TS}, PT X c tc → PSs X body tb → PS X (.While c body [] pos) (tWhile tc tb)) : DSx X W (.While c body [] pos) (fun rx => dWhile t (b rx)) := let ⟨_, p, ev⟩ := hc; let ⟨_, p2, ev2⟩ := hb; ⟨_, hf p p2, evsx_while ev ev2⟩
theorem dsx_ret (he : DEx X W e d) : DSx X W (.Return (some e) pos) (fun rx => dRet (d rx)) := let ⟨_, p, ev⟩ := he; ⟨_, ps_ret p, evsx_ret ev⟩
theorem dsx_expr (he : DEx X W e d) (hs : swapsWith e none pos.line X.env = pure false := by rfl) : DSx X W (.Expr e pos) (fun rx => dDrop (d rx)) := let ⟨_, p, ev⟩ := he; ⟨_, ps_expr p hs, evsx_drop ev⟩
theorem dsx_unp {tg : Expr} {is : List Nat} (he : DEx X W e d) (hg : DG X tg (.tup is)) (hp : ∀ {te : TE}, PE X e te → PG X tg (gOf X.K (.tup is)) → PS X (.Assign [tg] e pos) (tAsg te (gOf X.K (.tup is))) := by intro _ h1 h2; exact ps_asg h1 h2) : DSx X W (.Assign [tg] e pos) (fun rx => dUnp (d rx) is) := let ⟨_, p, ev⟩ := he; ⟨_, hp p hg, evsx_unp ev⟩
theorem dsx_set {i : Nat} {x : Str} {pos' : Pos} (he : DEx X W e d) (hN : X.N.Nodup) (hi : X.N[i]? = some x := by rfl) (hx : Loc X.env.scope x := by first | exact .inl rfl | exact .inr rfl) (hs : swapsWith e (some (.Name x pos')) pos.line X.env = pure false := by rfl) (hf : X.fn x = true ∨ X.env.scope.names.lookup x = some .local := by first | exact .inl rfl | exact .inr rfl | assumption) :
    DSx X W (.Assign [.Name x pos'] e pos) (fun rx => dAsgX (d rx) i) := let ⟨_, p, ev⟩ := he; ⟨_, ps_set hN hi hx p hs hf, evsx_asg ev⟩
/-! ### what is never come to -/
def dNever : TSD := fun _ _ => False
def dNeverE : TD := fun _ _ => False
theorem ds_never : DS X st dNever := ⟨fun _ _ _ => False, ⟨fun _ _ _ _ _ _ q => q.elim⟩, fun _ _ _ _ _ _ _ q _ => q⟩
theorem dss_never {st : List Stmt} : DSs X st dNever := ⟨fun _ _ _ => False, ⟨fun _ _ _ _ _ _ q => q.elim⟩, fun _ _ _ _ _ _ _ q _ => q⟩
theorem de_never : DE X e dNeverE := ⟨fun _ _ _ => False, ⟨fun _ _ _ _ _ _ q => q.elim⟩, fun _ _ _ _ _ _ _ q _ => q⟩
/-! ### raise X(e ..) -/
def dRaise (x : Str) (t : TL) : TSX := fun rx E ρ => t ρ fun rs ρ1 => rs.length ≤ 1000 ∧ rx x ρ1
theorem dsx_raise {x : Str} {C : Addr} {bmB : List Value} {B newId initId : String} {p : Pos} {es : List Expr} {tl : TL} (hc : X.calm = true) (tk : Takes X W) (hb : ExcBaseFacts B newId initId bmB) (hx : PySem.W.excIn X.K C bmB newId = true) (hm : X.mg x = some (.ref C)) (hk : PySem.W.keepIn X.K (.ref C) = true)
    (hr : Raises X (.ref C)) (ha : DA X (e :: es) tl) (hg : Gl X x := by rfl) (hd : (x == ("__debug__" : Str)) = false := by decide) (hs : starEach (e :: es) X.env = (false, eval e X.env) :: starEach es X.env := by rfl) (hs2 : ((backTo pos (starEach es X.env)).any fun x => x.fst) = false := by rfl) {pos2 : Pos} :
    DSx X W (.Raise (some (.Call (.Name x p) (e :: es) [] pos)) none pos2) (dRaise x tl) := by
  obtain ⟨_, pa, ev⟩ := ha
  refine ⟨_, ps_raise hc tk (pmk_ownA hb hx hm hk hr hg pa hd hs hs2), fun rx B σ H ρ E D' k q l lx => ?_⟩
  refine ev B σ H ρ _ _ k q fun vs H1 rs ρ1 k1 s1 n1 e1 ⟨hl, q1⟩ => ⟨?_, lx x σ H1 ρ1 (.ref C) k1 s1.s q1 hm⟩
  rw [e1.len]
  exact sz1000 hl
end
end DL

namespace DL
open PySem L2
variable [Tabs]
/-! ### d.get(k) -/
def dDGet1 (d t : TD) : TD := fun ρ Q => d ρ fun r ρ1 => (∃ ks ds, (ob ρ1 r).d = .dic ks ds) ∧ t ρ1 fun r2 ρ2 => ∃ ks ds x, (ob ρ2 r).d = .dic ks ds ∧ keyOf (ob ρ2 r2).d = some x ∧ Q (.v ((lookD ks ds x).getD .non) (ob ρ2 r).f) ρ2
theorem ev_dget1 {K : PySem.W.Frag} {td ty : TE} {d t : TD} (h : Ev1 K td d) (h2 : Ev1 K ty t) : Ev1 K (tDGet1 td ty) (dDGet1 d t) := fun B σ H ρ Q Q' k q fin =>
  h B σ H ρ _ _ k q fun x H1 r1 ρ1 k1 s1 n1 w1 ⟨⟨ks0, ds0, e0⟩, q1⟩ => by
    obtain ⟨a0, vs0, rfl, ha0, _, _, _⟩ := (w1.rg k.dom).dic k1 e0
    refine ⟨a0, rfl, .inl ⟨_, .inl ha0⟩, h2 B σ H1 ρ1 _ _ k1 q1 fun y H2 r2 ρ2 k2 s2 n2 w2 ⟨ks, ds, ky, ed, ek, q2⟩ => ?_⟩
    have g1 := (w1.rg k.dom).go s2 n2
    obtain ⟨a, vs, e, ha, hl, _, rs⟩ := g1.dic k2 ed
    cases e
    have ry := keyOf_v (Rg.ro k2 (w2.rg k1.dom)).all ek
    subst ry
    refine ⟨valV (ks.zip vs) ky, DGet.k ha, ?_⟩
    cases el : lookD ks ds ky with
    | some e =>
      rw [el] at q2
      obtain ⟨v, ev, rv⟩ := look_v rs el
      rw [ev]
      exact fin v H2 (.v e _) ρ2 k2 (s1.trans s2) (n1.trans n2) rv q2
    | none =>
      rw [el] at q2
      rw [look_none hl rs el]
      exact fin .non H2 (.v .non _) ρ2 k2 (s1.trans s2) (n1.trans n2) (show R K (GF B (mset σ ρ2) H (ob ρ2 r1).f) H2 .non .non from R.n) q2
/-! ### xs.pop() -/
def dPop (m : Nat) : TD := fun ρ Q => ∃ ds d f, ρ.getD m .no = .ml (ds ++ [d]) f ∧ Q (.v d (fdn f)) (ρ.set m (.ml ds f))
theorem Kn.set {ρ : En} {i : Nat} {s : Sl} (n : s ≠ .no) : Kn ρ (ρ.set i s) := fun j ⟨t, e, nt⟩ => by
  by_cases h : i = j
  · subst h
    exact ⟨s, List.getElem?_set_self (List.getElem?_eq_some_iff.mp e).1, n⟩
  · exact ⟨t, by rw [List.getElem?_set_ne h]; exact e, nt⟩
theorem Rs.snocI {K : PySem.W.Frag} {G : Addr → Prop} {H : Hp} : ∀ {ds : List D} {d : D} {vs : List V}, Rs K G H (ds ++ [d]) vs → ∃ ws v, vs = ws ++ [v] ∧ Rs K G H ds ws ∧ R K G H d v
  | [], d, vs, h => by
    have h : Rs K G H (d :: []) vs := h
    unfold Rs at h
    obtain ⟨v, r, rfl, h1, h2⟩ := h
    unfold Rs at h2; subst h2
    exact ⟨[], v, rfl, Rs.nil, h1⟩
  | e :: ds, d, vs, h => by
    have h : Rs K G H (e :: (ds ++ [d])) vs := h
    unfold Rs at h
    obtain ⟨v, r, rfl, h1, h2⟩ := h
    obtain ⟨ws, u, rfl, h3, h4⟩ := Rs.snocI h2
    exact ⟨v :: ws, u, rfl, Rs.cons h1 h3, h4⟩
theorem ev_pop {K : PySem.W.Frag} {m : Nat} : Ev1 K (tBM0 K "list" rPop (tVar m)) (dPop m) := fun B σ H ρ Q Q' k ⟨ds, d, f, es, q⟩ fin => by
  have e' := getD_some es (by simp)
  obtain ⟨p, vs, ep, hp, rs, h0, av⟩ := k.sl m _ e'
  obtain ⟨ws, v, rfl, rs2, rv⟩ := rs.snocI
  obtain ⟨o1, o2⟩ := k.upd (o := .lst ws) (s := .ml ds f) e' rfl rfl ep (.inr h0) fun kp =>
    ⟨p, _, ep, upd_same, rs2.mono (kp.weak fun a g z => g.1 (z ▸ ⟨m, _, e', rfl, ep⟩)) fun _ _ g => g, h0, av⟩
  refine ⟨.ref p, ep, .inl ⟨rfl, _, SqL.of hp⟩, p, ws ++ [v], v, rfl, rfl, hp, by simp, ?_⟩
  have ed : (ws ++ [v]).dropLast = ws := by simp
  rw [ed]
  refine fin v _ (.v d (fdn f)) _ o1 o2 (Kn.set (by simp)) ?_ q
  exact R.step o2 (R.mono Keep.refl (fun _ _ g => g.fr) rv)
/-! ### xs.extend(a list) -/
def dExt (m : Nat) (d : TD) : TSD := fun E ρ => isML (ρ.getD m .no) = true ∧ d ρ fun r ρ1 => ∃ zs g, stoD r = some ⟨.lst zs, g⟩ ∧ match ρ1.getD m .no with
  | .ml ds f => ds.length + zs.length ≤ sizeLine ∧ E.nx (ρ1.set m (.ml (ds ++ zs) (fmin f (if nols zs = true then .z else g))))
  | _ => False
theorem evs_ext {K : PySem.W.Frag} {m : Nat} {te : TE} {d : TD} (h : Ev1 K te d) : EvS K (tDrop (tBM K "list" rExtend (tVar m) (tCons te tNil))) (dExt m d) := fun B σ H ρ E D' k ⟨hm, q⟩ l => by
  obtain ⟨p, vs0, ep, hp0⟩ := mslot k hm
  refine (?_ : tDrop (tBM K "list" rExtend (tVar m) (tCons te tNil)) D' σ H)
  exact ⟨.ref p, ep, Or.inl ⟨rfl, vs0, SqL.of hp0⟩, h B σ H ρ _ _ k q fun v H1 r ρ1 k1 s1 n1 e1 ⟨zs, g, eo, q1⟩ => by
      have ro := (e1.rg k.dom).sto eo
      unfold R at ro
      obtain ⟨b, us, rfl, hb, gb, rz⟩ := ro
      cases es : ρ1.getD m .no with
      | ml ds f =>
        rw [es] at q1
        have e' := getD_some es (by simp)
        obtain ⟨p', vs, ep', hp, rs, h0, av⟩ := k1.sl m _ e'
        rw [ep] at ep'; cases ep'
        obtain ⟨hz, q1⟩ := q1
        have rz2 : Rs K (GF B (mset σ ρ1) H (if nols zs = true then .z else g)) H1 zs us := by
          split
          · rename_i hn; exact Rs.nol hn rz
          · exact rz
        obtain ⟨o1, o2⟩ := k1.upd (o := .lst (vs ++ us)) (s := .ml (ds ++ zs) (fmin f (if nols zs = true then .z else g))) e' rfl rfl ep (.inr h0) fun kp =>
          ⟨p, _, ep, upd_same, (rs.mono (kp.weak fun a g z => g.1 (z ▸ ⟨m, _, e', rfl, ep⟩)) fun _ _ g => g.minL).append (rz2.mono (kp.weak fun a g z => g.1 (z ▸ ⟨m, _, e', rfl, ep⟩)) fun _ _ g => g.slot), h0, av⟩
        exact ⟨p, b, vs, us, rfl, rfl, hp, hb, by rw [← rs.len, ← rz.len]; exact hz, l.nx _ _ _ o1 (s1.trans o2).s q1⟩
      | no => rw [es] at q1; exact q1.elim
      | mp n ds => rw [es] at q1; exact q1.elim
      | val d f => rw [es] at q1; exact q1.elim
      | md ks ds f => rw [es] at q1; exact q1.elim
      | mt ks ds f => rw [es] at q1; exact q1.elim⟩
/-! ### a list as a test -/
def truD : D → Option Bool
  | .lst ds => some !ds.isEmpty
  | .fz ds => some !ds.isEmpty
  | .bl b => some b
  | .non => some false
  | _ => none
def dTru (d : TD) : TB := fun ρ Q => d ρ fun r ρ1 => ∃ b, truD (ob ρ1 r).d = some b ∧ Q b ρ1
theorem isE_len {α β : Type} {xs : List α} {ys : List β} (h : xs.length = ys.length) : xs.isEmpty = ys.isEmpty := by cases xs <;> cases ys <;> first | rfl | (simp at h)
theorem evt_tru {K : PySem.W.Frag} {te : TE} {d : TD} (h : Ev1 K te d) : EvT K (fun σ H Q => te σ H fun x H' => ∃ k, TruV K x H' k ∧ Q k H') (dTru d) := fun B σ H ρ Q Q' k q fin =>
  h B σ H ρ _ _ k q fun v H1 r ρ1 k1 s1 n1 e1 ⟨b, eb, q1⟩ => by
    have ro := obR k1 k.dom e1
    refine ⟨b, ?_, fin b H1 ρ1 k1 s1 n1 q1⟩
    cases ed : (ob ρ1 r).d with
    | lst ds =>
      rw [ed] at ro eb
      obtain ⟨a, vs, rfl, ha, rs⟩ := ro
      cases eb
      exact .inl ⟨vs, SqL.of ha, by rw [isE_len rs.len]⟩
    | fz ds =>
      rw [ed] at ro eb
      obtain ⟨a, vs, rfl, ha, rs⟩ := ro.fz
      cases eb
      exact .inl ⟨vs, ha.seq, by rw [isE_len rs.len]⟩
    | bl c => rw [ed] at ro eb; cases ro.bl; cases eb; rfl
    | non => rw [ed] at ro eb; cases ro.non; cases eb; rfl
    | _ => rw [ed] at eb; cases eb
/-! ### f"..", no more known of it than that it is a text -/
def dFmt (d : TD) : TD := fun ρ Q => d ρ fun r ρ1 => ∃ y, (ob ρ1 r).d = .str y ∧ y.length ≤ 1000 ∧ ∀ z : Str, z.length ≤ 11000 → Q (.v (.str z) .n) ρ1
def dFmtR (d : TD) : TD := fun ρ Q => d ρ fun r ρ1 => ∃ y, (ob ρ1 r).d = .str y ∧ y.length ≤ 1000 ∧ PyData.strOk y = true ∧ ∀ z : Str, z.length ≤ 11000 → Q (.v (.str z) .n) ρ1
theorem ev_fmt {K : PySem.W.Frag} {te : TE} {d : TD} (h : Ev1 K te d) : Ev1 K (tFmt te) (dFmt d) := fun B σ H ρ Q Q' k q fin =>
  h B σ H ρ _ _ k q fun v H1 r ρ1 k1 s1 n1 e1 ⟨y, ey, hy, q1⟩ => by
    have ro := obR k1 k.dom e1
    rw [ey] at ro
    cases ro.str
    exact .inl ⟨y, rfl, by rw [sizeLine_eq]; omega, fin _ H1 (.v (.str y) .n) ρ1 k1 s1 n1 rel_s (q1 y (by omega))⟩
theorem ev_fmtR {K : PySem.W.Frag} {te : TE} {d : TD} (h : Ev1 K te d) : Ev1 K (tFmtR te) (dFmtR d) := fun B σ H ρ Q Q' k q fin =>
  h B σ H ρ _ _ k q fun v H1 r ρ1 k1 s1 n1 e1 ⟨y, ey, hy, hs, q1⟩ => by
    have ro := obR k1 k.dom e1
    rw [ey] at ro
    cases ro.str
    have hl := StrLaws.reprText_len y fun c hc => by
      unfold PyData.strOk at hs
      have := (Array.all_eq_true_iff_forall_mem.mp hs) c (by simpa using hc)
      have := of_decide_eq_true this
      omega
    exact .inl ⟨y, rfl, by rw [sizeLine_eq]; omega, fin _ H1 (.v (.str (reprText y)) .n) ρ1 k1 s1 n1 rel_s (q1 _ (by omega))⟩
/-- the parts of an f"..": texts of at most 11000 signs -/
def dFs : List TD → TD
  | [] => fun ρ Q => ∀ z : Str, Q (.v (.str z) .n) ρ
  | d :: ds => fun ρ Q => d ρ fun r ρ1 => ∃ y, (ob ρ1 r).d = .str y ∧ y.length ≤ 11000 ∧ dFs ds ρ1 Q
inductive EvJ (K : PySem.W.Frag) : List TE → List TD → Prop
  | nil : EvJ K [] []
  | cons {t : TE} {d : TD} {ts : List TE} {ds : List TD} : Ev1 K t d → EvJ K ts ds → EvJ K (t :: ts) (d :: ds)
def DJo (X : Cx) (es : List Expr) (ds : List TD) : Prop := ∃ ts, PJ X es ts ∧ EvJ X.K ts ds
theorem djo_nil {X : Cx} : DJo X [] [] := ⟨_, .nil, .nil⟩
theorem djo_cons {X : Cx} {e : Expr} {es : List Expr} {d : TD} {ds : List TD} (h : DE X e d) (r : DJo X es ds) : DJo X (e :: es) (d :: ds) := let ⟨_, p, ev⟩ := h; let ⟨_, p2, ev2⟩ := r; ⟨_, .cons p p2, .cons ev ev2⟩
theorem ev_js {K : PySem.W.Frag} {B : Bx} {Hs : Hp} {σ : L2.St} : ∀ {ts : List TE} {ds : List TD}, EvJ K ts ds → ∀ (acc : Str) (n : Nat) (H : Hp) (ρ : En) (Q : Rv → En → Prop) (Q' : VK), acc.length ≤ n * 11000 → n + ts.length ≤ 1000 → Ok K B H σ ρ → dFs ds ρ Q →
    (∀ v H' r ρ', Ok K B H' σ ρ' → Stp σ H ρ H' ρ' → Kn ρ ρ' → (∃ z, v = .str z ∧ r = .v (.str z) .n) → Q r ρ' → Q' v H') → tJs ts acc σ H fun out H1 => Q' (.str out) H1
  | _, _, .nil, acc, n, H, ρ, Q, Q', _, _, k, q, fin => by
    unfold tJs
    exact fin (.str acc) H (.v (.str acc) .n) ρ k Stp.refl Kn.refl ⟨acc, rfl, rfl⟩ (q acc)
  | _, _, .cons (ts := ts) h t, acc, n, H, ρ, Q, Q', ha, hn, k, q, fin => by
    unfold tJs
    refine h B σ H ρ _ _ k q fun v H1 r ρ1 k1 s1 n1 e1 ⟨y, ey, hy, q1⟩ => ?_
    have ro := obR k1 k.dom e1
    rw [ey] at ro
    cases ro.str
    have hl : (acc ++ y).length = acc.length + y.length := by show (acc.cps ++ y.cps).size = _; exact Array.size_append
    rw [List.length_cons] at hn
    refine ⟨y, rfl, by rw [hl, sizeLine_eq]; omega, ?_⟩
    exact ev_js (Hs := Hs) t (acc ++ y) (n + 1) H1 ρ1 Q Q' (by rw [hl]; omega) (by omega) k1 q1 fun v H2 r ρ2 k2 s2 n2 e2 q2 => fin v H2 r ρ2 k2 (s1.trans s2) (n1.trans n2) e2 q2
section
variable {X : Cx} {e a b : Expr} {pos apos p1 pos' : Pos} {da db d : TD} {j : Nat}
theorem de_dget1 (hr : Room j X.A) (ha : DE X a da) (hb : DE X b db) (hm : M1 X a "get" apos b pos := by exact ⟨rfl, rfl, rfl, rfl⟩) : DE X (.Call (.Attribute a "get" apos) [b] [] pos) (dDGet1 da db) := let ⟨_, p1, e1⟩ := ha; let ⟨_, p2, e2⟩ := hb; ⟨_, pe_dget1 (hu_of hr) p1 p2 hm, ev_dget1 e1 e2⟩
theorem de_pop {m : Nat} {x : Str} (hN : X.N[m]? = some x := by rfl) (hv : Vis X.env.scope x := by first | exact Or.inl rfl | exact Or.inr (Or.inl rfl) | exact Or.inr (Or.inr rfl)) (hd : (x == ("__debug__" : Str)) = false := by decide) (hcd : (x == ("__classdict__" : Str)) = false := by decide)
    (hpe : ∀ {to : TE}, PE X (.Name x p1) to → PE X (.Call (.Attribute (.Name x p1) "pop" apos) [] [] pos) (tBM0 X.K "list" rPop to) := by intro _ h1; exact pe_bm0 PySem.F.plainAttrs_list PySem.F.slot_list_pop PySem.F.type_list_pop mt_pop h1) :
    DE X (.Call (.Attribute (.Name x p1) "pop" apos) [] [] pos) (dPop m) := ⟨_, hpe (pe_var hN hv hd hcd), ev_pop⟩
theorem ds_ext {m : Nat} {x : Str} (he : DE X e d) (hN : X.N[m]? = some x := by rfl) (hv : Vis X.env.scope x := by first | exact Or.inl rfl | exact Or.inr (Or.inl rfl) | exact Or.inr (Or.inr rfl)) (hd : (x == ("__debug__" : Str)) = false := by decide) (hcd : (x == ("__classdict__" : Str)) = false := by decide)
    (hpe : ∀ {to : TE} {ta : TA}, PE X (.Name x p1) to → PA X [e] ta → PE X (.Call (.Attribute (.Name x p1) "extend" apos) [e] [] pos) (tBM X.K "list" rExtend to ta) := by intro _ _ h1 h2; exact pe_bm PySem.F.plainAttrs_list PySem.F.slot_list_extend PySem.F.type_list_extend mt_extend h1 h2)
    (hs1 : starEach [e] X.env = (false, eval e X.env) :: starEach [] X.env := by rfl) (hs : swapsWith (.Call (.Attribute (.Name x p1) "extend" apos) [e] [] pos) none pos'.line X.env = pure false := by rfl) :
    DS X (.Expr (.Call (.Attribute (.Name x p1) "extend" apos) [e] [] pos) pos') (dExt m d) := by
  obtain ⟨_, p, ev⟩ := he
  exact ⟨_, ps_expr (hpe (pe_var hN hv hd hcd) (pa_cons p pa_nil hs1)) hs, evs_ext ev⟩
theorem dt_tru (h : DE X e d) (he : ∀ whole, isTrue e X.env whole = (do let v ← whole; standAt e.pos; holding [v] (truthy v)) := by intro _; rfl) : DT X e (dTru d) := let ⟨_, p, ev⟩ := h; ⟨_, pt_truth p he, evt_tru ev⟩
theorem de_fmt (h : DE X e d) : DE X (.FormattedValue e (-1) none pos) (dFmt d) := let ⟨_, p, ev⟩ := h; ⟨_, pe_fmt p, ev_fmt ev⟩
theorem de_fmtR (h : DE X e d) : DE X (.FormattedValue e 114 none pos) (dFmtR d) := let ⟨_, p, ev⟩ := h; ⟨_, pe_fmtR p, ev_fmtR ev⟩
theorem de_fstr {v1 v2 : Expr} {rest : List Expr} {ds : List TD} (h : DJo X (v1 :: v2 :: rest) ds) (hl : rest.length ≤ 900 := by decide) : DE X (.JoinedStr (v1 :: v2 :: rest) pos) (dFs ds) := by
  obtain ⟨ts, p, ev⟩ := h
  have hlen : ts.length = rest.length + 2 := by
    have : ∀ {es : List Expr} {ts : List TE}, PJ X es ts → ts.length = es.length := fun h => by induction h with | nil => rfl | cons _ _ ih => rw [List.length_cons, List.length_cons, ih]
    rw [this p]; rfl
  refine ⟨_, pe_joined p, fun B σ H ρ Q Q' k q fin => ?_⟩
  refine ev_js (Hs := H) ev Str.empty 0 H ρ Q Q' (by show 0 ≤ _; omega) (by omega) k q fun v H' r ρ' k' s' n' ⟨z, e1, e2⟩ q' => ?_
  subst e1 e2
  exact fin _ H' _ ρ' k' s' n' rel_s q'
end
end DL

namespace DL
open PySem L2 NdefX LamX
variable [Tabs]
/-! ### a heap known in part: what is forgotten, what is known besides -/
theorem ObjOk.rel {P : Program} {w : World} {H H2 : Hp} {h : Heap} {a : Addr} (h1 : ∀ q xs, H q = some (.tup xs) → H2 q = some (.tup xs)) (h2 : ∀ q x, H q = some (.own x) → H2 q = some (.own x)) : ∀ {o : HO}, ObjOk P w H h a o → ObjOk P w H2 h a o
  | .lst _, q => q
  | .tup _, q => q
  | .dK _, q => q
  | .dT _, q => by
    unfold ObjOk at q ⊢
    obtain ⟨a1, a2, xs, p, r⟩ := q
    refine ⟨a1, a2, xs, ?_, r⟩
    clear r a1
    induction p with
    | nil => exact .nil
    | cons e _ ih => exact .cons ⟨e.1, h1 _ _ e.2.1, e.2.2⟩ ih
  | .set _ _, q => q
  | .ins _ _ _, q => by
    unfold ObjOk at q ⊢
    exact ⟨h2 _ _ q.1, q.2⟩
  | .own _, q => q
  | .xd _, q => q
  | .met _ _, q => q
  | .rng _ _, q => q
  | .frz _ u, q => by
    unfold ObjOk at q ⊢
    exact ⟨q.1, ObjOk.rel h1 h2 q.2⟩
  | .tbl _, q => q
  | .ext _, q => q
/-- without C -/
noncomputable def mn (C : Addr → Prop) (H : Hp) : Hp := fun a => open Classical in if C a then none else H a
/-- as H1 at C, else as H -/
noncomputable def pl (C : Addr → Prop) (H1 H : Hp) : Hp := fun a => open Classical in if C a then H1 a else H a
theorem mn_in {C : Addr → Prop} {H : Hp} {a : Addr} (h : C a) : mn C H a = none := by unfold mn; rw [if_pos h]
theorem mn_out {C : Addr → Prop} {H : Hp} {a : Addr} (h : ¬ C a) : mn C H a = H a := by unfold mn; rw [if_neg h]
theorem pl_in {C : Addr → Prop} {H1 H : Hp} {a : Addr} (h : C a) : pl C H1 H a = H1 a := by unfold pl; rw [if_pos h]
theorem pl_out {C : Addr → Prop} {H1 H : Hp} {a : Addr} (h : ¬ C a) : pl C H1 H a = H a := by unfold pl; rw [if_neg h]
theorem mn_some {C : Addr → Prop} {H : Hp} {a : Addr} {o : HO} (h : mn C H a = some o) : ¬ C a ∧ H a = some o := by
  by_cases c : C a
  · rw [mn_in c] at h; cases h
  · rw [mn_out c] at h; exact ⟨c, h⟩
/-- a cell that is known besides -/
def isCe (x : Option HO) : Prop := ∃ o, x = some (.frz o (.own 0))
/-! ### R without the cells -/
mutual
def noC : D → Bool
  | .clo _ _ => false
  | .tup ds => noCs ds
  | .tux ds => noCs ds
  | .lst ds => noCs ds
  | .fz ds => noCs ds
  | .dic _ ds => noCs ds
  | .dit _ ds => noCs ds
  | _ => true
def noCs : List D → Bool
  | [] => true
  | d :: ds => noC d && noCs ds
end
section
variable {K : PySem.W.Frag} {G : Addr → Prop} {H H2 : Hp}
theorem SqT.sub (hs : ∀ a o, H a = some o → ¬ isCe (some o) → H2 a = some o) {a : Addr} {vs : List V} (h : SqT K H a vs) : SqT K H2 a vs := by
  rcases h with (h | ⟨o, h⟩) | h
  · exact .inl (.inl (hs _ _ h (fun ⟨_, z⟩ => by cases z)))
  · exact .inl (.inr ⟨o, hs _ _ h (fun ⟨_, z⟩ => by cases z)⟩)
  · exact .inr h
mutual
theorem R.sub (hs : ∀ a o, H a = some o → ¬ isCe (some o) → H2 a = some o) : ∀ {d : D} {v : V}, noC d = true → R K G H d v → R K G H2 d v
  | .non, _, _, h => by unfold R at h ⊢; exact h
  | .bl _, _, _, h => by unfold R at h ⊢; exact h
  | .int _, _, _, h => by unfold R at h ⊢; exact h
  | .str _, _, _, h => by unfold R at h ⊢; exact h
  | .tk _, _, _, h => by
    unfold R at h ⊢
    obtain ⟨a, e, s⟩ := h
    exact ⟨a, e, hs _ _ s (fun ⟨_, z⟩ => by cases z)⟩
  | .obj _, _, _, h => by unfold R at h ⊢; exact h
  | .clo _ _, _, q, _ => by unfold noC at q; cases q
  | .tup _, _, q, h => by
    unfold R at h ⊢
    unfold noC at q
    obtain ⟨a, vs, e, s, r⟩ := h
    exact ⟨a, vs, e, SqT.sub hs s, Rs.sub hs q r⟩
  | .lst _, _, q, h => by
    unfold R at h ⊢
    unfold noC at q
    obtain ⟨a, vs, e, s, g, r⟩ := h
    exact ⟨a, vs, e, hs _ _ s (fun ⟨_, z⟩ => by cases z), g, Rs.sub hs q r⟩
  | .fz _, _, q, h => by
    unfold R at h ⊢
    unfold noC at q
    obtain ⟨a, vs, e, s, r⟩ := h
    refine ⟨a, vs, e, ?_, Rs.sub hs q r⟩
    rcases s with ⟨o, s⟩ | s
    · exact .inl ⟨o, hs _ _ s (fun ⟨_, z⟩ => by cases z)⟩
    · exact .inr s
  | .dic _ _, _, q, h => by
    unfold R at h ⊢
    unfold noC at q
    obtain ⟨a, vs, e, s, l, g, r⟩ := h
    exact ⟨a, vs, e, hs _ _ s (fun ⟨_, z⟩ => by cases z), l, g, Rs.sub hs q r⟩
  | .dit _ _, _, q, h => by
    unfold R at h ⊢
    unfold noC at q
    obtain ⟨a, vs, e, s, l, g, r⟩ := h
    exact ⟨a, vs, e, hs _ _ s (fun ⟨_, z⟩ => by cases z), l, g, Rs.sub hs q r⟩
  | .un _, _, _, h => by
    unfold R at h ⊢
    obtain ⟨a, vs, e, s, l, g⟩ := h
    exact ⟨a, vs, e, hs _ _ s (fun ⟨_, z⟩ => by cases z), l, g⟩
  | .tux _, _, q, h => by
    unfold R at h ⊢
    unfold noC at q
    obtain ⟨a, vs, o, e, s, c, dn, r⟩ := h
    exact ⟨a, vs, o, e, hs _ _ s (fun ⟨_, z⟩ => by cases z), c, dn, Rs.sub hs q r⟩
theorem Rs.sub (hs : ∀ a o, H a = some o → ¬ isCe (some o) → H2 a = some o) : ∀ {ds : List D} {vs : List V}, noCs ds = true → Rs K G H ds vs → Rs K G H2 ds vs
  | [], _, _, h => by unfold Rs at h ⊢; exact h
  | _ :: _, _, q, h => by
    unfold Rs at h ⊢
    unfold noCs at q
    rw [Bool.and_eq_true] at q
    obtain ⟨v, r, e, h1, h2⟩ := h
    exact ⟨v, r, e, R.sub hs q.1 h1, Rs.sub hs q.2 h2⟩
end
end
instance {c q} : Nt (CodeO c q) := ⟨fun _ => codeO_ne _⟩
/-! ### a def made in a def, where its cells are known -/
structure CloAt (H : Hp) (f : Addr) (F : NF) (fr : List Str) (ws : List (Option V)) : Prop where
  fn : H f = some (FnO f F)
  code : H F.c = some (CodeO F.c F.qual)
  len : ws.length = fr.length
  all : ∀ y c, F.cl.lookup y = some c → ∃ o v, H c = some (.frz o (.own 0)) ∧ o.data = .cell v
  inj : ∀ x y c, F.cl.lookup x = some c → F.cl.lookup y = some c → x = y
  has : ∀ (i : Nat) (y : Str), fr[i]? = some y → ∃ c, F.cl.lookup y = some c ∧ ∀ v, ws[i]? = some (some v) → ∃ u o, RelV v u ∧ H c = some (.frz o (.own 0)) ∧ o.data = .cell (some u)
theorem CloAt.all' {H H' : Hp} {f : Addr} {F : NF} {fr : List Str} {ws : List (Option V)} (A : ∀ a o, H a = some o → ∀ [Nt o], H' a = some o) (c : CloAt H f F fr ws) : CloAt H' f F fr ws :=
  ⟨A _ _ c.fn, A _ _ c.code, c.len, fun y a e => let ⟨o, v, h1, h2⟩ := c.all y a e; ⟨o, v, A _ _ h1, h2⟩, c.inj, fun i y e => let ⟨a, h1, h2⟩ := c.has i y e; ⟨a, h1, fun v ev => let ⟨u, o, r, h3, h4⟩ := h2 v ev; ⟨u, o, r, A _ _ h3, h4⟩⟩⟩
/-- f may be called in H -/
def CallOk (P : Program) (w : World) (K : PySem.W.Frag) (mg : Str → Option Value) (base : Heap) (k : Nat) (H : Hp) (f : Addr) (sp : Sp) : Prop :=
  ∀ (A : Around) (outer : List Env) (s : Shared) (us : List Value) (vs : List V) (Q : VK) (E : XK), Room k A → Env0 P w K mg base A outer s H → Vals vs us → sp vs H Q E → codeAny (model P w) A (Code.call (.ref f) { pos := us }) (CR CX0 outer P w H s Q E) s
/-- what a def made in a def promises: on the data of what it finds around it, and of what it is given -/
abbrev SpN := List D → SpD
/-- tables and code objects stand without the cells too -/
theorem codeO_noce {c : Addr} {q : Str} : ¬ isCe (some (CodeO c q)) := fun ⟨_, z⟩ => by unfold CodeO at z; cases z
theorem tabs_sub {H H2 : Hp} (sb : ∀ a o, H a = some o → ¬ isCe (some o) → H2 a = some o) (t : TabsN Tabs.T H) : TabsN Tabs.T H2 := fun p hp => by
  obtain ⟨ps, h1, h2, h3⟩ := t p hp
  refine ⟨ps, sb _ _ h1 (fun ⟨_, z⟩ => by cases z), h2, fun pos cv hc => ?_⟩
  obtain ⟨c, e1, e2⟩ := h3 pos cv hc
  exact ⟨c, e1, sb _ _ e2 codeO_noce⟩
end DL

namespace DL
open PySem L2 NdefX LamX
variable [Tabs]
/-! ### a call that is handed defs made here: its cells are known besides meanwhile -/
def cellX (X : Cx) (a : Addr) : Prop := ∃ x, X.env.cells.lookup x = some a
structure Plus (X : Cx) (σ : L2.St) (H H2 : Hp) : Prop where
  out : ∀ a, ¬ cellX X a → H2 a = H a
  cin : ∀ a, cellX X a → H a = none ∧ isCe (H2 a)
  clo : ∀ F fr js f, Caps X F.cl fr js → H f = some (FnO f F) → H F.c = some (CodeO F.c F.qual) → CloAt H2 f F fr (js.map (slotAt σ))
theorem Plus.full {X : Cx} {σ : L2.St} {H H2 : Hp} (p : Plus X σ H H2) : ∀ a o, H a = some o → H2 a = some o := fun a o e => by
  by_cases c : cellX X a
  · rw [(p.cin a c).1] at e; cases e
  · rw [p.out a c]; exact e
theorem Plus.all {X : Cx} {σ : L2.St} {H H2 : Hp} (p : Plus X σ H H2) : All H H2 := .full p.full
theorem get_lt {h : Heap} {a : Addr} {o : Obj} (e : h.get? a = some o) : a < h.objs.size := by
  unfold Heap.get? at e
  cases q : h.objs[a]? with
  | none => rw [q] at e; cases e
  | some x => exact (Array.getElem?_eq_some_iff.mp q).1
theorem run_fnW {X : Cx} {k : Nat} {g : Addr} {fd : FuncData} {ps : List Str} {sp : Sp} {pins : List (Addr × Obj)} {σ : L2.St} {H : Hp} {s : Shared} {Q : VK} {us : List Value} {vs : List V} (F : FnOk X.prog X.w X.K X.mg X.base CX0 k g fd ps sp) (hr : Room k X.A) (hb : Binds X.K fd ps [])
    (hfn : ∀ x, X.fn x = true) (hst : X.stack = X.env :: X.outer) (hfr : X.env.frame = some X.env.locals) (I : L2.Inv X pins σ H s) (r : Vals vs us) (q : ∀ H2, Plus X σ H H2 → sp vs H2 (fun v H' => Q v (mn (cellX X) H')) (fun _ _ _ => False)) : wpAny (model X.prog X.w) X.A (call (.ref g) us) (EP X pins σ Q) X.xe s := by
  let H2 : Hp := pl (cellX X) (fun a => (s.heap.get? a).map fun o => .frz o (.own 0)) H
  have hcell : ∀ a, cellX X a → H a = none ∧ ∃ o v, s.heap.get? a = some o ∧ o.data = .cell v := fun a ⟨x, e⟩ => by
    obtain ⟨v, o, h1, h2⟩ := I.cell x a e
    exact ⟨I.freeC x a e, o, v, h1, h2⟩
  have h2in : ∀ {a}, cellX X a → ∃ o v, s.heap.get? a = some o ∧ o.data = .cell v ∧ H2 a = some (.frz o (.own 0)) := fun {a} c => by
    obtain ⟨_, o, v, h1, h2⟩ := hcell a c
    refine ⟨o, v, h1, h2, ?_⟩
    show pl _ _ _ _ = _
    rw [pl_in c, h1]; rfl
  have P : Plus X σ H H2 := by
    refine ⟨fun a c => pl_out c, fun a c => ⟨(hcell a c).1, ?_⟩, fun F fr js f cp hf hcf => ?_⟩
    · obtain ⟨o, v, _, _, h⟩ := h2in c
      exact ⟨o, h⟩
    · have hfc : ¬ cellX X f := fun c => by rw [(hcell f c).1] at hf; cases hf
      have ce := cells_of I cp
      refine ⟨(pl_out hfc).trans hf, (pl_out (fun c => by rw [(hcell _ c).1] at hcf; cases hcf)).trans hcf, ce.len, fun y c e => ?_, ce.inj, fun i y e => ?_⟩
      · obtain ⟨o, v, _, h2, h3⟩ := h2in (a := c) ⟨y, cp.sub y c e⟩
        exact ⟨o, v, h3, h2⟩
      · obtain ⟨c, h1, h2⟩ := ce.has i y e
        refine ⟨c, h1, fun v ev => ?_⟩
        obtain ⟨u, ru, o, ho, hd⟩ := h2 v ev
        obtain ⟨o', v', g1, g2, g3⟩ := h2in (a := c) ⟨y, cp.sub y c h1⟩
        rw [ho] at g1
        cases g1
        exact ⟨u, o, ru, g3, hd⟩
  have E0 := Inv.env0 I
  have A : All H H2 := P.all
  have hok2 : HOk X.prog X.w H2 s.heap := fun a o e => by
    by_cases c : cellX X a
    · obtain ⟨o', v', g1, g2, g3⟩ := h2in c
      rw [g3] at e
      cases e
      unfold ObjOk
      exact ⟨g1, by unfold ObjOk; exact ⟨o', g1⟩⟩
    · rw [P.out a c] at e
      exact ObjOk.rel (fun q xs e => A _ _ e) (fun q x e => A _ _ e) (E0.hok a o e)
  have fz : ∀ a, cellX X a → a ∉ frs X.stack := fun a ⟨x, e⟩ z => by
    rw [hst] at z
    unfold frs at z
    rw [List.filterMap_cons_some hfr] at z
    rcases List.mem_cons.mp z with z | z
    · obtain ⟨v, o, ho, hd⟩ := I.cell x a e
      obtain ⟨m, ⟨o', es, ep, h1, h2, _⟩, _⟩ := I.loc
      rw [z] at ho
      rw [ho] at h1
      cases h1
      rw [hd] at h2
      cases h2
    · obtain ⟨_, o, ho, _⟩ := Heap.FunFrames.mem I.ok.funs z
      have h1 := I.ok.cab x a (hfn x) e
      exact absurd (get_lt ho) (Nat.not_lt.mpr h1)
  have E2 : Env0 X.prog X.w X.K X.mg X.base X.A X.stack s H2 := ⟨E0.frames, E0.mod, fun b o e => ⟨(E0.bs b o e).1, ?_⟩, E0.bsz, E0.funs, fun b e => ?_, hok2, E0.bare⟩
  · have hl := F.len vs H2 _ _ (q H2 P)
    have r2 : Vals (vs ++ []) (us ++ []) := by rw [List.append_nil, List.append_nil]; exact r
    refine wpAny_call (codeAny_mono (F.run X.A X.stack s H2 { pos := us } (us ++ []) vs (fun v H' => Q v (mn (cellX X) H')) _ hr E2 (hb s us (Inv.kIn I) (by rw [List.append_nil, ← Vals.length r]; exact hl)) (by rw [List.append_nil]; exact r) (q H2 P)) ?_)
    rintro rr s' hq
    unfold CR at hq
    cases rr with
    | error e => exact hq.elim
    | ok fl =>
      cases fl with
      | ret u =>
        obtain ⟨v, H', h1, h2, un, hok, hr', q'⟩ := hq
        refine Inv.after I ⟨v, mn (cellX X) H', h1, h2, ⟨fun b o e1 e2 e3 e4 => ?_, fun b o e1 e2 e3 e4 => ?_, fun b o e1 e2 e3 => ?_, un.there, fun b xs e => ?_, fun b o u e => ?_, fun b ps e => ?_⟩, fun b o e => ?_, hr', q'⟩
        · by_cases c : cellX X b
          · obtain ⟨o', v', g1, g2, g3⟩ := h2in c
            rw [e1] at g1
            cases g1
            have := hok b _ (un.frzs b _ _ g3)
            unfold ObjOk at this
            exact this.1
          · exact un.keep b o e1 ((P.out b c).trans e2) e3 e4
        · by_cases c : cellX X b
          · exact absurd e3 (fz b c)
          · exact un.slot b o e1 ((P.out b c).trans e2) e3 e4
        · by_cases c : cellX X b
          · exact mn_in c
          · rw [mn_out c]
            exact un.free b o e1 ((P.out b c).trans e2) e3
        · have c : ¬ cellX X b := fun c => by rw [(hcell b c).1] at e; cases e
          rw [mn_out c]
          exact un.tups b xs ((P.out b c).trans e)
        · have c : ¬ cellX X b := fun c => by rw [(hcell b c).1] at e; cases e
          rw [mn_out c]
          exact un.frzs b o u ((P.out b c).trans e)
        · have c : ¬ cellX X b := fun c => by rw [(hcell b c).1] at e; cases e
          rw [mn_out c]
          exact un.tbls b ps ((P.out b c).trans e)
        · obtain ⟨c, e⟩ := mn_some e
          have sb : ∀ q o, H' q = some o → ¬ isCe (some o) → mn (cellX X) H' q = some o := fun q o e n => by
            by_cases c : cellX X q
            · obtain ⟨o', v', g1, g2, g3⟩ := h2in c
              rw [un.frzs q _ _ g3] at e
              cases e
              exact (n ⟨_, rfl⟩).elim
            · rw [mn_out c]; exact e
          exact ObjOk.rel (fun q xs e => sb _ _ e (fun ⟨_, z⟩ => by cases z)) (fun q x e => sb _ _ e (fun ⟨_, z⟩ => by cases z)) (hok b o e)
      | _ => exact hq.elim
  · by_cases c : cellX X b
    · obtain ⟨o', v', g1, g2, g3⟩ := h2in c
      have h0 := I.ok.bs b o e
      obtain ⟨x, ex⟩ := c
      have h1 := I.ok.cab x b (hfn x) ex
      exact absurd (get_lt h0.1) (Nat.not_lt.mpr h1)
    · exact (P.out b c).trans (E0.bs b o e).2
  · by_cases c : cellX X b
    · exact absurd e (fz b c)
    · exact (P.out b c).trans (E0.frf b e)
end DL

namespace DL
open PySem L2 NdefX LamX
variable [Tabs]
/-! ### what a def made in a def is, handed on -/
structure CS where
  nf : Addr → NF
  fr : List Str
  js : List Nat
  sp : SpN
/-- the data in the slots js -/
def capsAt (ρ : En) : List Nat → List D → Prop
  | [], ds => ds = []
  | j :: js, ds => ∃ d r, ds = d :: r ∧ (ρ.getD j .no ≠ .no) ∧ (obS (ρ.getD j .no)).d = d ∧ capsAt ρ js r
/-- the arguments, the defs made here among them (ps: which) -/
inductive ArgW (cφ : Hp → SpD → V → Prop) (ρ : En) (H0 : Hp) : List Rv → List (Option CS) → List D → Prop
  | nil : ArgW cφ ρ H0 [] [] []
  | val {r : Rv} {rs : List Rv} {ps : List (Option CS)} {ds : List D} : ArgW cφ ρ H0 rs ps ds → ArgW cφ ρ H0 (r :: rs) (none :: ps) ((ob ρ r).d :: ds)
  | clo {f c' : Addr} {Hd : Hp} {g : Fr} {cs : CS} {dc : List D} {rs : List Rv} {ps : List (Option CS)} {ds : List D} : Hd f = some (FnO f (cs.nf c')) → Hd (cs.nf c').c = some (CodeO (cs.nf c').c (cs.nf c').qual) → capsAt ρ cs.js dc → (∀ es Pd, cs.sp dc es Pd → noCs es = true) → ArgW cφ ρ H0 rs ps ds →
      ArgW cφ ρ H0 (.v (.clo Hd (fun v => v = .ref f)) g :: rs) (some cs :: ps) (.clo H0 (cφ H0 (cs.sp dc)) :: ds)
def dCallW (cφ : Hp → SpD → V → Prop) (sp : SpD) (ps : List (Option CS)) (t : TL) : TD := fun ρ Q => t ρ fun rs ρ1 => ∀ H0 : Hp, ∃ ds, ArgW cφ ρ1 H0 rs ps ds ∧ sp ds fun d => noC d = true ∧ Q (.v d .n) ρ1
section
variable {K : PySem.W.Frag} {B : Bx} {H H1 H2 Hs : Hp} {σ : L2.St} {ρ : En}
theorem caps_rs (k : Ok K B H σ ρ) : ∀ {js : List Nat} {ds : List D}, capsAt ρ js ds → ∃ us : List V, js.map (NdefX.slotAt σ) = us.map some ∧ Rs K (fun _ => True) H ds us
  | [], _, h => by
    unfold capsAt at h
    subst h
    exact ⟨[], rfl, Rs.nil⟩
  | j :: js, _, h => by
    unfold capsAt at h
    obtain ⟨d, r, rfl, hn, hd, h⟩ := h
    obtain ⟨us, e, rs⟩ := caps_rs k h
    have es : ρ[j]? = some (ρ.getD j .no) := getD_some rfl hn
    have go : ∃ v, σ[j]? = some (some v) ∧ R K (fun _ => True) H d v := by
      have q := k.sl j _ es
      cases z : ρ.getD j .no with
      | no => exact absurd z hn
      | val d' f =>
        rw [z] at q hd
        obtain ⟨v, e1, e2⟩ := q
        exact ⟨v, e1, hd ▸ e2.mono Keep.refl fun _ _ _ => True.intro⟩
      | ml ds f =>
        rw [z] at q hd
        obtain ⟨p, vs, e1, e2, e3, _⟩ := q
        refine ⟨_, e1, hd ▸ ?_⟩
        show R K _ H (.lst ds) _
        unfold R
        exact ⟨p, vs, rfl, e2, True.intro, e3.mono Keep.refl fun _ _ _ => True.intro⟩
      | mp n ds =>
        rw [z] at q hd
        obtain ⟨p, vs, e1, e2, e3, _⟩ := q
        refine ⟨_, e1, hd ▸ ?_⟩
        show R K _ H (.lst ds) _
        unfold R
        exact ⟨p, vs, rfl, e2, True.intro, e3.mono Keep.refl fun _ _ _ => True.intro⟩
      | md ks ds f =>
        rw [z] at q hd
        obtain ⟨p, vs, e1, e2, l, e3, _⟩ := q
        refine ⟨_, e1, hd ▸ ?_⟩
        show R K _ H (.dic ks ds) _
        unfold R
        exact ⟨p, vs, rfl, e2, l, True.intro, e3.mono Keep.refl fun _ _ _ => True.intro⟩
      | mt ks ds f =>
        rw [z] at q hd
        obtain ⟨p, vs, e1, e2, l, e3, _⟩ := q
        refine ⟨_, e1, hd ▸ ?_⟩
        show R K _ H (.dit ks ds) _
        unfold R
        exact ⟨p, vs, rfl, e2, l, True.intro, e3.mono Keep.refl fun _ _ _ => True.intro⟩
    obtain ⟨v, ev, rv⟩ := go
    refine ⟨v :: us, ?_, Rs.cons rv rs⟩
    rw [List.map_cons, List.map_cons, e]
    congr 1
    unfold NdefX.slotAt
    rw [ev]
end
end DL

namespace DL
open PySem L2 NdefX LamX
variable [Tabs]
/-! ### THE RULE for a def in a def -/
theorem startF_eq {N : List Str} {vs us : List V} : startF N vs (us.map some) = L2.start N (vs ++ us) := by
  unfold startF L2.start
  rw [List.map_append, List.length_append, List.length_map, List.append_assoc, Nat.sub_sub]
/-! ### THE RULE for a def with defs in it: i, what is made in it -/
theorem dfnF {P : Program} {w : World} {K : PySem.W.Frag} {mg : Str → Option Value} {base : Heap} {x qual : Str} {st : Stmt} {f : Addr} {N ps : List Str} {k : Nat} {sp : SpD} {oc kV doc pm cdv ct : Value} {od an : Option Addr} {osl : Array (Option Value)} {ι : Type} {t : ι → TSD} (mk : Cx → ι)
    (lk : K.lookup f = some ⟨oc, od, .func (PySem.W.fnOf x qual (defArgs st) (defBody st) (defScope st) .none kV doc pm an cdv ct), osl⟩) (hcd : PySem.W.codeIn K cdv qual = true) (S : FnScope N ps (defScope st)) (hN : ps.length ≤ N.length) (len : ∀ ds Q, sp ds Q → ds.length = ps.length)
    (hbody : ∀ (A : Around) (outer : List Env) (s : Shared) (H : Hp) (E : XK), Room k (A.deeper (PyProof.Rows.envOfC qual (defScope st) s.heap.objs.size f cdv)) → ∀ i, i = mk (cxOf CX0 P w K mg base N qual (defScope st) f cdv A outer s H E).nox → DSs (cxOf CX0 P w K mg base N qual (defScope st) f cdv A outer s H E).nox (defBody st) (t i))
    (hrd : ∀ i ds Q, sp ds Q → t i ⟨fun _ => Q .non, fun d _ => Q d, fun _ => False, fun _ => False⟩ (ini N.length ds)) : FnOk P w K mg base CX0 (k + 1) f (PySem.W.fnOf x qual (defArgs st) (defBody st) (defScope st) .none kV doc pm an cdv ct) ps (spP K sp) := by
  refine fn_of lk hcd S (fun vs H Q E ⟨ds, Pd, r, _, h, _⟩ => by rw [← r.len]; exact len ds Pd h) fun A outer s H vs Q E hr ⟨ds, Pd, r, tb, h, fin⟩ => ?_
  obtain ⟨ts, hp, ev⟩ := hbody A outer s H E hr _ rfl
  have hvl : vs.length = ps.length := by rw [← r.len]; exact len ds Pd h
  refine ⟨ts, PSs.nox hp, ev ⟨H, [], []⟩ _ _ _ _ _ (ok_ini (by omega) tb r) (hrd _ ds Pd h) ⟨fun σ' H' ρ' k s q => ?_, fun v H' σ' ρ' d k r q => ?_, fun _ _ _ _ _ q => q, fun _ _ _ _ _ q => q⟩⟩
  · exact fin .non .non H' q (k.base0 rfl) R.n
  · exact fin d v H' q (k.base0 rfl) r
end DL

namespace DM
open PySem L2 DL
/-! ### zip of two things of unlike sorts: what a source of items does -/
structure Src (w : World) (prog : Program) (p l : Addr) (J : Heap → Nat → Prop) (X : Heap → Array Value → Prop) : Prop where
  item : ∀ {A : Around} {E : Value → Shared → Prop} {s : Shared} {i : Nat} {its : Array Value} {x : Value} {Q : Value → Shared → Prop}, J s.heap i → X s.heap its → its[i]? = some x →
    (∀ h', J h' (i + 1) → Heap.SameBut p s.heap h' → Q x { s with heap := h' }) → wpAny (model prog w) A (Builtin.SmallTypes.nextOf (.ref p)) Q E s
  stop : ∀ {A : Around} {E : Value → Shared → Prop} {s : Shared} {i : Nat} {its : Array Value} {Q : Value → Shared → Prop}, A.handled = none → J s.heap i → X s.heap its → its[i]? = none →
    (∀ h' e, Heap.ExtBut p s.heap h' → (∃ o, h'.get? e = some o ∧ o.cls = .type "StopIteration") → E (.ref e) { s with heap := h' }) → wpAny (model prog w) A (Builtin.SmallTypes.nextOf (.ref p)) Q E s
  at1 : ∀ {h h' : Heap} {i : Nat}, J h i → (∀ o, h.get? p = some o → h'.get? p = some o) → J h' i
  at2 : ∀ {h h' : Heap} {its : Array Value}, X h its → (∀ o, h.get? l = some o → h'.get? l = some o) → X h' its
  its1 : ∀ {h : Heap} {i : Nat}, J h i → ∃ o, h.get? p = some o ∧ ∀ v, o.data ≠ .cell v
theorem srcT {w : World} {prog : Program} {p l : Addr} : Src w prog p l (fun h i => h.IsTupleIter p l i) (fun h its => h.IsTuple l its) where
  item := RZ.nextOf_tuple_item
  stop := RZ.nextOf_tuple_end
  at1 := fun x e => x.at e
  at2 := fun ⟨o, h, r⟩ e => ⟨o, e o h, r⟩
  its1 := fun ⟨o, h, _, d⟩ => ⟨o, h, fun v z => by rw [d] at z; cases z⟩
theorem srcL {w : World} {prog : Program} {p l : Addr} : Src w prog p l (fun h i => h.IsListIter p l i) (fun h its => h.IsList l its) where
  item := wpAny_nextOf_list_item
  stop := wpAny_nextOf_list_end
  at1 := fun x e => x.at e
  at2 := fun ⟨o, h, r⟩ e => ⟨o, e o h, r⟩
  its1 := fun ⟨o, h, _, d⟩ => ⟨o, h, fun v z => by rw [d] at z; cases z⟩
section
variable {prog : Program} {w : World} {A : Around} {E : Value → Shared → Prop} {s : Shared} {z TI TO p1 p2 l1 l2 : Addr} {k : Nat} {J1 J2 : Heap → Nat → Prop} {X1 X2 : Heap → Array Value → Prop} {c1 c2 : Array Value} {a b : Value}
theorem item2 (S1 : Src w prog p1 l1 J1 X1) (S2 : Src w prog p2 l2 J2 X2) {x y : Value} {Q : Value → Shared → Prop} (D : ZipApart z TI TO p1 p2 l1 l2) (gz : IsZip s.heap z TI TO .none) (gI : IsPair s.heap TI (.ref p1) (.ref p2)) (gO : IsPair s.heap TO a b)
    (j1 : J1 s.heap k) (j2 : J2 s.heap k) (i1 : X1 s.heap c1) (i2 : X2 s.heap c2) (ex : c1[k]? = some x) (ey : c2[k]? = some y)
    (fin : ∀ h', IsZip h' z TI TO (rawInt s.heap.objs.size) → IsPair h' TO x y → J1 h' (k + 1) → J2 h' (k + 1) → IsPair h' s.heap.objs.size x y → h'.objs.size = s.heap.objs.size + 1 →
      (∀ c o, c ≠ z → c ≠ TO → c ≠ p1 → c ≠ p2 → s.heap.get? c = some o → h'.get? c = some o) → Q (.ref s.heap.objs.size) { s with heap := h' }) :
    wpAny (model prog w) A (Builtin.«zip.__next__» ⟨[.ref z], []⟩) (fun f s' => ∃ v, f = .done (.ret v) ∧ Q v s') E s := by
  refine (?_ : wpAny _ _ (field (.ref z) 2 >>= _) _ _ _)
  refine wpAny_bind (wpAny_field gz rfl (x := .bool false) rfl (?_ : wpAny _ _ (field (.ref z) 3 >>= _) _ _ _))
  refine wpAny_bind (wpAny_field gz rfl (x := .ref TI) rfl (wpAny_bind (wpAny_seqItems gI rfl (?_ : wpAny _ _ (Builtin.SmallTypes.ownedTupleIsFree (.ref z) >>= _) _ _ _))))
  refine wpAny_bind ?_
  unfold Builtin.SmallTypes.ownedTupleIsFree
  refine wpAny_bind (wpAny_field gz rfl (x := .none) rfl (wpAny_pure ?_))
  simp only [if_true]
  refine wpAny_bind (wpAny_rule (wpAny_bind (wpAny_field gz rfl (x := .ref TO) rfl (wpAny_bind (wpAny_setField_rec gz (by simp) fun ha za sa => ?_)))))
  have za : IsZip ha z TI TO .ellipsis := za
  have ea := sa.extBut
  refine wpAny_bind ?_
  simp only [List.zipIdx_cons, List.zipIdx_nil, List.forIn_cons, List.forIn_nil]
  refine wpAny_bind (wpAny_bind (wpAny_onRaise (?_ : wpAny _ _ (Builtin.SmallTypes.nextOf (.ref p1) >>= _) _ _ _)))
  refine wpAny_bind (S1.item (S1.at1 j1 fun o e => ea _ o D.i1z e) (S1.at2 i1 fun o e => ea _ o D.l1z e) ex fun hb jb sb => wpAny_pure ?_)
  have eb := sb.extBut
  have Ob : IsPair hb TO a b := eb _ _ D.TOi1 (ea _ _ D.TOz gO)
  refine wpAny_bind (wpAny_seqItems Ob rfl (wpAny_bind (wpAny_updateSeq_pair Ob fun hc Oc sc => ?_)))
  have Oc : IsPair hc TO x b := Oc
  have ec := sc.extBut
  refine wpAny_bind (wpAny_letGo (wpAny_pure (wpAny_bind (wpAny_bind (wpAny_onRaise (?_ : wpAny _ _ (Builtin.SmallTypes.nextOf (.ref p2) >>= _) _ _ _))))))
  refine wpAny_bind (S2.item (S2.at1 j2 fun o e => ec _ o D.TOi2.symm (eb _ o D.i12.symm (ea _ o D.i2z e))) (S2.at2 i2 fun o e => ec _ o D.l2TO (eb _ o D.l2i1 (ea _ o D.l2z e))) ey fun hd jd sd => wpAny_pure ?_)
  have ed := sd.extBut
  have Od : IsPair hd TO x b := ed _ _ D.TOi2 Oc
  refine wpAny_bind (wpAny_seqItems Od rfl (wpAny_bind (wpAny_updateSeq_pair Od fun he Oe se => ?_)))
  have Oe : IsPair he TO x y := Oe
  have ee := se.extBut
  refine wpAny_bind (wpAny_letGo (wpAny_pure (wpAny_pure (wpAny_bind (wpAny_seqItems Oe rfl (wpAny_bind (wpAny_newTuple ?_)))))))
  have size0 : he.objs.size = s.heap.objs.size := by rw [se.1, sd.1, sc.1, sb.1, sa.1]
  have ze : IsZip he z TI TO .ellipsis := ee _ _ D.TOz.symm (ed _ _ D.i2z.symm (ec _ _ D.TOz.symm (eb _ _ D.i1z.symm za)))
  have all : ∀ c o, c ≠ z → c ≠ TO → c ≠ p1 → c ≠ p2 → s.heap.get? c = some o → he.get? c = some o := fun c o n1 n2 n3 n4 e => ee _ _ n2 (ed _ _ n4 (ec _ _ n2 (eb _ _ n3 (ea _ _ n1 e))))
  have k1 : J1 he (k + 1) := S1.at1 jb fun o e => ee _ o D.TOi1.symm (ed _ o D.i12 (ec _ o D.TOi1.symm e))
  have k2 : J2 he (k + 1) := S2.at1 jd fun o e => ee _ o D.TOi2.symm e
  have ltz : z < he.objs.size := Heap.lt_size ze
  refine (?_ : wpAny _ _ (Builtin.SmallTypes.ownedTupleHandOut (.ref z) (.ref he.objs.size) >>= _) _ _ _)
  refine wpAny_bind ?_
  unfold Builtin.SmallTypes.ownedTupleHandOut
  have zf : IsZip (he.push { cls := .type "tuple", data := .seq #[x, y] }) z TI TO .ellipsis := Heap.get?_push_of_some _ ze
  refine wpAny_bind (wpAny_setField_rec zf (by simp) fun hg zg sg => ?_)
  have zg : IsZip hg z TI TO (rawInt he.objs.size) := zg
  refine wpAny_setField_rec zg (by simp) fun hh zh sh => ?_
  have zh : IsZip hh z TI TO (rawInt he.objs.size) := zh
  have up : ∀ c o, c ≠ z → he.get? c = some o → hh.get? c = some o := fun c o n e => sh.extBut _ _ n (sg.extBut _ _ n (Heap.get?_push_of_some _ e))
  have Th : IsPair hh he.objs.size x y := sh.extBut _ _ (Nat.ne_of_gt ltz) (sg.extBut _ _ (Nat.ne_of_gt ltz) (Heap.get?_push_size _ rfl))
  have sizeh : hh.objs.size = he.objs.size + 1 := by rw [sh.1, sg.1, Heap.size_push]
  rw [size0] at zh Th sizeh
  refine wpAny_pure ⟨_, rfl, (?_ : Q (.ref he.objs.size) _)⟩
  rw [size0]
  exact fin hh zh (up _ _ D.TOz Oe) (S1.at1 k1 fun o e => up _ o D.i1z e) (S2.at1 k2 fun o e => up _ o D.i2z e) Th sizeh fun c o n1 n2 n3 n4 e => up c o n1 (all c o n1 n2 n3 n4 e)
theorem stop2 (S1 : Src w prog p1 l1 J1 X1) (S2 : Src w prog p2 l2 J2 X2) {Q : PySem.Fin → Shared → Prop} (hn : A.handled = none) (D : ZipApart z TI TO p1 p2 l1 l2) (gz : IsZip s.heap z TI TO .none) (gI : IsPair s.heap TI (.ref p1) (.ref p2)) (gO : IsPair s.heap TO a b)
    (j1 : J1 s.heap k) (j2 : J2 s.heap k) (i1 : X1 s.heap c1) (i2 : X2 s.heap c2) (out : c1[k]? = none ∨ c2[k]? = none)
    (fin : ∀ h' e, (∀ c o, c ≠ z → c ≠ TO → c ≠ p1 → c ≠ p2 → s.heap.get? c = some o → h'.get? c = some o) → (∃ o, h'.get? e = some o ∧ o.cls = .type "StopIteration") → E (.ref e) { s with heap := h' }) :
    wpAny (model prog w) A (Builtin.«zip.__next__» ⟨[.ref z], []⟩) Q E s := by
  refine (?_ : wpAny _ _ (field (.ref z) 2 >>= _) _ _ _)
  refine wpAny_bind (wpAny_field gz rfl (x := .bool false) rfl (?_ : wpAny _ _ (field (.ref z) 3 >>= _) _ _ _))
  refine wpAny_bind (wpAny_field gz rfl (x := .ref TI) rfl (wpAny_bind (wpAny_seqItems gI rfl (?_ : wpAny _ _ (Builtin.SmallTypes.ownedTupleIsFree (.ref z) >>= _) _ _ _))))
  refine wpAny_bind ?_
  unfold Builtin.SmallTypes.ownedTupleIsFree
  refine wpAny_bind (wpAny_field gz rfl (x := .none) rfl (wpAny_pure ?_))
  simp only [if_true]
  refine wpAny_bind (wpAny_rule (wpAny_bind (wpAny_field gz rfl (x := .ref TO) rfl (wpAny_bind (wpAny_setField_rec gz (by simp) fun ha za sa => ?_)))))
  have za : IsZip ha z TI TO .ellipsis := za
  have ea := sa.extBut
  refine wpAny_bind ?_
  simp only [List.zipIdx_cons, List.zipIdx_nil, List.forIn_cons, List.forIn_nil]
  refine wpAny_bind (wpAny_bind (wpAny_onRaise (?_ : wpAny _ _ (Builtin.SmallTypes.nextOf (.ref p1) >>= _) _ _ _)))
  cases ex : c1[k]? with
  | none =>
    refine wpAny_bind (S1.stop hn (S1.at1 j1 fun o e => ea _ o D.i1z e) (S1.at2 i1 fun o e => ea _ o D.l1z e) ex fun hb e eb he => ?_)
    obtain ⟨oe, g, gc⟩ := he
    have zb : IsZip hb z TI TO .ellipsis := eb _ _ D.i1z.symm za
    have ne : e ≠ z := fun q => by subst q; rw [zb] at g; cases g; simp at gc
    refine wpAny_setField_rec zb (by simp) fun hc _ sc => fin hc e (fun c o n1 _ n3 _ q => sc.extBut _ _ n1 (eb _ _ n3 (ea _ _ n1 q))) ⟨oe, sc.extBut _ _ ne g, gc⟩
  | some x =>
    have ey : c2[k]? = none := by rcases out with q | q; (rw [ex] at q; cases q); exact q
    refine wpAny_bind (S1.item (S1.at1 j1 fun o e => ea _ o D.i1z e) (S1.at2 i1 fun o e => ea _ o D.l1z e) ex fun hb jb sb => wpAny_pure ?_)
    have eb := sb.extBut
    have Ob : IsPair hb TO a b := eb _ _ D.TOi1 (ea _ _ D.TOz gO)
    refine wpAny_bind (wpAny_seqItems Ob rfl (wpAny_bind (wpAny_updateSeq_pair Ob fun hc Oc sc => ?_)))
    have ec := sc.extBut
    refine wpAny_bind (wpAny_letGo (wpAny_pure (wpAny_bind (wpAny_bind (wpAny_onRaise (?_ : wpAny _ _ (Builtin.SmallTypes.nextOf (.ref p2) >>= _) _ _ _))))))
    refine wpAny_bind (S2.stop hn (S2.at1 j2 fun o e => ec _ o D.TOi2.symm (eb _ o D.i12.symm (ea _ o D.i2z e))) (S2.at2 i2 fun o e => ec _ o D.l2TO (eb _ o D.l2i1 (ea _ o D.l2z e))) ey fun hd e ed he => ?_)
    obtain ⟨oe, g, gc⟩ := he
    have zd : IsZip hd z TI TO .ellipsis := ed _ _ D.i2z.symm (ec _ _ D.TOz.symm (eb _ _ D.i1z.symm za))
    have ne : e ≠ z := fun q => by subst q; rw [zd] at g; cases g; simp at gc
    refine wpAny_setField_rec zd (by simp) fun hf _ sf => fin hf e (fun c o n1 n2 n3 n4 q => sf.extBut _ _ n1 (ed _ _ n4 (ec _ _ n2 (eb _ _ n3 (ea _ _ n1 q))))) ⟨oe, sf.extBut _ _ ne g, gc⟩
end
end DM

namespace DM
open PySem L2 DL
abbrev hI (h : Heap) (l1 : Addr) : Heap := h.push { cls := .type "tuple_iterator", data := .fields #[.ref l1, .int 0 0] }
abbrev hJ (h : Heap) (l1 l2 : Addr) : Heap := (hI h l1).push { cls := .type "list_iterator", data := .fields #[.ref l2, .int 0 0] }
abbrev hP (h : Heap) (l1 l2 : Addr) : Heap := (hJ h l1 l2).push { cls := .type "tuple", data := .seq #[.ref h.objs.size, .ref (hI h l1).objs.size] }
abbrev hO (h : Heap) (l1 l2 : Addr) : Heap := (hP h l1 l2).push { cls := .type "tuple", data := .seq #[.none, .none] }
abbrev hZ (h : Heap) (l1 l2 : Addr) : Heap := (hO h l1 l2).push { cls := .type "zip", data := .fields #[.none, .bool false, .bool false, .ref (hJ h l1 l2).objs.size, .ref (hP h l1 l2).objs.size] }
theorem new_tl (l1 l2 : Addr) (c1 c2 : Array Value) : Meets (Builtin.«zip.__new__» ⟨[.type "zip", .ref l1, .ref l2], []⟩) (fun _ R s => s.heap.IsTuple l1 c1 ∧ s.heap.IsList l2 c2 ∧ R (.ok (.ret (.ref (hO s.heap l1 l2).objs.size))) { s with heap := hZ s.heap l1 l2 }) :=
  .of_wp fun prog w A R s q => by
    obtain ⟨h0, gn, dr, tk, os⟩ := s
    obtain ⟨q1, q2, q⟩ := q
    have sz := sub_zip
    have t1 : Heap.IsTuple (Shared.heap ⟨h0, gn, dr, tk, os⟩) l1 c1 := q1
    have t2 : Heap.IsList (Shared.heap ⟨h0.push { cls := .type "tuple_iterator", data := .fields #[.ref l1, .int 0 0] }, gn, dr, tk, os⟩) l2 c2 := Heap.IsList.push q2 _
    wp_walk using wpAny_pyIter_tuple t1, wpAny_pyIter_list t2
    exact ⟨_, rfl, q⟩
section
variable {prog : Program} {w : World} {A : Around} {E : Value → Shared → Prop} {s : Shared} {l1 l2 : Addr} {c1 c2 : Array Value}
theorem push_up {h : Heap} {o u : Obj} {c : Addr} (e : h.get? c = some o) : (h.push u).get? c = some o := Heap.get?_push_of_some _ e
theorem call_tl {Q : Value → Shared → Prop} (q1 : s.heap.IsTuple l1 c1) (q2 : s.heap.IsList l2 c2)
    (fin : ∀ h', IsZip h' (s.heap.objs.size + 4) (s.heap.objs.size + 2) (s.heap.objs.size + 3) .none → IsPair h' (s.heap.objs.size + 2) (.ref s.heap.objs.size) (.ref (s.heap.objs.size + 1)) → IsPair h' (s.heap.objs.size + 3) .none .none →
      h'.IsTupleIter s.heap.objs.size l1 0 → h'.IsListIter (s.heap.objs.size + 1) l2 0 → (∀ c o, s.heap.get? c = some o → h'.get? c = some o) → Q (.ref (s.heap.objs.size + 4)) { s with heap := h' }) :
    wpAny (model prog w) A (call (.type "zip") [.ref l1, .ref l2]) Q E s := by
  refine callType_new F.called_zip (by decide) (F.typeCall_zip_2 _ _) (F.newCall_zip_2 _ _) (fun obj => F.args_object_init_3 obj _ _) F.entry_zip_new (new_tl l1 l2 c1 c2) ⟨q1, q2, (?_ : _ ∧ _)⟩
  have e1 : (hI s.heap l1).objs.size = s.heap.objs.size + 1 := Heap.size_push ..
  have e2 : (hJ s.heap l1 l2).objs.size = s.heap.objs.size + 2 := by rw [Heap.size_push, e1]
  have e3 : (hP s.heap l1 l2).objs.size = s.heap.objs.size + 3 := by rw [Heap.size_push, e2]
  have e4 : (hO s.heap l1 l2).objs.size = s.heap.objs.size + 4 := by rw [Heap.size_push, e3]
  have f5 : (hZ s.heap l1 l2).get? (hO s.heap l1 l2).objs.size = some { cls := .type "zip", data := .fields #[.none, .bool false, .bool false, .ref (hJ s.heap l1 l2).objs.size, .ref (hP s.heap l1 l2).objs.size] } := Heap.get?_push_size _ rfl
  have f4 : (hZ s.heap l1 l2).get? (hP s.heap l1 l2).objs.size = some { cls := .type "tuple", data := .seq #[.none, .none] } := push_up (Heap.get?_push_size _ rfl)
  have f3 : (hZ s.heap l1 l2).get? (hJ s.heap l1 l2).objs.size = some { cls := .type "tuple", data := .seq #[.ref s.heap.objs.size, .ref (hI s.heap l1).objs.size] } := push_up (push_up (Heap.get?_push_size _ rfl))
  have f2 : (hZ s.heap l1 l2).get? (hI s.heap l1).objs.size = some { cls := .type "list_iterator", data := .fields #[.ref l2, .int 0 0] } := push_up (push_up (push_up (Heap.get?_push_size _ rfl)))
  have f1 : (hZ s.heap l1 l2).get? s.heap.objs.size = some { cls := .type "tuple_iterator", data := .fields #[.ref l1, .int 0 0] } := push_up (push_up (push_up (push_up (Heap.get?_push_size _ rfl))))
  rw [e2, e3, e4] at f5
  rw [e1, e2] at f3
  rw [e3] at f4
  rw [e1] at f2
  rw [e4]
  exact ⟨⟨_, f5, rfl⟩, fin _ f5 f3 f4 ⟨_, f1, rfl, rfl⟩ ⟨_, f2, rfl, rfl⟩ fun c o x => push_up (push_up (push_up (push_up (push_up x))))⟩
theorem next_item {z TI TO p1 p2 : Addr} {k : Nat} {x y a b : Value} {Q : Option Value → Shared → Prop} (D : ZipApart z TI TO p1 p2 l1 l2) (gz : IsZip s.heap z TI TO .none) (gI : IsPair s.heap TI (.ref p1) (.ref p2)) (gO : IsPair s.heap TO a b)
    (j1 : s.heap.IsTupleIter p1 l1 k) (j2 : s.heap.IsListIter p2 l2 k) (i1 : s.heap.IsTuple l1 c1) (i2 : s.heap.IsList l2 c2) (ex : c1[k]? = some x) (ey : c2[k]? = some y)
    (fin : ∀ h', IsZip h' z TI TO (rawInt s.heap.objs.size) → IsPair h' TO x y → h'.IsTupleIter p1 l1 (k + 1) → h'.IsListIter p2 l2 (k + 1) → IsPair h' s.heap.objs.size x y → h'.objs.size = s.heap.objs.size + 1 →
      (∀ c o, c ≠ z → c ≠ TO → c ≠ p1 → c ≠ p2 → s.heap.get? c = some o → h'.get? c = some o) → Q (some (.ref s.heap.objs.size)) { s with heap := h' }) : wpAny (model prog w) A (pyNext (.ref z)) Q E s := by
  have ty : s.TypeIs (.ref z) "zip" := ⟨_, gz, rfl⟩
  unfold pyNext
  refine wpAny_bind (wpAny_attempt (wpAny_callSpecial?_slot (name := Str.ofString "__next__") ty F.slot_zip_next (wpAny_call_entry F.slot_zip_next ty F.entry_zip_next (item2 srcT srcL D gz gI gO j1 j2 i1 i2 ex ey fun h' a1 a2 a3 a4 a5 a6 a7 => wpAny_pure ?_) (F.args_zip_next_1 _))))
  exact fin h' a1 a2 a3 a4 a5 a6 a7
theorem next_stop {z TI TO p1 p2 : Addr} {k : Nat} {a b : Value} {Q : Option Value → Shared → Prop} (hn : A.handled = none) (D : ZipApart z TI TO p1 p2 l1 l2) (gz : IsZip s.heap z TI TO .none) (gI : IsPair s.heap TI (.ref p1) (.ref p2)) (gO : IsPair s.heap TO a b)
    (j1 : s.heap.IsTupleIter p1 l1 k) (j2 : s.heap.IsListIter p2 l2 k) (i1 : s.heap.IsTuple l1 c1) (i2 : s.heap.IsList l2 c2) (out : c1[k]? = none ∨ c2[k]? = none)
    (fin : ∀ h', (∀ c o, c ≠ z → c ≠ TO → c ≠ p1 → c ≠ p2 → s.heap.get? c = some o → h'.get? c = some o) → Q none { s with heap := h' }) : wpAny (model prog w) A (pyNext (.ref z)) Q E s := by
  have ty : s.TypeIs (.ref z) "zip" := ⟨_, gz, rfl⟩
  unfold pyNext
  refine wpAny_bind (wpAny_attempt (wpAny_callSpecial?_slot (name := Str.ofString "__next__") ty F.slot_zip_next (wpAny_call_entry F.slot_zip_next ty F.entry_zip_next (stop2 srcT srcL hn D gz gI gO j1 j2 i1 i2 out fun h' e hk ⟨o, ho, hc⟩ => ?_) (F.args_zip_next_1 _))))
  exact wpAny_bind (wpAny_isInstance (T := "StopIteration") (b := true) ⟨o, ho, hc⟩ isSubtype_stop (wpAny_pure (fin _ hk)))
end
/-- the walk -/
def Itm (K : PySem.W.Frag) (a b : Addr) : It := ⟨fun i H => ∃ xs ys x y, SqT K H a xs ∧ SqL K H b ys ∧ xs[i]? = some x ∧ ys[i]? = some y,
    fun i H v H' => ∃ T x y, v = .ref T ∧ H T = none ∧ H' = L2.upd H T (.tup [x, y]) ∧ (∀ xs, SqT K H a xs → xs[i]? = some x) ∧ ∀ ys, SqL K H b ys → ys[i]? = some y,
    fun i H => ∃ xs ys : List V, SqT K H a xs ∧ SqL K H b ys ∧ (xs.length ≤ i ∨ ys.length ≤ i)⟩
theorem five {z TI TO p1 p2 c : Addr} (h : c ∈ [z, TI, TO, p1, p2]) : c = z ∨ c = TI ∨ c = TO ∨ c = p1 ∨ c = p2 := by simpa using h
theorem turn_m {P : Program} {w : World} {K : PySem.W.Frag} {elts : List Expr} {kk : Nat} {tpos : Pos} {a b z TI TO p1 p2 : Addr} (D : ZipApart z TI TO p1 p2 a b) :
    Turn P w K (.Tuple elts kk tpos) (Itm K a b) [z, TI, TO, p1, p2] z (fun i h => IsZip h z TI TO .none ∧ IsPair h TI (.ref p1) (.ref p2) ∧ (∃ x y, IsPair h TO x y) ∧ h.IsTupleIter p1 a i ∧ h.IsListIter p2 b i) where
  mem := List.mem_cons_self
  obj := fun i h st c hc => by
    obtain ⟨gz, gI, ⟨x, y, gO⟩, ⟨o1, e1, _, d1⟩, ⟨o2, e2, _, d2⟩⟩ := st
    rcases five hc with rfl | rfl | rfl | rfl | rfl
    · exact ⟨_, gz, fun v q => nomatch q⟩
    · exact ⟨_, gI, fun v q => nomatch q⟩
    · exact ⟨_, gO, fun v q => nomatch q⟩
    · exact ⟨o1, e1, fun v q => by rw [d1] at q; cases q⟩
    · exact ⟨o2, e2, fun v q => by rw [d2] at q; cases q⟩
  keep := fun i h h' st k => by
    obtain ⟨gz, gI, ⟨x, y, gO⟩, g1, g2⟩ := st
    refine ⟨k z (by simp) _ gz, k TI (by simp) _ gI, ⟨x, y, k TO (by simp) _ gO⟩, g1.at fun o q => k p1 (by simp) o q, g2.at fun o q => k p2 (by simp) o q⟩
  item := by
    rintro X rfl rfl rfl hc i pins s σ H E I hf st hg
    obtain ⟨gz, gI, ⟨x0, y0, gO⟩, g1, g2⟩ := st
    obtain ⟨xs, ys, x, y, qx, qy, hx, hy⟩ := hg
    obtain ⟨u1, rv1, t1, _⟩ := I.tuple qx
    obtain ⟨u2, rv2, t2, _⟩ := I.list qy
    obtain ⟨v1, hv1, r1⟩ := rv1.get hx
    obtain ⟨v2, hv2, r2⟩ := rv2.get hy
    have ltz : z < s.heap.objs.size := Heap.lt_size gz
    refine next_item D gz gI gO g1 g2 (show s.heap.IsTuple a u1.toArray from t1) t2.isList (x := v1) (y := v2) (by simpa using hv1) (by simpa using hv2) fun h' z' O' j1 j2 hT hsz hk => ?_
    refine ⟨_, rfl, wpAny_letOwnedTupleGo_zip (s := { s with heap := h' }) z' fun hb zb sb => ?_⟩
    have gT : hb.get? s.heap.objs.size = some { cls := .type "tuple", data := .seq #[v1, v2] } := (sb.2 _ (Nat.ne_of_gt ltz)).trans hT
    have ob : ObjOk X.prog X.w (L2.upd H s.heap.objs.size (.tup [x, y])) hb s.heap.objs.size (.tup [x, y]) := ⟨by show 2 ≤ sizeLine; decide, [v1, v2], .cons r1 (.cons r2 .nil), ⟨_, gT, rfl, _, rfl⟩⟩
    have kk : ∀ (c : Addr) (o : Obj), c ∉ [z, TI, TO, p1, p2] → s.heap.get? c = some o → hb.get? c = some o := fun c o hn q => (sb.2 c fun e => hn (by simp [e])).trans (hk c o (fun e => hn (by simp [e])) (fun e => hn (by simp [e])) (fun e => hn (by simp [e])) (fun e => hn (by simp [e])) q)
    have I1 : L2.Inv X pins σ (L2.upd H s.heap.objs.size (.tup [x, y])) { s with heap := hb } := I.turnedNew (t' := s.toks) (ch := [z, TI, TO, p1, p2]) kk hf (Nat.le_refl _) ob
    refine ⟨.ref s.heap.objs.size, _, I1, rfl, ⟨_, x, y, rfl, I.hok.fresh (Nat.le_refl _), rfl, fun l hl => by rw [I.tuple_inj hl qx]; exact hx, fun l hl => by rw [I.list_inj hl qy]; exact hy⟩, ⟨zb, (sb.2 _ D.TIz).trans (hk _ _ D.TIz D.TITO D.TIi1 D.TIi2 gI), ⟨v1, v2, (sb.2 _ D.TOz).trans O'⟩, j1.at fun o q => (sb.2 _ D.i1z).trans q, j2.at fun o q => (sb.2 _ D.i2z).trans q⟩, fun c hm => ?_⟩
    have lt : c < s.heap.objs.size := by
      rcases five hm with rfl | rfl | rfl | rfl | rfl
      · exact ltz
      · exact Heap.lt_size gI
      · exact Heap.lt_size gO
      · obtain ⟨_, e, _⟩ := g1; exact Heap.lt_size e
      · obtain ⟨_, e, _⟩ := g2; exact Heap.lt_size e
    rw [upd_ne (Nat.ne_of_lt lt)]
    exact (hf c hm).1
  done := by
    rintro X rfl rfl rfl hc i pins s σ H E I hf st hg
    obtain ⟨gz, gI, ⟨x0, y0, gO⟩, g1, g2⟩ := st
    obtain ⟨xs, ys, qx, qy, out⟩ := hg
    obtain ⟨u1, rv1, t1, _⟩ := I.tuple qx
    obtain ⟨u2, rv2, t2, _⟩ := I.list qy
    have e1 := rv1.length
    have e2 := rv2.length
    have oo : u1.toArray[i]? = none ∨ u2.toArray[i]? = none := out.imp (fun q => by simp; omega) (fun q => by simp; omega)
    refine next_stop (I.ok.hd hc) D gz gI gO g1 g2 (show s.heap.IsTuple a u1.toArray from t1) t2.isList oo fun h' hk => ⟨rfl, I.turnedL (t' := s.toks) (ch := [z, TI, TO, p1, p2]) (fun c o hn q => ?_) hf⟩
    exact hk c o (fun e => hn (by simp [e])) (fun e => hn (by simp [e])) (fun e => hn (by simp [e])) (fun e => hn (by simp [e])) q
  self := fun A i s Q E st q => wpAny_pyIter_zip st.1 q
def iZipM (K : PySem.W.Frag) (ta : TA) : TI := fun σ H R => ta σ H fun vs H1 => ∃ a b xs ys, vs = [.ref a, .ref b] ∧ SqT K H1 a xs ∧ SqL K H1 b ys ∧ R (Itm K a b) H1
theorem pi_zipM {X : Cx} {e e2 : Expr} {ta : TA} {p pos tpos : Pos} {elts : List Expr} {kk : Nat} (hg : Gl X "zip") (hm : X.mg "zip" = none) (ha : PA X [e, e2] ta)
    (h1 : starEach [e, e2] X.env = (false, eval e X.env) :: starEach [e2] X.env := by rfl) (h2 : (backTo pos (starEach [e2] X.env)).any (·.1) = false := by rfl) :
    PI X (.Tuple elts kk tpos) (.Call (.Name "zip" p) [e, e2] [] pos) (iZipM X.K ta) := by
  refine ⟨fun pins s σ H R I q => PyProof.Rows.Call_ (ld_blt I hg hm PyProof.Rows.boot_zip (PyProof.Rows.callWith_type1 (thn (ha.run pos pins s σ H _ I q) fun us s1 ⟨vs, H1, I1, rr, q1⟩ => ?_) h1 h2))⟩
  obtain ⟨a, b, xs, ys, rfl, qx, qy, q1⟩ := q1
  obtain ⟨ua, ub, rfl, ra, rb⟩ : ∃ ua ub, us = [ua, ub] ∧ RelV (.ref a) ua ∧ RelV (.ref b) ub := by
    cases rr with
    | cons r t => cases t with
      | cons r' t' => cases t'; exact ⟨_, _, rfl, r, r'⟩
  cases ra
  cases rb
  obtain ⟨u1, rv1, t1, _⟩ := I1.tuple qx
  obtain ⟨u2, rv2, t2, _⟩ := I1.list qy
  obtain ⟨o1, g1, _⟩ := id t1
  have fp : ∀ c, c ∈ [s1.heap.objs.size + 4, s1.heap.objs.size + 2, s1.heap.objs.size + 3, s1.heap.objs.size, s1.heap.objs.size + 1] → FpOk X pins H1 c := fun c hc => by
    have le : s1.heap.objs.size ≤ c := by
      rcases five hc with rfl | rfl | rfl | rfl | rfl
      · exact Nat.le_add_right _ _
      · exact Nat.le_add_right _ _
      · exact Nat.le_add_right _ _
      · exact Nat.le_refl _
      · exact Nat.le_add_right _ _
    exact I1.fpOk le (I1.hok.fresh le)
  refine call_tl (show s1.heap.IsTuple a u1.toArray from t1) t2.isList fun h' gz gI gO j1 j2 hk => wpAny_pyIter_zip gz ?_
  have I2 : L2.Inv X pins σ H1 { s1 with heap := h' } := I1.kept (t' := s1.toks) hk
  exact ⟨_, [s1.heap.objs.size + 4, s1.heap.objs.size + 2, s1.heap.objs.size + 3, s1.heap.objs.size, s1.heap.objs.size + 1], _, _, H1, rfl, I2, turn_m (PySem.W.ktu_apart s1.heap.objs.size a b (Heap.lt_size g1) t2.lt), ⟨gz, gI, ⟨_, _, gO⟩, j1, j2⟩, fp, q1⟩
end DM

namespace DL
open PySem L2
variable [Tabs]
/-! ### for a, b in zip(x, y) -/
def zipD (xs ys : List D) : List D := List.zipWith (fun x y => .tup [x, y]) xs ys
def dItZ (t : TL) : TID := fun ρ Q => t ρ fun rs ρ1 => match stos rs with
  | some ([.lst xs, .lst ys], f) => Q (zipD xs ys) f ρ1
  | _ => False
def dItZM (t : TL) : TID := fun ρ Q => t ρ fun rs ρ1 => match stos rs with
  | some ([.tux xs, .lst ys], f) => Q (zipD xs ys) f ρ1
  | some ([.tup xs, .lst ys], f) => Q (zipD xs ys) f ρ1
  | _ => False
section
variable {K : PySem.W.Frag} {B : Bx} {H H1 Hs : Hp} {σ : L2.St} {ρ : En} {M1 : Addr → Prop}
/-- a walk that gives new pairs -/
theorem dj_zip {xs ys : List D} {us vs : List V} {f : Fr} (J : It) (rx : Rs K (GF B M1 Hs f) H1 xs us) (ry : Rs K (GF B M1 Hs f) H1 ys vs)
    (hgo : ∀ H, Keep (fun a => ¬ M1 a) H1 H → ∀ i u v, us[i]? = some u → vs[i]? = some v → J.go i H ∧ ∀ x H', J.yld i H x H' → ∃ T, x = .ref T ∧ H T = none ∧ H' = upd H T (.tup [u, v])) (hst : ∀ H, Keep (fun a => ¬ M1 a) H1 H → ∀ i, us.length ≤ i ∨ vs.length ≤ i → J.stop i H) : DJ K B Hs H1 M1 J (zipD xs ys) f := fun H kp i => by
  have hl : (zipD xs ys).length = min xs.length ys.length := by unfold zipD; rw [List.length_zipWith]
  refine ⟨fun hi => ?_, fun hi => hst H kp i (by rw [← rx.len, ← ry.len]; omega)⟩
  have h1 : i < xs.length := by omega
  have h2 : i < ys.length := by omega
  obtain ⟨u, eu, ru⟩ := (rx.later kp).get (List.getElem?_eq_getElem h1)
  obtain ⟨v, ev, rv⟩ := (ry.later kp).get (List.getElem?_eq_getElem h2)
  obtain ⟨g1, g2⟩ := hgo H kp i u v eu ev
  refine ⟨g1, fun x H' y => ?_⟩
  obtain ⟨T, rfl, hT, rfl⟩ := g2 x H' y
  refine ⟨All.new hT, .tup [xs[i], ys[i]], ?_, ?_⟩
  · unfold zipD
    rw [List.getElem?_zipWith, List.getElem?_eq_getElem h1, List.getElem?_eq_getElem h2]
  · unfold R
    exact ⟨T, [u, v], rfl, SqT.of upd_same, .cons (ru.all (All.new hT)) (.cons (rv.all (All.new hT)) .nil)⟩
theorem lst_at {f : Fr} {ds : List D} {v : V} (h : R K (GF B (mset σ ρ) Hs f) H1 (.lst ds) v) : ∃ a vs, v = .ref a ∧ (∀ H, Keep (fun a => ¬ mset σ ρ a) H1 H → SqL K H a vs) ∧ Rs K (GF B (mset σ ρ) Hs f) H1 ds vs := by
  unfold R at h
  obtain ⟨a, vs, rfl, ha, ga, rs⟩ := h
  exact ⟨a, vs, rfl, fun H kp => SqL.of (kp a _ ha (.inl ga.1)), rs⟩
theorem ev_itZ {ta : TA} {t : TL} (h : EvL K ta t) : EvI K (iZip K ta) (dItZ t) := fun B σ H ρ Q R' k q fin =>
  h B σ H ρ _ _ k q fun vs H1 rs ρ1 k1 s1 n1 e1 q1 => by
    have q1 : (match stos rs with | some ([.lst xs, .lst ys], f) => Q (zipD xs ys) f ρ1 | _ => False) := q1
    split at q1
    · rename_i xs ys f es
      have r := RgL.sto e1 es
      unfold Rs at r
      obtain ⟨u1, r1, rfl, ra, r⟩ := r
      unfold Rs at r
      obtain ⟨u2, r2, rfl, rb, r⟩ := r
      unfold Rs at r
      subst r
      obtain ⟨a, us, rfl, sa, rx⟩ := lst_at ra
      obtain ⟨b, ws, rfl, sb, ry⟩ := lst_at rb
      refine ⟨a, b, us, ws, rfl, sa _ Keep.refl, sb _ Keep.refl, fin _ H1 _ f ρ1 k1 s1 n1 (dj_zip _ rx ry (fun H2 kp i u v eu ev => ⟨⟨us, ws, u, v, sa H2 kp, sb H2 kp, eu, ev⟩, fun x H' ⟨T, x', y', e, hT, eH, g1, g2⟩ => ?_⟩) fun H2 kp i hi => ⟨us, ws, sa H2 kp, sb H2 kp, hi⟩) q1⟩
      have e1 := g1 us (sa H2 kp)
      have e2 := g2 ws (sb H2 kp)
      rw [eu] at e1; cases e1
      rw [ev] at e2; cases e2
      exact ⟨T, e, hT, eH⟩
    · exact q1.elim
theorem ev_itZM {ta : TA} {t : TL} (h : EvL K ta t) : EvI K (DM.iZipM K ta) (dItZM t) := fun B σ H ρ Q R' k q fin =>
  h B σ H ρ _ _ k q fun vs H1 rs ρ1 k1 s1 n1 e1 q1 => by
    have q1 : (match stos rs with | some ([.tux xs, .lst ys], f) => Q (zipD xs ys) f ρ1 | some ([.tup xs, .lst ys], f) => Q (zipD xs ys) f ρ1 | _ => False) := q1
    have go : ∀ {f : Fr} {xs ys : List D} {a : Addr} {us : List V} {v2 : V}, (∀ H2, Keep (fun a => ¬ mset σ ρ1 a) H1 H2 → SqT K H2 a us) → Rs K (GF B (mset σ ρ1) H f) H1 xs us → R K (GF B (mset σ ρ1) H f) H1 (.lst ys) v2 → Q (zipD xs ys) f ρ1 →
        ∃ a' b xs ys, [V.ref a, v2] = [.ref a', .ref b] ∧ SqT K H1 a' xs ∧ SqL K H1 b ys ∧ R' (DM.Itm K a' b) H1 := fun {f xs ys a us v2} sa rx rb q2 => by
      obtain ⟨b, ws, rfl, sb, ry⟩ := lst_at rb
      refine ⟨a, b, us, ws, rfl, sa _ Keep.refl, sb _ Keep.refl, fin _ H1 _ f ρ1 k1 s1 n1 (dj_zip _ rx ry (fun H2 kp i u v eu ev => ⟨⟨us, ws, u, v, sa H2 kp, sb H2 kp, eu, ev⟩, fun x H' ⟨T, x', y', e, hT, eH, g1, g2⟩ => ?_⟩) fun H2 kp i hi => ⟨us, ws, sa H2 kp, sb H2 kp, hi⟩) q2⟩
      have e1 := g1 us (sa H2 kp)
      have e2 := g2 ws (sb H2 kp)
      rw [eu] at e1; cases e1
      rw [ev] at e2; cases e2
      exact ⟨T, e, hT, eH⟩
    split at q1
    · rename_i xs ys f es
      have r := RgL.sto e1 es
      unfold Rs at r
      obtain ⟨u1, r1, rfl, ra, r⟩ := r
      unfold Rs at r
      obtain ⟨u2, r2, rfl, rb, r⟩ := r
      unfold Rs at r
      subst r
      unfold R at ra
      obtain ⟨a, us, o, rfl, ha, _, _, rx⟩ := ra
      exact go (fun H2 kp => .inl (.inr ⟨o, kp a _ ha (.inr True.intro)⟩)) rx rb q1
    · rename_i xs ys f es
      have r := RgL.sto e1 es
      unfold Rs at r
      obtain ⟨u1, r1, rfl, ra, r⟩ := r
      unfold Rs at r
      obtain ⟨u2, r2, rfl, rb, r⟩ := r
      unfold Rs at r
      subst r
      unfold R at ra
      obtain ⟨a, us, rfl, ha, rx⟩ := ra
      exact go (fun H2 kp => kp.tup ha) rx rb q1
    · exact q1.elim
end
section
variable {X : Cx} {e e2 : Expr} {t : TL} {p pos tpos : Pos} {elts : List Expr} {kk : Nat}
theorem di_zip (hm : X.mg "zip" = none) (ha : DA X [e, e2] t) (hg : Gl X "zip" := by rfl) (h1 : starEach [e, e2] X.env = (false, eval e X.env) :: starEach [e2] X.env := by rfl) (h2 : (backTo pos (starEach [e2] X.env)).any (·.1) = false := by rfl) : DI X (.Tuple elts kk tpos) (.Call (.Name "zip" p) [e, e2] [] pos) (dItZ t) :=
  let ⟨_, pa, ev⟩ := ha; ⟨_, pi_zip hg hm pa h1 h2, ev_itZ ev⟩
theorem di_zipM (hm : X.mg "zip" = none) (ha : DA X [e, e2] t) (hg : Gl X "zip" := by rfl) (h1 : starEach [e, e2] X.env = (false, eval e X.env) :: starEach [e2] X.env := by rfl) (h2 : (backTo pos (starEach [e2] X.env)).any (·.1) = false := by rfl) : DI X (.Tuple elts kk tpos) (.Call (.Name "zip" p) [e, e2] [] pos) (dItZM t) :=
  let ⟨_, pa, ev⟩ := ha; ⟨_, DM.pi_zipM hg hm pa h1 h2, ev_itZM ev⟩
end
/-! ### sorted(a list of whole numbers) -/
def pSorted : OpN := fun os k => match os with
  | [o] => ∃ ns : List Int, o.d = .lst (ns.map D.int) ∧ ∀ ms : List Int, ms.Perm ns → ms.Pairwise (fun x y => x ≤ y) → k (.nl (ms.map D.int) .z)
  | _ => False
theorem calls_sorted {K : PySem.W.Frag} : CallS K (rSortedI K) pSorted := by
  intro B σ Hs H ρ xs os k Q' ok hd ro h fin
  unfold pSorted at h
  split at h
  · obtain ⟨v, rfl, rv⟩ := ro.one
    obtain ⟨ns, e, h⟩ := h
    rw [e] at rv
    obtain ⟨p, vs, rfl, hp, r⟩ := rv
    have ev := r.ints
    subst ev
    refine ⟨p, ns, rfl, SqL.of hp, fun ms l hperm hs hl => ?_⟩
    obtain ⟨o1, o2⟩ := new_nl (f := .z) ok hd hl (Rs.ofInts ms)
    exact fin _ _ _ o1 (All.new hl).step o2 (h ms hperm hs)
  · exact h.elim
theorem de_sorted {X : Cx} {e : Expr} {t : TL} {p pos : Pos} (hm : X.mg "sorted" = none) (ha : DA X [e] t) (hg : Gl X "sorted" := by rfl) (he : starEach [e] X.env = (false, eval e X.env) :: starEach [] X.env := by rfl) (hpl : (backTo pos (starEach [] X.env)).any (·.1) = false := by rfl) : DE X (.Call (.Name "sorted" p) [e] [] pos) (dCB pSorted t) :=
  de_callB cr_sortedI calls_sorted hm (by decide +kernel) ha hg (by decide) (by decide) he hpl
/-! ### a tuple as a key -/
def keysOf : List D → Option (List Key)
  | [] => some []
  | d :: ds => match keyOf d, keysOf ds with
    | some k, some ks => some (k :: ks)
    | _, _ => none
theorem keysOf_v {K : PySem.W.Frag} {G : Addr → Prop} {H : Hp} : ∀ {ds : List D} {vs : List V} {ks : List Key}, Rs K G H ds vs → keysOf ds = some ks → vs = ks.map kV
  | [], _, _, h, e => by unfold Rs at h; subst h; cases e; rfl
  | d :: ds, _, _, h, e => by
    unfold Rs at h
    obtain ⟨v, r, rfl, h1, h2⟩ := h
    unfold keysOf at e
    cases e1 : keyOf d with
    | none => rw [e1] at e; cases e
    | some k =>
      cases e2 : keysOf ds with
      | none => rw [e1, e2] at e; cases e
      | some ks =>
        rw [e1, e2] at e
        cases e
        rw [List.map_cons, keyOf_v h1 e1, keysOf_v h2 e2]
def dTupK (t : TL) : TD := fun ρ Q => t ρ fun rs ρ1 => ∃ ds f ks, stos rs = some (ds, f) ∧ rs.length ≤ 1000 ∧ keysOf ds = some ks ∧ Q (.v (.tk ks) .z) ρ1
theorem ev_tupK {K : PySem.W.Frag} {ta : TA} {da : TL} (ha : EvL K ta da) : Ev1 K (tTup ta) (dTupK da) := fun B σ H ρ Q Q' k q fin =>
  ha B σ H ρ _ _ k q fun vs H1 rs ρ1 k1 s1 n1 e1 ⟨ds, f, ks, es, hl, ek, q1⟩ => by
    have r := RgL.sto e1 es
    have ev := keysOf_v r ek
    subst ev
    refine ⟨by rw [e1.len]; exact sz1000 hl, fun p hp => ?_⟩
    have A := All.new (o := .tup (ks.map kV)) hp
    refine fin (.ref p) _ (.v (.tk ks) .z) ρ1 (k1.all A) (s1.trans A.step) n1 ?_ q1
    have r2 : R K (GF B (mset σ ρ1) H .z) (upd H1 p (.tup (ks.map kV))) (.tk ks) (.ref p) := by unfold R; exact ⟨p, rfl, upd_same⟩
    exact r2
theorem de_tupK {X : Cx} {es : List Expr} {t : TL} {x1 : Nat} {pos : Pos} (h : DA X es t) : DE X (.Tuple es x1 pos) (dTupK t) := let ⟨_, p, e⟩ := h; ⟨_, pe_tup p, ev_tupK e⟩
end DL

namespace DL
open PySem L2
variable [Tabs]
/-! ### keys of any sort -/
section
variable {κ : Type} [DecidableEq κ]
def lk {α : Type} : List κ → List α → κ → Option α
  | k :: ks, d :: ds, x => if k = x then some d else lk ks ds x
  | _, _, _ => none
def pk (ks : List κ) (x : κ) : List κ := if ks.any (fun k => decide (k = x)) = true then ks else ks ++ [x]
def pd {α : Type} (ks : List κ) (ds : List α) (x : κ) (d : α) : List α := if ks.any (fun k => decide (k = x)) = true then List.zipWith (fun k y => if k = x then d else y) ks ds else ds ++ [d]
variable {K : PySem.W.Frag} {G : Addr → Prop} {H : Hp}
theorem lk_v : ∀ {ks : List κ} {ds : List D} {vs : List V} {x : κ} {d : D}, Rs K G H ds vs → lk ks ds x = some d → ∃ v, valV (ks.zip vs) x = some v ∧ R K G H d v
  | [], _, _, _, _, _, e => by cases e
  | _ :: _, [], _, _, _, _, e => by cases e
  | k :: ks, d :: ds, _, x, d', h, e => by
    unfold Rs at h
    obtain ⟨v, r, rfl, h1, h2⟩ := h
    unfold lk at e
    by_cases hk : k = x
    · rw [if_pos hk] at e
      cases e
      exact ⟨v, by rw [List.zip_cons_cons]; exact valV_pos hk, h1⟩
    · rw [if_neg hk] at e
      obtain ⟨u, h3, h4⟩ := lk_v h2 e
      exact ⟨u, by rw [List.zip_cons_cons, valV_neg hk]; exact h3, h4⟩
theorem lk_none : ∀ {ks : List κ} {ds : List D} {vs : List V} {x : κ}, ks.length = vs.length → Rs K G H ds vs → lk ks ds x = none → valV (ks.zip vs) x = none
  | [], _, _, _, _, _, _ => rfl
  | k :: ks, [], vs, _, hl, h, _ => by unfold Rs at h; subst h; cases hl
  | k :: ks, d :: ds, _, x, hl, h, e => by
    unfold Rs at h
    obtain ⟨v, r, rfl, h1, h2⟩ := h
    unfold lk at e
    by_cases hk : k = x
    · rw [if_pos hk] at e; cases e
    · rw [if_neg hk] at e
      rw [List.zip_cons_cons, valV_neg hk]
      exact lk_none (by simpa using hl) h2 e
theorem any_zipG {β : Type} (x : κ) : ∀ {ks : List κ} {vs : List β}, ks.length = vs.length → ((ks.zip vs).any fun kv => decide (kv.1 = x)) = ks.any fun k => decide (k = x)
  | [], [], _ => rfl
  | k :: ks, v :: vs, h => by rw [List.zip_cons_cons, List.any_cons, List.any_cons, any_zipG x (by simpa using h)]
  | [], _ :: _, h => by cases h
  | _ :: _, [], h => by cases h
theorem map_zipG {β : Type} (x : κ) (y : β) : ∀ {ks : List κ} {vs : List β}, ks.length = vs.length → (ks.zip vs).map (fun kv => if kv.1 = x then (kv.1, y) else kv) = ks.zip (List.zipWith (fun k z => if k = x then y else z) ks vs)
  | [], [], _ => rfl
  | k :: ks, v :: vs, h => by
    rw [List.zip_cons_cons, List.map_cons, List.zipWith_cons_cons, List.zip_cons_cons, map_zipG x y (by simpa using h)]
    by_cases hk : k = x
    · rw [if_pos hk, if_pos hk]
    · rw [if_neg hk, if_neg hk]
  | [], _ :: _, h => by cases h
  | _ :: _, [], h => by cases h
theorem put_zipG {ks : List κ} {vs : List V} (x : κ) (y : V) (h : ks.length = vs.length) : putK (ks.zip vs) x y = (pk ks x).zip (pd ks vs x y) ∧ (pk ks x).length = (pd ks vs x y).length := by
  unfold putK pk pd
  rw [any_zipG x h]
  by_cases hk : ks.any (fun k => decide (k = x)) = true
  · rw [if_pos hk, if_pos hk, if_pos hk, map_zipG x y h]
    exact ⟨rfl, by rw [List.length_zipWith, h, Nat.min_self]⟩
  · rw [if_neg hk, if_neg hk, if_neg hk]
    refine ⟨?_, by rw [List.length_append, List.length_append, h] <;> rfl⟩
    rw [List.zip_append h]
    rfl
theorem put_rsG {d : D} {v : V} {x : κ} (h1 : R K G H d v) : ∀ {ks : List κ} {ds : List D} {vs : List V}, Rs K G H ds vs → Rs K G H (pd ks ds x d) (pd ks vs x v) := by
  intro ks ds vs h
  unfold pd
  by_cases hk : ks.any (fun k => decide (k = x)) = true
  · rw [if_pos hk, if_pos hk]
    clear hk
    induction ks generalizing ds vs with
    | nil => cases ds <;> cases vs <;> exact Rs.nil
    | cons k ks ih =>
      cases ds with
      | nil => unfold Rs at h; subst h; exact Rs.nil
      | cons e es =>
        unfold Rs at h
        obtain ⟨u, r, rfl, h2, h3⟩ := h
        rw [List.zipWith_cons_cons, List.zipWith_cons_cons]
        refine Rs.cons ?_ (ih h3)
        by_cases hk : k = x
        · rw [if_pos hk, if_pos hk]; exact h1
        · rw [if_neg hk, if_neg hk]; exact h2
  · rw [if_neg hk, if_neg hk]
    exact h.snoc h1
end
/-- a dict, seen: its keys, its values -/
inductive DV where
  | k (ks : List Key) (ds : List D)
  | t (ks : List (List Key)) (ds : List D)
def dictOf : D → Option DV
  | .dic ks ds => some (.k ks ds)
  | .dit ks ds => some (.t ks ds)
  | _ => none
/-- what it has for a key -/
def dvLook : DV → D → Option (Option D)
  | .k ks ds => fun d => (keyOf d).map fun x => lk ks ds x
  | .t ks ds => fun d => match d with | .tk x => some (lk ks ds x) | _ => none
section
variable {K : PySem.W.Frag} {B : Bx} {H H' Hs : Hp} {σ : L2.St} {ρ ρ' : En} {v : V} {r : Rv}
theorem ro_dict {G : Addr → Prop} {d k : D} {dv : DV} {o : Option D} {x y : V} (h : RO K G H d x) (hy : R K (fun _ => True) H k y) (e : dictOf d = some dv) (el : dvLook dv k = some o) :
    ∃ a w, x = .ref a ∧ DGet H a y w ∧ IsD H a ∧ (∀ e, o = some e → ∃ v, w = some v ∧ R K G H e v) ∧ (o = none → w = none) := by
  cases d with
  | dic ks ds =>
    cases e
    obtain ⟨a, vs, rfl, ha, hl, rs⟩ := h
    have el : (keyOf k).map (fun x => lk ks ds x) = some o := el
    cases ek : keyOf k with
    | none => rw [ek] at el; cases el
    | some z =>
      rw [ek] at el
      have el : lk ks ds z = o := Option.some.inj el
      have := keyOf_v hy ek
      subst this
      refine ⟨a, _, rfl, DGet.k ha, .inl ⟨_, .inl ha⟩, fun e q => ?_, fun q => ?_⟩
      · exact lk_v rs (el.trans q)
      · exact lk_none hl rs (el.trans q)
  | dit ks ds =>
    cases e
    obtain ⟨a, vs, rfl, ha, hl, rs⟩ := h
    cases k with
    | tk z =>
      have el : lk ks ds z = o := Option.some.inj el
      unfold R at hy
      obtain ⟨b, rfl, hb⟩ := hy
      refine ⟨a, _, rfl, DGet.t ha hb, .inr ⟨_, .inl ha⟩, fun e q => ?_, fun q => ?_⟩
      · exact lk_v rs (el.trans q)
      · exact lk_none hl rs (el.trans q)
    | _ => cases el
  | _ => cases e
end
/-! ### k in d -/
def dDIn (neg : Bool) (dk dd : TD) : TB := fun ρ Q => dk ρ fun r1 ρ1 => dd ρ1 fun r2 ρ2 => ∃ dv o, dictOf (ob ρ2 r2).d = some dv ∧ dvLook dv (ob ρ2 r1).d = some o ∧ Q (neg ^^ o.isSome) ρ2
theorem evt_din {K : PySem.W.Frag} {tk td : TE} {dk dd : TD} (h1 : Ev1 K tk dk) (h2 : Ev1 K td dd) : EvT K (tB (tDIn tk td)) (dDIn false dk dd) := fun B σ H ρ Q Q' k q fin =>
  h1 B σ H ρ _ _ k q fun y H1 r1 ρ1 k1 s1 n1 e1 q1 => h2 B σ H1 ρ1 _ _ k1 q1 fun x H2 r2 ρ2 k2 s2 n2 e2 ⟨dv, o, e, el, q2⟩ => by
    have hy := (Rg.ro k2 ((e1.rg k.dom).go s2 n2)).all
    obtain ⟨a, w, rfl, hg, _, hm⟩ := ro_dict (obR k2 k1.dom e2) hy e el
    refine ⟨a, w, rfl, hg, w.isSome, rfl, ?_⟩
    have : w.isSome = o.isSome := by
      cases o with
      | some d => obtain ⟨v, rfl, _⟩ := hm.1 d rfl; rfl
      | none => rw [hm.2 rfl]; rfl
    rw [this]
    exact fin _ H2 ρ2 k2 (s1.trans s2) (n1.trans n2) (by rw [Bool.false_xor] at q2; exact q2)
theorem evt_dnotin {K : PySem.W.Frag} {tk td : TE} {dk dd : TD} (h1 : Ev1 K tk dk) (h2 : Ev1 K td dd) : EvT K (tB (tDNotIn tk td)) (dDIn true dk dd) := fun B σ H ρ Q Q' k q fin =>
  h1 B σ H ρ _ _ k q fun y H1 r1 ρ1 k1 s1 n1 e1 q1 => h2 B σ H1 ρ1 _ _ k1 q1 fun x H2 r2 ρ2 k2 s2 n2 e2 ⟨dv, o, e, el, q2⟩ => by
    have hy := (Rg.ro k2 ((e1.rg k.dom).go s2 n2)).all
    obtain ⟨a, w, rfl, hg, _, hm⟩ := ro_dict (obR k2 k1.dom e2) hy e el
    refine ⟨a, w, rfl, hg, !w.isSome, rfl, ?_⟩
    have : w.isSome = o.isSome := by
      cases o with
      | some d => obtain ⟨v, rfl, _⟩ := hm.1 d rfl; rfl
      | none => rw [hm.2 rfl]; rfl
    rw [this]
    exact fin _ H2 ρ2 k2 (s1.trans s2) (n1.trans n2) (by rw [Bool.true_xor] at q2; exact q2)
/-! ### d[k] -/
def dDGetG (d t : TD) : TD := fun ρ Q => d ρ fun r ρ1 => t ρ1 fun r2 ρ2 => ∃ dv e, dictOf (ob ρ2 r).d = some dv ∧ dvLook dv (ob ρ2 r2).d = some (some e) ∧ Q (.v e (ob ρ2 r).f) ρ2
theorem ev_dgetG {K : PySem.W.Frag} {td ty : TE} {d t : TD} (h : Ev1 K td d) (h2 : Ev1 K ty t) : Ev1 K (tDGet td ty) (dDGetG d t) := fun B σ H ρ Q Q' k q fin =>
  h B σ H ρ _ _ k q fun x H1 r1 ρ1 k1 s1 n1 w1 q1 => h2 B σ H1 ρ1 _ _ k1 q1 fun y H2 r2 ρ2 k2 s2 n2 w2 ⟨dv, e, ed, el, q2⟩ => by
    have g1 := (w1.rg k.dom).go s2 n2
    obtain ⟨a, w, rfl, hg, _, hm, _⟩ := ro_dict (Rg.ro k2 g1) (Rg.ro k2 (w2.rg k1.dom)).all ed el
    obtain ⟨v, rfl, rv⟩ := hm e rfl
    exact ⟨a, v, rfl, hg, fin v H2 (.v e _) ρ2 k2 (s1.trans s2) (n1.trans n2) rv q2⟩
/-! ### d[k] = v, d in the slot m -/
def dPut (m : Nat) (dv dk : TD) : TSD := fun E ρ => dv ρ fun r ρ1 => (ρ1.getD m .no).isM = true ∧ ∃ o, stoD r = some o ∧ dk ρ1 fun rk ρ2 => match ρ2.getD m .no with
  | .md ks ds f => ∃ x, keyOf (ob ρ2 rk).d = some x ∧ ks.length < sizeLine ∧ E.nx (ρ2.set m (.md (pk ks x) (pd ks ds x o.d) (fmin f (fup o.f o.d))))
  | .mt ks ds f => ∃ x, (ob ρ2 rk).d = .tk x ∧ ks.length < sizeLine ∧ E.nx (ρ2.set m (.mt (pk ks x) (pd ks ds x o.d) (fmin f (fup o.f o.d))))
  | _ => False
theorem isM_at {K : PySem.W.Frag} {B : Bx} {H : Hp} {σ : L2.St} {ρ : En} {m : Nat} (k : Ok K B H σ ρ) (h : (ρ.getD m .no).isM = true) : ∃ p, σ[m]? = some (some (.ref p)) := by
  have hn : ρ.getD m .no ≠ .no := fun z => by rw [z] at h; cases h
  have q := k.sl m _ (getD_some rfl hn)
  cases e : ρ.getD m .no with
  | no => exact absurd e hn
  | val d f => rw [e] at h; cases h
  | ml ds f => rw [e] at q; obtain ⟨p, _, e1, _⟩ := q; exact ⟨p, e1⟩
  | mp n ds => rw [e] at q; obtain ⟨p, _, e1, _⟩ := q; exact ⟨p, e1⟩
  | md ks ds f => rw [e] at q; obtain ⟨p, _, e1, _⟩ := q; exact ⟨p, e1⟩
  | mt ks ds f => rw [e] at q; obtain ⟨p, _, e1, _⟩ := q; exact ⟨p, e1⟩
theorem evs_put {K : PySem.W.Frag} {m : Nat} {te tk : TE} {d dk : TD} (h : Ev1 K te d) (hk : Ev1 K tk dk) : EvS K (sDPut (tVar m) tk te) (dPut m d dk) := fun B σ H ρ E D' k q l =>
  h B σ H ρ _ _ k q fun v H1 r ρ1 k1 s1 n1 e1 ⟨hm, o, eo, q1⟩ => by
    obtain ⟨p, ep⟩ := isM_at k1 hm
    refine ⟨.ref p, ep, hk B σ H1 ρ1 _ _ k1 q1 fun y H2 r2 ρ2 k2 s2 n2 e2 q2 => ?_⟩
    have ry := (Rg.ro k2 (e2.rg k1.dom)).all
    have ro := ((e1.rg k.dom).go s2 n2).sto eo
    cases es : ρ2.getD m .no with
    | md ks ds f =>
      rw [es] at q2
      have e' := getD_some es (by simp)
      obtain ⟨p', vs, ep', hp, hl, rs, h0, av⟩ := k2.sl m _ e'
      rw [ep] at ep'; cases ep'
      obtain ⟨x, ek, hz, q2⟩ := q2
      have := keyOf_v ry ek
      subst this
      obtain ⟨z1, z2⟩ := put_zipG x v hl
      obtain ⟨o1, o2⟩ := k2.upd (o := .dK ((pk ks x).zip (pd ks vs x v))) (s := .md (pk ks x) (pd ks ds x o.d) (fmin f (fup o.f o.d))) e' rfl rfl ep (.inr h0) fun kp =>
        ⟨p, _, ep, upd_same, z2, put_rsG (ro.up.mono (kp.weak fun a g z => g.1 (z ▸ ⟨m, _, e', rfl, ep⟩)) fun _ _ g => g.slot) (rs.mono (kp.weak fun a g z => g.1 (z ▸ ⟨m, _, e', rfl, ep⟩)) fun _ _ g => g.minL), h0, av⟩
      refine ⟨p, _, rfl, DPut.k hp (by rw [List.length_zip, ← hl, Nat.min_self]; exact hz), ?_⟩
      rw [z1]
      exact l.nx _ _ _ o1 ((s1.trans s2).trans o2).s q2
    | mt ks ds f =>
      rw [es] at q2
      have e' := getD_some es (by simp)
      obtain ⟨p', vs, ep', hp, hl, rs, h0, av⟩ := k2.sl m _ e'
      rw [ep] at ep'; cases ep'
      obtain ⟨x, ek, hz, q2⟩ := q2
      rw [ek] at ry
      unfold R at ry
      obtain ⟨b, rfl, hb⟩ := ry
      obtain ⟨z1, z2⟩ := put_zipG x v hl
      obtain ⟨o1, o2⟩ := k2.upd (o := .dT ((pk ks x).zip (pd ks vs x v))) (s := .mt (pk ks x) (pd ks ds x o.d) (fmin f (fup o.f o.d))) e' rfl rfl ep (.inr h0) fun kp =>
        ⟨p, _, ep, upd_same, z2, put_rsG (ro.up.mono (kp.weak fun a g z => g.1 (z ▸ ⟨m, _, e', rfl, ep⟩)) fun _ _ g => g.slot) (rs.mono (kp.weak fun a g z => g.1 (z ▸ ⟨m, _, e', rfl, ep⟩)) fun _ _ g => g.minL), h0, av⟩
      refine ⟨p, _, rfl, DPut.t hp hb (by rw [List.length_zip, ← hl, Nat.min_self]; exact hz), ?_⟩
      rw [z1]
      exact l.nx _ _ _ o1 ((s1.trans s2).trans o2).s q2
    | no => rw [es] at q2; exact q2.elim
    | val d f => rw [es] at q2; exact q2.elim
    | ml ds f => rw [es] at q2; exact q2.elim
    | mp n ds => rw [es] at q2; exact q2.elim
/-! ### {k: v}, the key a whole number or a text -/
def dDisp (dk dv : TD) : TD := fun ρ Q => dk ρ fun rk ρ1 => dv ρ1 fun rv ρ2 => ∃ x o, keyOf (ob ρ2 rk).d = some x ∧ stoD rv = some o ∧ Q (.nd [x] [o.d] (fup o.f o.d)) ρ2
section
variable {X : Cx} {e e2 k v : Expr} {dk dv d t : TD} {p pos pos' : Pos} {j : Nat}
theorem dt_din (hr : Room j X.A) (ha : DE X k dk) (hb : DE X e d) (hm : behindInMarks .In e = false := by rfl) : DT X (.Compare k [.In] [e] pos) (dDIn false dk d) := let ⟨_, p1, e1⟩ := ha; let ⟨_, p2, e2⟩ := hb; ⟨_, pt_cmp (pc_din (hu_of hr) p1 p2) hm, evt_din e1 e2⟩
theorem dt_dnotin (hr : Room j X.A) (ha : DE X k dk) (hb : DE X e d) (hm : behindInMarks .NotIn e = false := by rfl) : DT X (.Compare k [.NotIn] [e] pos) (dDIn true dk d) := let ⟨_, p1, e1⟩ := ha; let ⟨_, p2, e2⟩ := hb; ⟨_, pt_cmp (pc_dnotin (hu_of hr) p1 p2) hm, evt_dnotin e1 e2⟩
theorem de_dgetG (hr : Room j X.A) (ha : DE X e d) (hb : DE X k dk) (hs : NoSl k := by intro _ _; rfl) : DE X (.Subscript e k pos) (dDGetG d dk) := let ⟨_, p1, e1⟩ := ha; let ⟨_, p2, e2⟩ := hb; ⟨_, pe_dget (hu_of hr) p1 p2 hs, ev_dgetG e1 e2⟩
theorem ds_dput {m : Nat} {x : Str} {p1 : Pos} (hr : Room j X.A) (hv : DE X v dv) (hk : DE X k dk) (hN : X.N[m]? = some x := by rfl) (hvs : Vis X.env.scope x := by first | exact Or.inl rfl | exact Or.inr (Or.inl rfl) | exact Or.inr (Or.inr rfl)) (hd : (x == ("__debug__" : Str)) = false := by decide) (hcd : (x == ("__classdict__" : Str)) = false := by decide)
    (hs : swapsWith v (some (.Subscript (.Name x p1) k pos')) pos.line X.env = pure false := by rfl) : DS X (.Assign [.Subscript (.Name x p1) k pos'] v pos) (dPut m dv dk) := by
  obtain ⟨_, pv, ev⟩ := hv
  obtain ⟨_, pk, ek⟩ := hk
  exact ⟨_, ps_dput (hu_of hr) (pe_var hN hvs hd hcd) pk pv hs, evs_put ev ek⟩
end
end DL

namespace DL
open PySem L2
variable [Tabs]
/-! ### {k: v}, the key a whole number or a text -/
theorem ev_disp {K : PySem.W.Frag} {tk tv : TE} {dk dv : TD} (hk : Ev1 K tk dk) (hv : Ev1 K tv dv) : Ev1 K (tDisp [(tk, tv)]) (dDisp dk dv) := fun B σ H ρ Q Q' k q fin => fun p hp => by
  have hp0 : B.H0 p = none := fresh0 k.dom hp
  have k0 := k.clear (o := .dK []) hp
  have pav : p ∈ (B.add p).Av := List.mem_cons_self
  show tk σ (upd H p (.dK [])) fun y H1 => tv σ H1 fun z H2 => _
  refine hk (B.add p) σ _ ρ _ _ k0 q fun y H1 r1 ρ1 k1 s1 n1 w1 q1 => hv (B.add p) σ H1 ρ1 _ _ k1 q1 fun z H2 r2 ρ2 k2 s2 n2 w2 ⟨x, o, ek, eo, q2⟩ => ?_
  have ry := keyOf_v (Rg.ro k2 ((w1.rg k0.dom).go s2 n2)).all ek
  subst ry
  have h1p : H1 p = some (.dK []) := s1.keep p _ upd_same (.inl fun t => k0.mav t pav)
  have h2p : H2 p = some (.dK []) := s2.keep p _ h1p (.inl fun t => k1.mav t pav)
  refine ⟨h2p, [(x, z)], rfl, by show 1 ≤ 15; decide, ?_⟩
  have em : mergeK ([] : List (Key × V)) [(x, z)] = [x].zip [z] := rfl
  rw [em]
  have k3 : Ok K (B.add p) (upd H2 p (.dK ([x].zip [z]))) σ ρ2 := k2.updAv h2p (fun t => t) hp0
  have kpE : Keep (fun a => a ≠ p) H2 (upd H2 p (.dK ([x].zip [z]))) := fun a u h g => by
    by_cases t1 : a = p
    · subst t1
      rcases g with g | g
      · exact absurd rfl g
      · rw [h2p] at h; cases h; exact g.elim
    · rw [upd_ne t1]; exact h
  have dmE : ∀ a, H2 a ≠ none → (upd H2 p (.dK ([x].zip [z]))) a ≠ none := fun a h => by
    by_cases t : a = p
    · rw [t, upd_same]; exact Option.some_ne_none _
    · rw [upd_ne t]; exact h
  have s12 := s1.trans s2
  have hne0 : ∀ {a : Addr}, H a ≠ none → a ≠ p := fun h t => h (t ▸ hp)
  have dHs : ∀ a, H a ≠ none → H1 a ≠ none := fun a h => s1.dom a (All.dom (All.new hp) h)
  refine fin (.ref p) _ (.nd [x] [o.d] (fup o.f o.d)) ρ2 k3.unclear ⟨fun a u h g => @fun n => ?_, fun a h => dmE a (s2.dom a (dHs a h)), s12.sub⟩ (n1.trans n2)
    ⟨p, [z], rfl, upd_same, rfl, hp, fun t => k3.mav t pav, fun t => k.av p t hp, k3, ?_⟩ q2
  · have na : a ≠ p := hne0 (by rw [h]; exact Option.some_ne_none _)
    exact kpE a u (s12.keep a u (All.new hp a u h) g) (.inl na)
  · have w4 := ((w2.rg k1.dom).sto eo).up
    exact .cons (R.mono (kpE.weak fun a g t => g.2.1 (t ▸ pav)) (fun a _ g => GF.base dHs g) w4) .nil
theorem de_disp {X : Cx} {k v : Expr} {dk dv : TD} {pos : Pos} (hk : DE X k dk) (hv : DE X v dv) : DE X (.Dict [some k] [v] pos) (dDisp dk dv) := let ⟨_, p1, e1⟩ := hk; let ⟨_, p2, e2⟩ := hv; ⟨_, pe_disp (pps_cons p1 p2 pps_nil) rfl rfl (by simp) (by simp), ev_disp e1 e2⟩
end DL

set_option maxHeartbeats 3200000
namespace DM
open PySem L2 DL
/-! ### sorted(set(a list of whole numbers)) -/
abbrev eS (w : World) : Obj := { cls := .type "set", dict := none, data := .set #[] 0 (.fresh 0 0 (!w.params.followText "set-order")) }
section
variable {P : Program} {w : World} {A : Around} {E : Value → Shared → Prop} {s : Shared} {l : Addr} {c : Array Value} {ns : List Int}
theorem two_not {a b x y : Nat} (h1 : a ≠ b) (h2 : a ≠ x) : a ∉ ([b, x] : List Nat) := fun z => (List.mem_cons.mp z).elim h1 fun z => h2 (List.mem_singleton.mp z)
theorem set_of {Q : Value → Shared → Prop} (hn : A.handled = none) (hl : s.heap.IsList l c) (hi : PyProof.Rows.IntsAre c.toList ns) (hb : ns.length + 1 < scanBound)
    (fin : ∀ (h' : Heap) (tk k : Nat), SetR w h' s.heap.objs.size (fun j => decide (j ∈ ns)) k → k ≤ ns.length → (∀ b o, s.heap.get? b = some o → h'.get? b = some o) → Q (.ref s.heap.objs.size) { s with heap := h', toks := tk }) :
    wpAny (model P w) A (call (.type "set") [.ref l]) Q E s := by
  have ez : c.size = ns.length := by have q := PyProof.Rows.IntsAre.length hi; rwa [Array.length_toList] at q
  obtain ⟨c0, tl, m0⟩ := F.called_set.mro
  have m1 := F.called_set.made
  have m2 := F.called_set.sub
  refine wpAny_call (codeAny_of_tree (?_ : wpAny _ _ (callAny (.type "set") _) _ _ _))
  refine wpAny_pure ⟨Code.quiet_builtin _ (by decide +kernel), codeAny_builtin F.entry_type_call ?_⟩
  rw [Around.under_plain (weight_type_call_type "set" [.ref l] []) rfl]
  have m3 := F.called_set.notType
  have m4 := F.called_set.canCreate
  have m5 := F.typeCall_set_1 (.ref l)
  repeat (any_goals (first | assumption | wp_step))
  refine codeAny_mono (code_set_led1 (.ref l) (E := E) (Q₁ := fun x t => x = .ref s.heap.objs.size ∧ t = { s with heap := s.heap.push (eS w) }) ⟨rfl, rfl⟩) fun r t hr => ?_
  cases r with
  | error e => exact hr
  | ok fl => cases fl with
    | ret x =>
      obtain ⟨rfl, rfl⟩ := hr
      have g0 : (s.heap.push (eS w)).get? s.heap.objs.size = some (eS w) := Heap.get?_push_size _ rfl
      have ty : Shared.TypeIs { s with heap := s.heap.push (eS w) } (.ref s.heap.objs.size) "set" := ⟨_, g0, rfl⟩
      have b1 := F.called_set.init.lookup
      have b2 := F.called_set.init.bind (.ref s.heap.objs.size)
      repeat (any_goals (first | assumption | wp_step))
      refine codeAny_mono (codeAny_call_builtin (R := wants (fun r t => r = .none ∧ ∃ h' tk k, t = { s with heap := h', toks := tk } ∧ SetR w h' s.heap.objs.size (fun j => decide (j ∈ ns)) k ∧ k ≤ ns.length ∧ (∀ b o, s.heap.get? b = some o → h'.get? b = some o)) E) F.called_set.init.plain F.entry_set_init (check_set_init_1 ty ?_)) fun r2 t2 hr2 => ?_
      · obtain ⟨⟨oc, od, odt, osl⟩, ol, hcl, nl, hdl⟩ := hl
        simp only at hcl hdl
        subst hcl hdl
        have ol2 : (s.heap.push (eS w)).get? l = some { cls := .type "list", dict := od, data := .seq c nl, slots := osl } := Heap.get?_push_of_some _ ol
        have x1 := F.sub_list_set
        have x2 := F.sub_list_frozenset
        have x3 : (Value.type "list" == Value.type "dict") = false := by decide
        have hl1 : (s.heap.push (eS w)).IsList l c := ⟨_, ol2, rfl, nl, rfl⟩
        unfold Builtin.«set.__init__» noKeywords Builtin.Frozenset.updateFrom
        generalize gI : pyIter = PI
        wp_walk
        subst gI
        refine wpAny_pyIter_list hl1 (wpAny_bind (wpAny_runValue ?_))
        have lt : l < s.heap.objs.size := Heap.lt_size ol
        have h3 : A.in1.in1.in1.handled = none := by simp [hn]
        have z1 : (s.heap.push (eS w)).objs.size = s.heap.objs.size + 1 := Heap.size_push ..
        have nI : l ≠ (s.heap.push (eS w)).objs.size := by rw [z1]; exact Nat.ne_of_lt (Nat.lt_succ_of_lt lt)
        have nS : s.heap.objs.size ∉ [(s.heap.push (eS w)).objs.size, l] := two_not (y := 0) (by rw [z1]; exact Nat.ne_of_lt (Nat.lt_succ_self _)) (Nat.ne_of_gt lt)
        have vals : ∀ (i : Nat) (v : Value), c[i]? = some v → ∃ k t, ns[i]? = some k ∧ v = .int k t := fun i v hv => by
          have hlt : i < ns.length := by rw [← ez]; exact (Array.getElem?_eq_some_iff.mp hv).1
          obtain ⟨t, e⟩ := PyProof.Rows.IntsAre.int_at hi i v (by rw [Array.getElem?_toList]; exact hv)
          exact ⟨ns[i], t, List.getElem?_eq_getElem hlt, by rw [e, List.getD_eq_getElem?_getD, List.getElem?_eq_getElem hlt]; rfl⟩
        refine set_update_ints ((Walks.list h3 _ l nI c).toS) s.heap.objs.size nS ns ez hb vals (c.size - 0) 0 _ (by omega) (Nat.zero_le _) ⟨⟨_, Heap.get?_push_size _ rfl, rfl, rfl⟩, hl1.push _⟩ ⟨0, Nat.le_refl 0, setR_new_at (Heap.get?_push_of_some _ g0)⟩ fun s' k hm hk hS => ?_
        obtain ⟨h', g2, d', tk, os'⟩ := s'
        obtain rfl : g2 = s.gens := hm.gens
        obtain rfl : d' = s.drawn := hm.drawn
        obtain rfl : os' = s.os := hm.os
        rw [ez] at hk
        refine (?_ : wpAny _ _ _ _ _ _)
        refine wpAny_pure (?_ : wpAny _ _ (ret Value.none) _ _ _)
        refine wpAny_pure ⟨rfl, h', tk, k, rfl, hS, hk, fun b o e => hm.heap b o ?_ (Heap.get?_push_of_some _ (Heap.get?_push_of_some _ e))⟩
        have lb : b < s.heap.objs.size := Heap.lt_size e
        exact two_not (y := 0) (Nat.ne_of_lt lb) (by rw [z1]; exact Nat.ne_of_lt (Nat.lt_succ_of_lt lb))
      · cases r2 with
        | error e => exact hr2
        | ok fl2 => cases fl2 with
          | ret r =>
            obtain ⟨rfl, h', tk, k, rfl, hS, hk, up⟩ := hr2
            repeat (any_goals (first | assumption | wp_step))
            exact fin _ _ _ hS hk up
          | _ => exact hr2.elim
    | _ => exact hr.elim
end
/-- set(a list of whole numbers) -/
def rSetL (K : PySem.W.Frag) (w : World) : List V → Hp → VK → Prop := fun xs H Q => ∃ (a : Addr) (ns : List Int), xs = [V.ref a] ∧ SqL K H a (ns.map V.int) ∧ ns.length < 1000 ∧ ∀ (p : Addr) (k : Nat), k ≤ ns.length → H p = none → Q (.ref p) (L2.upd H p (SetO w p (fun j => decide (j ∈ ns)) k))
theorem cr_setL {X : Cx} (hc : X.calm = true) : CallR X (.type "set") (rSetL X.K X.w) := by
  intro pins s σ H vs us Q I r h
  obtain ⟨a, ns, rfl, hs, hl, q⟩ := h
  obtain ⟨its, rv, pl, hz⟩ := I.list hs
  rw [Vals.ref1 r]
  refine set_of (I.ok.hd hc) pl.isList (ns := ns) (by simpa using rv.ints) (by unfold scanBound; omega) fun h' tk k R hk up => ?_
  have hn : H s.heap.objs.size = none := I.hok.fresh (Nat.le_refl _)
  exact ⟨.ref s.heap.objs.size, L2.upd H s.heap.objs.size (SetO X.w s.heap.objs.size (fun j => decide (j ∈ ns)) k), I.laid (t' := tk) up (Nat.le_refl _) (setO_new R), rfl, q _ k hk hn⟩
end DM

namespace DL
open PySem L2
variable [Tabs]
/-! ### sorted(set(xs)) -/
def dSortSet (d : TD) : TD := fun ρ Q => d ρ fun r ρ1 => ∃ ns : List Int, (ob ρ1 r).d = .lst (ns.map D.int) ∧ ns.length < 64 ∧ ∀ ms : List Int, ms.Pairwise (· < ·) → (∀ k, k ∈ ms ↔ k ∈ ns) → Q (.nl (ms.map D.int) .z) ρ1
theorem de_sortSet {X : Cx} {e : Expr} {d : TD} {p p2 q pos : Pos} (hc : X.calm = true) (hm : X.mg "sorted" = none) (hm2 : X.mg "set" = none) (he : DE X e d) (hg : Gl X "sorted" := by rfl) (hg2 : Gl X "set" := by rfl)
    (h1 : starEach [e] X.env = (false, eval e X.env) :: starEach [] X.env := by rfl) (h2 : starEach [.Call (.Name "set" p2) [e] [] q] X.env = (false, eval (.Call (.Name "set" p2) [e] [] q) X.env) :: starEach [] X.env := by rfl)
    (h3 : (backTo q (starEach [] X.env)).any (·.1) = false := by rfl) (h4 : (backTo pos (starEach [] X.env)).any (·.1) = false := by rfl) :
    DE X (.Call (.Name "sorted" p) [.Call (.Name "set" p2) [e] [] q] [] pos) (dSortSet d) := by
  obtain ⟨te, pe, ev⟩ := he
  have ps := pe_callTy (DM.cr_setL (X := X) hc) hg2 hm2 (p := p2) (pos := q) (by decide +kernel) (pa_cons pe pa_nil h1) (by decide) (by decide) h1 h3
  refine ⟨_, pe_callB (cr_sortedSet (X := X) hc) hg hm (by decide +kernel) (pa_cons ps pa_nil h2) (by decide) (by decide) h2 h4, fun B σ H ρ Q Q' k q fin => ?_⟩
  refine ev B σ H ρ _ _ k q fun v H1 r ρ1 k1 s1 n1 e1 ⟨ns, ed, hl, q1⟩ => ?_
  have ro := obR k1 k.dom e1
  rw [ed] at ro
  obtain ⟨a, vs, rfl, ha, rs⟩ := ro
  have ev2 := rs.ints
  subst ev2
  refine ⟨a, ns, rfl, SqL.of ha, by omega, fun p1 n hn hp1 => ?_⟩
  refine ⟨p1, _, n, rfl, upd_same, by omega, fun ms p2 hs hm _ hp2 => ?_⟩
  have A1 : All H1 (upd H1 p1 (SetO X.w p1 (fun j => decide (j ∈ ns)) n)) := All.new hp1
  have k2 := k1.all A1
  obtain ⟨o1, o2⟩ := new_nl (f := .z) (Hs := H) k2 (fun a h => All.dom A1 (s1.dom a h)) hp2 (Rs.ofInts ms)
  exact fin _ _ _ ρ1 o1 ((s1.trans A1.step).trans (All.new hp2).step) n1 o2 (q1 ms hs fun k => by rw [hm]; simp)
/-! ### xs.reverse() -/
def dRev (m : Nat) : TSD := fun E ρ => ∃ ds f, ρ.getD m .no = .ml ds f ∧ E.nx (ρ.set m (.ml ds.reverse f))
theorem evs_rev {K : PySem.W.Frag} {m : Nat} : EvS K (tDrop (tBM0 K "list" rReverse (tVar m))) (dRev m) := fun B σ H ρ E D' k ⟨ds, f, es, q⟩ l => by
  have e' := getD_some es (by simp)
  obtain ⟨p, vs, ep, hp, rs, h0, av⟩ := k.sl m _ e'
  obtain ⟨o1, o2⟩ := k.upd (o := .lst vs.reverse) (s := .ml ds.reverse f) e' rfl rfl ep (.inr h0) fun kp =>
    ⟨p, _, ep, upd_same, (rs.mono (kp.weak fun a g z => g.1 (z ▸ ⟨m, _, e', rfl, ep⟩)) fun _ _ g => g).rev, h0, av⟩
  exact ⟨.ref p, ep, .inl ⟨rfl, _, SqL.of hp⟩, p, vs, rfl, rfl, hp, l.nx _ _ _ o1 o2.s q⟩
theorem ds_rev {X : Cx} {m : Nat} {x : Str} {p1 apos pos pos' : Pos} (hN : X.N[m]? = some x := by rfl) (hv : Vis X.env.scope x := by first | exact Or.inl rfl | exact Or.inr (Or.inl rfl) | exact Or.inr (Or.inr rfl)) (hd : (x == ("__debug__" : Str)) = false := by decide) (hcd : (x == ("__classdict__" : Str)) = false := by decide)
    (hpe : ∀ {to : TE}, PE X (.Name x p1) to → PE X (.Call (.Attribute (.Name x p1) "reverse" apos) [] [] pos) (tBM0 X.K "list" rReverse to) := by intro _ h1; exact pe_bm0 PySem.F.plainAttrs_list PySem.F.slot_list_reverse PySem.F.type_list_reverse mt_reverse h1)
    (hs : swapsWith (.Call (.Attribute (.Name x p1) "reverse" apos) [] [] pos) none pos'.line X.env = pure false := by rfl) : DS X (.Expr (.Call (.Attribute (.Name x p1) "reverse" apos) [] [] pos) pos') (dRev m) := ⟨_, ps_expr (hpe (pe_var hN hv hd hcd)) hs, evs_rev⟩
end DL

namespace DL
open PySem L2
variable [Tabs]
/-! ### x += e, whole numbers -/
def dAug (i : Nat) (d : TD) : TSD := fun E ρ => ∃ n f, ρ.getD i .no = .val (.int n) f ∧ d ρ fun r ρ1 => i < ρ1.length ∧ ∃ m, (ob ρ1 r).d = .int m ∧ E.nx (ρ1.set i (.val (.int (n + m)) .n))
theorem ds_aug {X : Cx} {i : Nat} {x : Str} {e : Expr} {d : TD} {pos pos' : Pos} (he : DE X e d) (hN : X.N.Nodup) (hi : X.N[i]? = some x := by rfl) (hx : Loc X.env.scope x := by first | exact .inl rfl | exact .inr rfl) (hf : X.fn x = true ∨ X.env.scope.names.lookup x = some .local := by first | exact .inl rfl | exact .inr rfl | assumption) :
    DS X (.AugAssign (.Name x pos') .Add e pos) (dAug i d) := by
  obtain ⟨te, p, ev⟩ := he
  refine ⟨_, ps_aug hN hi hx p ip_add hf, fun B σ H ρ E D' k ⟨n, f, en, q⟩ l => ?_⟩
  obtain ⟨v, e1, rv⟩ := k.sl i _ (getD_some en (by simp))
  unfold R at rv
  subst rv
  refine ⟨.int n, e1, ev B σ H ρ _ _ k q fun y H1 r ρ1 k1 s1 n1 w1 ⟨hl, m, em, q1⟩ => ?_⟩
  have ro := obR k1 k.dom w1
  rw [em] at ro
  obtain rfl := ro.int
  refine ⟨n, m, rfl, rfl, ?_⟩
  obtain ⟨o1, o2⟩ := k1.asg (d := .int (n + m)) (f := .n) (Hs := H) hl (show R X.K (GF B (mset σ ρ1) H .n) H1 (.int (n + m)) (.int (n + m)) from R.i)
  exact l.nx _ _ _ o1 (s1.s.trans o2) q1
end DL

namespace DL
open PySem L2 NdefX LamX
variable [Tabs]
/-! ### a def made in a def that may answer with what it found around it -/
/-- known in H0, and such as may be written -/
def old (H0 : Hp) (a : Addr) : Prop := ∃ o, H0 a = some o ∧ ¬ Im o
mutual
theorem r_old {K : PySem.W.Frag} {G : Addr → Prop} {H : Hp} : ∀ {d : D} {v : V}, R K G H d v → R K (fun a => G a ∧ old H a) H d v
  | .non, _, h => by unfold R at h ⊢; exact h
  | .bl _, _, h => by unfold R at h ⊢; exact h
  | .int _, _, h => by unfold R at h ⊢; exact h
  | .str _, _, h => by unfold R at h ⊢; exact h
  | .tup _, _, h => by
    unfold R at h ⊢
    obtain ⟨a, vs, e, s, r⟩ := h
    exact ⟨a, vs, e, s, rs_old r⟩
  | .lst _, _, h => by
    unfold R at h ⊢
    obtain ⟨a, vs, e, s, ga, r⟩ := h
    exact ⟨a, vs, e, s, ⟨ga, _, s, id⟩, rs_old r⟩
  | .fz _, _, h => by
    unfold R at h ⊢
    obtain ⟨a, vs, e, s, r⟩ := h
    exact ⟨a, vs, e, s, rs_old r⟩
  | .dic _ _, _, h => by
    unfold R at h ⊢
    obtain ⟨a, vs, e, s, l, ga, r⟩ := h
    exact ⟨a, vs, e, s, l, ⟨ga, _, s, id⟩, rs_old r⟩
  | .dit _ _, _, h => by
    unfold R at h ⊢
    obtain ⟨a, vs, e, s, l, ga, r⟩ := h
    exact ⟨a, vs, e, s, l, ⟨ga, _, s, id⟩, rs_old r⟩
  | .un _, _, h => by
    unfold R at h ⊢
    obtain ⟨a, vs, e, s, l, ga⟩ := h
    exact ⟨a, vs, e, s, l, ga, _, s, id⟩
  | .tux _, _, h => by
    unfold R at h ⊢
    obtain ⟨a, vs, o, e, s, c, dn, r⟩ := h
    exact ⟨a, vs, o, e, s, c, dn, rs_old r⟩
  | .tk _, _, h => by unfold R at h ⊢; exact h
  | .obj _, _, h => by unfold R at h ⊢; exact h
  | .clo _ _, _, h => by
    unfold R at h ⊢
    refine ⟨h.1, h.2.1, fun a o e => @fun n => ?_⟩
    obtain ⟨e1, e2⟩ := h.2.2 a o e
    by_cases i : Im o
    · exact ⟨e1, .inl i⟩
    · exact ⟨e1, .inr ⟨e2.resolve_left i, o, e1, i⟩⟩
theorem rs_old {K : PySem.W.Frag} {G : Addr → Prop} {H : Hp} : ∀ {ds : List D} {vs : List V}, Rs K G H ds vs → Rs K (fun a => G a ∧ old H a) H ds vs
  | [], _, h => by unfold Rs at h ⊢; exact h
  | _ :: _, _, h => by
    unfold Rs at h ⊢
    obtain ⟨v, r, e, h1, h2⟩ := h
    exact ⟨v, r, e, r_old h1, rs_old h2⟩
end
def spNQ (K : PySem.W.Frag) (G0 : Addr → Prop) (sp : SpN) : List (Option V) → Sp := fun ws vs H Q _ => ∃ (us : List V) (dc ds : List D) (Pd : D → Prop), ws = us.map some ∧ Rs K G0 H dc us ∧ Rs K (fun _ => True) H ds vs ∧ nols ds = true ∧ TabsN Tabs.T H ∧ sp dc ds Pd ∧
  ∀ d v H', Pd d → All H H' → R K (fun a => H a = none ∨ G0 a) H' d v → Q v H'
def spQ (K : PySem.W.Frag) (G0 : Addr → Prop) (sp : SpD) : Sp := fun vs H Q _ => ∃ (ds : List D) (Pd : D → Prop), Rs K (fun _ => True) H ds vs ∧ nols ds = true ∧ TabsN Tabs.T H ∧ sp ds Pd ∧ ∀ d v H', Pd d → All H H' → R K (fun a => H a = none ∨ G0 a) H' d v → Q v H'
theorem rs_nol {K : PySem.W.Frag} {G G' : Addr → Prop} {H : Hp} : ∀ {ds : List D} {vs : List V}, nols ds = true → Rs K G H ds vs → Rs K G' H ds vs
  | [], _, _, h => by unfold Rs at h ⊢; exact h
  | d :: ds, _, q, h => by
    unfold Rs at h ⊢
    obtain ⟨v, r, e, h1, h2⟩ := h
    have q' : (nol d && nols ds) = true := q
    rw [Bool.and_eq_true] at q'
    exact ⟨v, r, e, R.nol q'.1 h1, rs_nol q'.2 h2⟩
theorem ok_iniG {K : PySem.W.Frag} {N : List Str} {vs : List V} {ds : List D} {H B0 : Hp} (hs : ∀ a o, B0 a = some o → H a = some o) (hn : vs.length ≤ N.length) (tb : TabsN Tabs.T H) (r : Rs K (fun a => B0 a ≠ none) H ds vs) : Ok K ⟨B0, [], []⟩ H (L2.start N vs) (ini N.length ds) := by
  have hl := r.len
  have nom : ∀ (i : Nat) (s : Sl), (ini N.length ds)[i]? = some s → s.isM = true → False := fun i s h m => by
    rcases ini_at h with rfl | ⟨d, _, rfl⟩ <;> cases m
  refine ⟨?_, fun a h => ?_, fun a h => absurd h (by simp), fun a o h _ => hs a o h, fun i s h => ?_, fun i j s t a e1 m1 _ _ _ _ => (nom i s e1 m1).elim, tb⟩
  · unfold ini L2.start
    rw [List.length_append, List.length_append, List.length_map, List.length_map, List.length_replicate, List.length_replicate, hl]
  · have h : B0 a ≠ none := h
    cases e : B0 a with
    | none => exact absurd e h
    | some o => rw [hs a o e]; exact Option.some_ne_none _
  · rcases ini_at h with rfl | ⟨d, e, rfl⟩
    · exact True.intro
    · obtain ⟨v, ev, rv⟩ := r.get e
      refine ⟨v, start_at ev, rv.mono Keep.refl fun a ha g => ⟨?_, ?_, g, ?_⟩⟩
      · intro ⟨i, s, e, m, _⟩; exact nom i s e m
      · simp
      · intro z; cases z
/-- return e, what there is around it also -/
def dRetQ (d : TD) (P : D → Prop) (ρ : En) : Prop := d ρ fun r _ => ∃ o, stoD r = some o ∧ (o.f = .p ∨ o.f = .n ∨ nol o.d = true) ∧ P o.d
theorem dfnNQ {P : Program} {w : World} {K : PySem.W.Frag} {mg : Str → Option Value} {base : Heap} {F : NF} {f : Addr} {N ps fr : List Str} {k : Nat} {sp : SpN} {d : TD} {e : Expr} {pos : Pos} {G0 : Addr → Prop} (S : NScope N ps fr F.scope)
    (hb : ∀ (doc pm ctv : Value) (us : List Value), us.length = ps.length → bindArgs (F.fd doc pm ctv) { pos := us } = pure (ps.zip us)) (hN : ps.length + fr.length ≤ N.length) (len : ∀ dc ds Q, sp dc ds Q → ds.length = ps.length) (hB : F.body = [.Return (some e) pos])
    (hbody : ∀ (A : Around) (outer : List Env) (s : Shared) (H : Hp) (E : XK), Room k (A.deeper (envF F f s.heap.objs.size)) → DE (ncx CX0 P w K mg base N F f A outer s H E).nox e d)
    (hrd : ∀ dc ds Q, sp dc ds Q → dc.length = fr.length → dRetQ d Q (ini N.length (ds ++ dc))) : NOk P w K mg base CX0 (k + 1) f F ps fr (spNQ K G0 sp) := by
  refine nok_of S hb (fun ws vs H Q E ⟨us, dc, ds, Pd, _, _, r, _, _, h, _⟩ => by rw [← r.len]; exact len dc ds Pd h) fun A outer s H vs ws Q E hr hf hcf hw ⟨us, dc, ds, Pd, ew, rc, r, hn, tb, h, fin⟩ => ?_
  obtain ⟨te, hp, ev⟩ := hbody A outer s H E hr
  have h1 : vs.length = ps.length := by rw [← r.len]; exact len dc ds Pd h
  have h2 : us.length = fr.length := by rw [ew, List.length_map] at hw; exact hw
  refine ⟨tRet te, PSs.nox (hB ▸ pss_one (ps_ret hp)), ?_⟩
  rw [ew, startF_eq]
  let B0 : Hp := fun a => open Classical in if G0 a then H a else none
  have b1 : ∀ a o, B0 a = some o → H a = some o := fun a o e => by
    have e : (open Classical in if G0 a then H a else none) = some o := e
    by_cases g : G0 a
    · rw [if_pos g] at e; exact e
    · rw [if_neg g] at e; cases e
  have b2 : ∀ a, B0 a ≠ none → G0 a := fun a e => by
    have e : (open Classical in if G0 a then H a else none) ≠ none := e
    by_cases g : G0 a
    · exact g
    · rw [if_neg g] at e; exact absurd rfl e
  have b3 : ∀ a, H a ≠ none → G0 a → B0 a ≠ none := fun a h g => by
    show (open Classical in if G0 a then H a else none) ≠ none
    rw [if_pos g]; exact h
  have rr : Rs K (fun a => B0 a ≠ none) H (ds ++ dc) (vs ++ us) := (rs_nol hn r).append (rc.mono Keep.refl fun a h g => b3 a h g)
  have k0 := ok_iniG (N := N) b1 (by rw [List.length_append]; omega) tb rr
  have nom : ∀ a, ¬ mset (L2.start N (vs ++ us)) (ini N.length (ds ++ dc)) a := fun a ⟨i, s, h, m, _⟩ => by
    rcases ini_at h with rfl | ⟨d, _, rfl⟩ <;> cases m
  refine ev ⟨B0, [], []⟩ _ _ _ _ _ k0 (hrd dc ds Pd h (by rw [rc.len]; exact h2)) fun v H1 r ρ1 k1 s1 n1 e1 ⟨o, eo, fo, q⟩ => fin o.d v H1 q ⟨fun a x hx => s1.keep a x hx (.inl (nom a)), s1.dom, fun _ => k1.tb⟩ ?_
  have g := Rg.sto (e1.rg k0.dom) eo
  rcases fo with fo | fo | fo
  · rw [fo] at g
    exact g.mono Keep.refl fun a _ x => .inr (b2 a x.2.2.1)
  · rw [fo] at g
    exact g.mono Keep.refl fun a _ x => .inl (x.2.2.2 rfl)
  · exact R.nol fo g
theorem callOk_ofQ {P : Program} {w : World} {K : PySem.W.Frag} {mg : Str → Option Value} {base : Heap} {k : Nat} {f : Addr} {F : NF} {ps fr : List Str} {sp : SpN} {us : List V} {dc : List D} {H : Hp} {G0 : Addr → Prop} (N : NOk P w K mg base CX0 k f F ps fr (spNQ K G0 sp))
    (cl : CloAt H f F fr (us.map some)) (rc : Rs K G0 (mn (fun a => ∃ y, F.cl.lookup y = some a) H) dc us) (hn : ∀ ds Pd, sp dc ds Pd → noCs ds = true) : CallOk P w K mg base k H f (spQ K G0 (sp dc)) := by
  intro A outer s uv vs Q E hr env hv ⟨ds, Pd, r, hnl, tb, h, fin⟩
  let C : Addr → Prop := fun a => ∃ y, F.cl.lookup y = some a
  have ce : ∀ a, C a → ∃ o, H a = some (.frz o (.own 0)) ∧ s.heap.get? a = some o := fun a ⟨y, e⟩ => by
    obtain ⟨o, v, h1, _⟩ := cl.all y a e
    have := env.hok _ _ h1
    unfold ObjOk at this
    exact ⟨o, h1, this.1⟩
  have sb : ∀ a o, H a = some o → ¬ isCe (some o) → mn C H a = some o := fun a o e n => by
    rw [mn_out]
    · exact e
    · intro c
      obtain ⟨o', e', _⟩ := ce a c
      rw [e] at e'
      exact n ⟨o', e'⟩
  have hokm : HOk P w (mn C H) s.heap := fun a o e => by
    obtain ⟨_, e'⟩ := mn_some e
    exact ObjOk.rel (fun q xs e => sb _ _ e (fun ⟨_, z⟩ => by cases z)) (fun q x e => sb _ _ e (fun ⟨_, z⟩ => by cases z)) (env.hok _ _ e')
  have nn : ∀ a, H a = none → mn C H a = none := fun a e => by
    by_cases c : C a
    · exact mn_in c
    · rw [mn_out c]; exact e
  have envm : Env0 P w K mg base A outer s (mn C H) := ⟨env.frames, env.mod, fun b o e => ⟨(env.bs b o e).1, nn b (env.bs b o e).2⟩, env.bsz, env.funs, fun b e => nn b (env.frf b e), hokm, env.bare⟩
  have hfm : mn C H f = some (FnO f F) := sb _ _ cl.fn (fun ⟨_, z⟩ => by cases z)
  have hcm : mn C H F.c = some (CodeO F.c F.qual) := sb _ _ cl.code codeO_noce
  have tbm : TabsN Tabs.T (mn C H) := tabs_sub sb tb
  have cells : CellsAt F.cl fr (us.map some) s.heap (mn C H) := by
    refine ⟨cl.len, fun y c e => ?_, cl.inj, fun i y e => ?_⟩
    · obtain ⟨o, v, h1, h2⟩ := cl.all y c e
      have := env.hok _ _ h1
      unfold ObjOk at this
      exact ⟨mn_in ⟨y, e⟩, v, o, this.1, h2⟩
    · obtain ⟨c, h1, h2⟩ := cl.has i y e
      refine ⟨c, h1, fun v ev => ?_⟩
      obtain ⟨u, o, r, h3, h4⟩ := h2 v ev
      have := env.hok _ _ h3
      unfold ObjOk at this
      exact ⟨u, r, o, this.1, h4⟩
  have rm : Rs K (fun _ => True) (mn C H) ds vs := Rs.sub sb (hn ds Pd h) r
  refine codeAny_mono (N.run A outer s (mn C H) uv vs (us.map some) (fun v H' => (∀ c, C c → H' c = none) → Q v (pl C H H')) E hr envm hfm hcm cells hv ⟨us, dc, ds, Pd, rfl, rc, rm, hnl, tbm, h, fun d v H' p a rd hc => ?_⟩) ?_
  · have A3f : ∀ b o, H' b = some o → pl C H H' b = some o := fun b o e => by
      by_cases c : C b
      · rw [hc b c] at e; cases e
      · rw [pl_out c]; exact e
    have A3 : All H' (pl C H H') := .full A3f
    have A2 : All H (pl C H H') := ⟨fun b o e => @fun n => by
      by_cases c : C b
      · rw [pl_in c]; exact e
      · rw [pl_out c]; exact a b o (by rw [mn_out c]; exact e), fun b e => by
      by_cases c : C b
      · rw [pl_in c]; exact e
      · rw [pl_out c]; exact a.dm b (by rw [mn_out c]; exact e), fun _ => (a.tb tbm).ext A3f⟩
    refine fin d v _ p A2 (R.mono A3.keep (fun b hb g => ?_) rd)
    have cb : ¬ C b := fun c => hb (hc b c)
    have g : mn C H b = none ∨ G0 b := g
    rw [mn_out cb] at g
    exact g
  · rintro r s' hq
    unfold CR at hq ⊢
    cases r with
    | error e => exact hq
    | ok fl =>
      cases fl with
      | ret u =>
        obtain ⟨v, H', h1, h2, un, hok, hr', q⟩ := hq
        have hc : ∀ c, C c → H' c = none := fun c z => by
          obtain ⟨o, _, e2⟩ := ce c z
          exact un.free c o e2 (mn_in z) (by simp)
        have A3 : ∀ b o, H' b = some o → pl C H H' b = some o := fun b o e => by
          by_cases c : C b
          · rw [hc b c] at e; cases e
          · rw [pl_out c]; exact e
        refine ⟨v, pl C H H', h1, h2, ⟨fun b o e1 e2 e3 e4 => un.keep b o e1 (nn b e2) e3 e4, fun b o e1 e2 e3 e4 => un.slot b o e1 (nn b e2) e3 e4, fun b o e1 e2 e3 => ?_, un.there, fun b xs e => ?_, fun b o u e => ?_, fun b ps e => ?_⟩, fun b o e => ?_, hr', q hc⟩
        · have cb : ¬ C b := fun c => by obtain ⟨o', e', _⟩ := ce b c; rw [e2] at e'; cases e'
          rw [pl_out cb]
          exact un.free b o e1 (nn b e2) e3
        · have cb : ¬ C b := fun c => by obtain ⟨o', e', _⟩ := ce b c; rw [e] at e'; cases e'
          rw [pl_out cb]
          exact un.tups b xs (by rw [mn_out cb]; exact e)
        · by_cases cb : C b
          · rw [pl_in cb]; exact e
          · rw [pl_out cb]
            exact un.frzs b o u (by rw [mn_out cb]; exact e)
        · have cb : ¬ C b := fun c => by obtain ⟨o', e', _⟩ := ce b c; rw [e] at e'; cases e'
          rw [pl_out cb]
          exact un.tbls b ps (by rw [mn_out cb]; exact e)
        · by_cases cb : C b
          · rw [pl_in cb] at e
            obtain ⟨o', e', eg⟩ := ce b cb
            rw [e] at e'
            cases e'
            unfold ObjOk
            have nf : ¬ b ∈ frs outer := fun z => by rw [env.frf b z] at e; cases e
            have := un.keep b o' eg (mn_in cb) nf (by simp)
            exact ⟨this, by unfold ObjOk; exact ⟨o', this⟩⟩
          · rw [pl_out cb] at e
            exact ObjOk.rel (fun q xs e => A3 _ _ e) (fun q x e => A3 _ _ e) (hok b o e)
      | _ => exact hq.elim
/-! ### what a def made in a def is, handed on -/
/-- f in H0 may be called, now and later -/
def cloQ (P : Program) (w : World) (K : PySem.W.Frag) (mg : Str → Option Value) (base : Heap) (k : Nat) (H0 : Hp) (sp : SpD) (v : V) : Prop :=
  ∃ f F, v = .ref f ∧ H0 f = some (FnO f F) ∧ ∀ H', (∀ a o, H0 a = some o → ∀ [Nt o], H' a = some o) → CallOk P w K mg base k H' f (spQ K (old H0) sp)
/-- what is needed of each def handed on -/
def CsOkQ (X : Cx) (k : Nat) : List (Option CS) → Prop
  | [] => True
  | none :: ps => CsOkQ X k ps
  | some cs :: ps => (∃ qs, ∀ f c' G0, NOk X.prog X.w X.K X.mg X.base CX0 k f (cs.nf c') qs cs.fr (spNQ X.K G0 cs.sp)) ∧ (∀ c', X.Ok → Caps X (cs.nf c').cl cs.fr cs.js) ∧ CsOkQ X k ps
theorem argw_rsQ {X : Cx} {kk : Nat} {B : Bx} {Hs H H2 : Hp} {σ : L2.St} {ρ : En} (k : Ok X.K B H σ ρ) (P : Plus X σ H H2) (xok : X.Ok) : ∀ {rs : List Rv} {ps : List (Option CS)} {ds : List D} {vs : List V}, ArgW (cloQ X.prog X.w X.K X.mg X.base kk) ρ H2 rs ps ds → RgL X.K B Hs H σ ρ vs rs → CsOkQ X kk ps → Rs X.K (fun _ => True) H2 ds vs
  | _, _, _, _, .nil, .nil, _ => Rs.nil
  | _, _, _, _, .val a, .cons h t, c => Rs.cons ((h.ro k).all.all P.all) (argw_rsQ k P xok a t c)
  | _, _, _, _, .clo (f := f) (c' := c') (Hd := Hd) (g := g) (cs := cs) (dc := dc) d1 d2 hc hn a, .cons h t, c => by
    obtain ⟨N, cp, c⟩ := c
    refine Rs.cons ?_ (argw_rsQ k P xok a t c)
    have h : R X.K _ H (.clo Hd (fun v => v = .ref f)) _ := h
    unfold R at h
    obtain ⟨_, rfl, hf⟩ := h
    have hf1 : H f = some (FnO f (cs.nf c')) := (hf f _ d1).1
    have hf2 : H (cs.nf c').c = some (CodeO (cs.nf c').c (cs.nf c').qual) := (hf _ _ d2).1
    have cl := P.clo (cs.nf c') cs.fr cs.js f (cp c' xok) hf1 hf2
    obtain ⟨us, eu, ru⟩ := caps_rs k hc
    unfold R
    refine ⟨⟨f, rfl⟩, ⟨f, cs.nf c', rfl, P.full _ _ hf1, fun H' A => ?_⟩, fun a o e => @fun n => ⟨e, .inr True.intro⟩⟩
    have cl' : CloAt H' f (cs.nf c') cs.fr (us.map some) := eu ▸ cl.all' A
    have am : Keep (fun _ => True) H (mn (fun a => ∃ y, (cs.nf c').cl.lookup y = some a) H') := fun b o e _ => @fun n => by
      rw [mn_out]
      · exact A b o (P.full b o e)
      · intro ⟨y, ey⟩
        have := (P.cin b ⟨y, (cp c' xok).sub y b ey⟩).1
        rw [e] at this; cases this
    have ru' : Rs X.K (old H2) (mn (fun a => ∃ y, (cs.nf c').cl.lookup y = some a) H') dc us := (rs_old ru).mono (am.weak fun _ _ => True.intro) fun a ha ⟨_, o, e, i⟩ => ⟨o, P.full a o e, i⟩
    obtain ⟨qs, N⟩ := N
    exact callOk_ofQ (N f c' _) cl' ru' hn
theorem de_callWQ {X : Cx} {x : Str} {p pos : Pos} {e : Expr} {es : List Expr} {j k kk : Nat} {sp : SpD} {ps : List (Option CS)} {t : TL} (C : Cal X.prog X.w X.K X.mg X.base x j (spP X.K sp)) (hr : Room k X.A) (hjk : j ≤ k) (hfn : ∀ x, X.fn x = true) (hst : X.stack = X.env :: X.outer) (hfr : X.env.frame = some X.env.locals) (cs : CsOkQ X kk ps)
    (ha : DA X (e :: es) t) (hg : Gl X x := by rfl) (hdb : (x == ("__debug__" : Str)) = false := by decide)
    (he : starEach (e :: es) X.env = (false, eval e X.env) :: starEach es X.env := by rfl) (hpl : (backTo pos (starEach es X.env)).any (·.1) = false := by rfl) : DE X (.Call (.Name x p) (e :: es) [] pos) (dCallW (cloQ X.prog X.w X.K X.mg X.base kk) sp ps t) := by
  obtain ⟨f, fd, qs, F, hm, hk, hb⟩ := C.ex
  obtain ⟨ta, pa, ev⟩ := ha
  refine ⟨fun σ H Q => ta σ H fun vs H1 => X.Ok → ∀ H2, Plus X σ H1 H2 → spP X.K sp vs H2 (fun v H' => Q v (mn (cellX X) H')) (fun _ _ _ => False), ⟨fun pins s σ H Q I h => ?_⟩, fun B σ H ρ Q Q' k0 q fin => ?_⟩
  · refine wpAny_Call_Name_kw (ld_glob I hg hm (PySem.W.callWith_K I.ok.mod.kin hk (thn (pa.run pos pins s σ H _ I h) fun us s1 hx => ?_) he hpl) hdb)
    obtain ⟨vs, H1, I1, r, q⟩ := hx
    exact ⟨Inv.kIn I1, run_fnW F (hr.mono hjk) hb hfn hst hfr I1 r (q I1.ok)⟩
  · refine ev B σ H ρ _ _ k0 q fun vs H1 rs ρ1 k1 s1 n1 e1 q1 => fun xok H2 P => ?_
    obtain ⟨ds, aw, hsp⟩ := q1 H2
    refine ⟨ds, _, argw_rsQ k1 P xok aw e1 cs, k1.tb.ext P.full, hsp, fun d v H' ⟨hn, q2⟩ A r => ?_⟩
    have sbf : ∀ a o, H' a = some o → ¬ isCe (some o) → mn (cellX X) H' a = some o := fun a o e n => by
      by_cases c : cellX X a
      · obtain ⟨o', e'⟩ := (P.cin a c).2
        rw [A a _ e'] at e
        cases e
        exact (n ⟨_, rfl⟩).elim
      · rw [mn_out c]; exact e
    have nc : ∀ b, H1 b ≠ none → ¬ cellX X b := fun b e c => e (P.cin b c).1
    have A1 : All H1 (mn (cellX X) H') := ⟨fun b o e => @fun n => by
      rw [mn_out (nc b (by rw [e]; exact Option.some_ne_none _))]
      exact A b o (P.full b o e), fun b e => by
      rw [mn_out (nc b e)]
      exact A.dm b (P.all.dm b e), fun t => tabs_sub sbf (A.tb (t.ext P.full))⟩
    have rr : R X.K (fun a => H2 a = none) (mn (cellX X) H') d v := R.sub sbf hn r
    refine fin v _ (.v d .n) ρ1 (k1.all A1) (s1.trans A1.step) n1 (rr.mono Keep.refl fun a _ g => fresh_gf k0.dom s1.dom (fun _ m => k1.mdom m) k1.av ?_) q2
    cases z : H1 a with
    | none => rfl
    | some o =>
      have g : H2 a = none := g
      rw [P.full a o z] at g; cases g
/-! ### a parameter that is a def is called -/
def dCallCQ (cφ : Hp → SpD → V → Prop) (i : Nat) (t : TL) : TD := fun ρ Q => (∃ H0 sp f, ρ.getD i .no = .val (.clo H0 (cφ H0 sp)) f) ∧ t ρ fun rs ρ1 => ∃ H0 sp f, ρ1.getD i .no = .val (.clo H0 (cφ H0 sp)) f ∧ nols (rs.map fun r => (ob ρ1 r).d) = true ∧ sp (rs.map fun r => (ob ρ1 r).d) fun d => Q (.v d .o) ρ1
theorem de_callCQ {X : Cx} {x : Str} {p pos : Pos} {e : Expr} {es : List Expr} {i k kk : Nat} {t : TL} (hr : Room k X.A) (hjk : kk ≤ k) (ha : DA X (e :: es) t) (hN : X.N[i]? = some x := by rfl) (hv : Vis X.env.scope x := by first | exact Or.inl rfl | exact Or.inr (Or.inl rfl) | exact Or.inr (Or.inr rfl)) (hd : (x == ("__debug__" : Str)) = false := by decide) (hcd : (x == ("__classdict__" : Str)) = false := by decide)
    (hx : X.xe = fun _ _ => False := by rfl) (he : starEach (e :: es) X.env = (false, eval e X.env) :: starEach es X.env := by rfl) (hpl : (backTo pos (starEach es X.env)).any (·.1) = false := by rfl) : DE X (.Call (.Name x p) (e :: es) [] pos) (dCallCQ (cloQ X.prog X.w X.K X.mg X.base kk) i t) := by
  obtain ⟨ta, pa, ev⟩ := ha
  refine ⟨fun σ H Q => ∃ f F, σ[i]? = some (some (.ref f)) ∧ H f = some (FnO f F) ∧ ta σ H fun vs H1 => H1 f = some (FnO f F) ∧ ∃ (G0 : Addr → Prop) (sp : SpD), CallOk X.prog X.w X.K X.mg X.base kk H1 f (spQ X.K G0 sp) ∧ spQ X.K G0 sp vs H1 Q (fun _ _ _ => False), ⟨fun pins s σ H Q I h => ?_⟩, fun B σ H ρ Q Q' k0 ⟨⟨H0, sp0, f0, e0⟩, q⟩ fin => ?_⟩
  · obtain ⟨f, F, hs, hf, ht⟩ := h
    refine wpAny_Call_Name_kw (thn ((pe_var hN hv hd hcd).run pins s σ H (fun v H1 => v = .ref f ∧ H1 = H) I ⟨.ref f, hs, rfl, rfl⟩) fun u s1 hx1 => ?_)
    obtain ⟨v, H1, I1, r1, rfl, rfl⟩ := hx1
    cases r1
    refine PySem.W.callWith_F (fnAt_of I1 hf) (thn (pa.run pos pins s1 σ _ _ I1 ht) fun us s2 hx2 => ?_) he hpl
    obtain ⟨vs, H2, I2, r, h1, G0, sp, co, q⟩ := hx2
    refine ⟨fnAt_of I2 h1, wpAny_call (codeAny_mono (co X.A X.stack s2 us vs Q _ (hr.mono hjk) (Inv.env0 I2) r q) ?_)⟩
    rintro rr s' hq
    unfold CR at hq
    cases rr with
    | error e => exact hq.elim
    | ok fl =>
      cases fl with
      | ret u => exact Inv.after I2 hq
      | _ => exact hq.elim
  · obtain ⟨v, ev0, rv⟩ := k0.sl i _ (getD_some e0 (by simp))
    unfold R at rv
    obtain ⟨_, ⟨f, F, rfl, hf, hc⟩, hall⟩ := rv
    refine ⟨f, F, ev0, (hall f _ hf).1, ev B σ H ρ _ _ k0 q fun vs H1 rs ρ1 k1 s1 n1 e1 ⟨H0', sp, f0', e0', q1⟩ => ?_⟩
    obtain ⟨v', ev1, rv1⟩ := k1.sl i _ (getD_some e0' (by simp))
    rw [ev0] at ev1
    cases ev1
    unfold R at rv1
    obtain ⟨_, ⟨f', F', ef, hf', hc'⟩, hall'⟩ := rv1
    cases ef
    have a1 : H1 f = some (FnO f F') := (hall' f _ hf').1
    have a2 : H1 f = some (FnO f F) := s1.keep f _ (hall f _ hf).1 (.inr True.intro)
    refine ⟨a2, old H0', sp, hc' H1 (fun a o e => (hall' a o e).1), ⟨_, _, e1.all k1, q1.1, k1.tb, q1.2, fun d v H2 p A r => fin v H2 (.v d .o) ρ1 (k1.all A) (s1.trans A.step) n1 ?_ p⟩⟩
    exact r.mono Keep.refl fun a _ g => by
      rcases g with g | g
      · have := fresh_gf k0.dom s1.dom (fun _ m => k1.mdom m) k1.av g
        exact ⟨this.1, this.2.1, True.intro, fun z => by cases z⟩
      · obtain ⟨o, z, i⟩ := g
        have n : Nt o := ⟨fun ps e => i (e ▸ True.intro)⟩
        have := (hall' a o z).2.resolve_left i
        exact ⟨this.1, this.2.1, True.intro, fun z => by cases z⟩
theorem de_callCZ {X : Cx} {x : Str} {p pos : Pos} {e : Expr} {es : List Expr} {i k kk : Nat} {t : TL} (cφ : Hp → SpD → V → Prop) (hr : Room k X.A) (hjk : kk ≤ k) (ha : DA X (e :: es) t) (hφ : cφ = cloQ X.prog X.w X.K X.mg X.base kk := by rfl) (hN : X.N[i]? = some x := by rfl) (hv : Vis X.env.scope x := by first | exact Or.inl rfl | exact Or.inr (Or.inl rfl) | exact Or.inr (Or.inr rfl)) (hd : (x == ("__debug__" : Str)) = false := by decide) (hcd : (x == ("__classdict__" : Str)) = false := by decide)
    (hx : X.xe = fun _ _ => False := by rfl) (he : starEach (e :: es) X.env = (false, eval e X.env) :: starEach es X.env := by rfl) (hpl : (backTo pos (starEach es X.env)).any (·.1) = false := by rfl) : DE X (.Call (.Name x p) (e :: es) [] pos) (dCallCQ cφ i t) :=
  hφ ▸ de_callCQ (kk := kk) hr hjk ha hN hv hd hcd hx he hpl
theorem de_callWZ {X : Cx} {x : Str} {p pos : Pos} {e : Expr} {es : List Expr} {j k kk : Nat} {sp : SpD} {ps : List (Option CS)} {t : TL} (cφ : Hp → SpD → V → Prop) (C : Cal X.prog X.w X.K X.mg X.base x j (spP X.K sp)) (hr : Room k X.A) (hjk : j ≤ k) (hfn : ∀ x, X.fn x = true) (hst : X.stack = X.env :: X.outer) (hfr : X.env.frame = some X.env.locals) (cs : CsOkQ X kk ps)
    (ha : DA X (e :: es) t) (hφ : cφ = cloQ X.prog X.w X.K X.mg X.base kk := by rfl) (hg : Gl X x := by rfl) (hdb : (x == ("__debug__" : Str)) = false := by decide)
    (he : starEach (e :: es) X.env = (false, eval e X.env) :: starEach es X.env := by rfl) (hpl : (backTo pos (starEach es X.env)).any (·.1) = false := by rfl) : DE X (.Call (.Name x p) (e :: es) [] pos) (dCallW cφ sp ps t) :=
  hφ ▸ de_callWQ (kk := kk) C hr hjk hfn hst hfr cs ha hg hdb he hpl
end DL

namespace DL
open PySem L2 NdefX LamX
variable [Tabs]
/-! ### THE RULE for a def in a def whose answer is new -/
theorem dfnN {P : Program} {w : World} {K : PySem.W.Frag} {mg : Str → Option Value} {base : Heap} {F : NF} {f : Addr} {N ps fr : List Str} {k : Nat} {sp : SpN} {t : TSD} {G0 : Addr → Prop} (S : NScope N ps fr F.scope)
    (hb : ∀ (doc pm ctv : Value) (us : List Value), us.length = ps.length → bindArgs (F.fd doc pm ctv) { pos := us } = pure (ps.zip us)) (hN : ps.length + fr.length ≤ N.length) (len : ∀ dc ds Q, sp dc ds Q → ds.length = ps.length)
    (hbody : ∀ (A : Around) (outer : List Env) (s : Shared) (H : Hp) (E : XK), Room k (A.deeper (envF F f s.heap.objs.size)) → DSs (ncx CX0 P w K mg base N F f A outer s H E).nox F.body t)
    (hrd : ∀ dc ds Q, sp dc ds Q → dc.length = fr.length → t ⟨fun _ => Q .non, fun d _ => Q d, fun _ => False, fun _ => False⟩ (ini N.length (ds ++ dc))) : NOk P w K mg base CX0 (k + 1) f F ps fr (spNQ K G0 sp) := by
  refine nok_of S hb (fun ws vs H Q E ⟨us, dc, ds, Pd, _, _, r, _, _, h, _⟩ => by rw [← r.len]; exact len dc ds Pd h) fun A outer s H vs ws Q E hr hf hcf hw ⟨us, dc, ds, Pd, ew, rc, r, hn, tb, h, fin⟩ => ?_
  obtain ⟨ts, hp, ev⟩ := hbody A outer s H E hr
  have h1 : vs.length = ps.length := by rw [← r.len]; exact len dc ds Pd h
  have h2 : us.length = fr.length := by rw [ew, List.length_map] at hw; exact hw
  have rr : Rs K (fun _ => True) H (ds ++ dc) (vs ++ us) := r.append (rc.mono Keep.refl fun _ _ _ => True.intro)
  refine ⟨ts, PSs.nox hp, ?_⟩
  rw [ew, startF_eq]
  refine ev ⟨H, [], []⟩ _ _ _ _ _ (ok_ini (by rw [List.length_append]; omega) tb rr) (hrd dc ds Pd h (by rw [rc.len]; exact h2)) ⟨fun σ' H' ρ' k s q => ?_, fun v H' σ' ρ' d k r q => ?_, fun _ _ _ _ _ q => q, fun _ _ _ _ _ q => q⟩
  · exact fin .non .non H' q (k.base0 rfl) R.n
  · exact fin d v H' q (k.base0 rfl) (r.mono Keep.refl fun _ _ g => .inl g)
/-! ### def f(..): .. within a def -/
def dDef (i : Nat) (mk : Addr → NF) : TSD := fun E ρ => i < ρ.length ∧ ∀ (f c' : Addr) (Hd : Hp), Hd f = some (FnO f (mk c')) → Hd (mk c').c = some (CodeO (mk c').c (mk c').qual) → E.nx (ρ.set i (.val (.clo Hd (fun v => v = .ref f)) .n))
theorem evs_def {K : PySem.W.Frag} {i : Nat} {mk : Addr → NF} (hmk : ∀ c', (mk c').c = c') : EvS K (tNdefM Tabs.T i mk) (dDef i mk) := fun B σ H ρ E D' k ⟨hi, q⟩ l => ⟨k.tb, fun f c' H1 eN nn T1 hf h1 h2 => by
  have A : All H H1 := ⟨fun a o e => @fun n => eN a o e n.h, fun a e z => e (nn a z), fun _ => T1⟩
  have k1 : Ok K B H1 σ ρ := k.all A
  let Hd : Hp := fun a => if a = f ∨ a = c' then H1 a else none
  have hd : ∀ {a : Addr} {o : HO}, Hd a = some o → (a = f ∨ a = c') ∧ H1 a = some o := fun {a o} e => by
    have e : (if a = f ∨ a = c' then H1 a else none) = some o := e
    by_cases z : a = f ∨ a = c'
    · rw [if_pos z] at e; exact ⟨z, e⟩
    · rw [if_neg z] at e; cases e
  have rv : R K (GF B (mset σ ρ) H .n) H1 (.clo Hd (fun v => v = .ref f)) (.ref f) := by
    unfold R
    refine ⟨⟨f, rfl⟩, rfl, fun a o e => @fun n => ?_⟩
    obtain ⟨z, eh⟩ := hd e
    refine ⟨eh, .inl ?_⟩
    rcases z with rfl | rfl
    · rw [h1] at eh; cases eh; exact True.intro
    · rw [h2] at eh; cases eh; exact True.intro
  obtain ⟨o1, o2⟩ := k1.asg hi rv
  exact l.nx _ _ _ o1 (A.step.s.trans o2) (q f c' Hd (by show (if f = f ∨ f = c' then H1 f else none) = _; rw [if_pos (.inl rfl)]; exact h1) (by rw [hmk]; show (if c' = f ∨ c' = c' then H1 c' else none) = _; rw [if_pos (.inr rfl)]; exact h2))⟩
theorem ds_def {X : Cx} {st : Stmt} {nm : Nat → Nat → Str} {c P : Addr} {name : Str} {pos : Pos} {i : Nat} {mk : Addr → NF} (TB : TabB X.base X.mg c P) (hm : (P, nm) ∈ Tabs.T) (hu : ∀ p ∈ Tabs.T, p.1 = P → p.2 = nm)
    (hc : X.env.code = .ref c) (hn : nm pos.line pos.col = X.env.qual ++ name) (hst : st = .FunctionDef name (C8.fnArgs st) (C8.fnBody st) [] none [] (C8.fnScope st) none name pos) (hfree : ∀ y ∈ (C8.fnScope st).names, y.2 = .free → X.env.scope.names.lookup y.1 = some .cell ∨ X.env.scope.names.lookup y.1 = some .free)
    (h1 : (C8.fnArgs st).defaults = []) (h2 : (C8.fnArgs st).kw_defaults = []) (h3 : annTrees (C8.fnArgs st) none X.env = []) (hN : X.N.Nodup) (hi : X.N[i]? = some name) (hx : Loc X.env.scope name) (hf : X.fn name = true ∨ X.env.scope.names.lookup name = some .local) (hF : mk = NF.of st name (X.env.qual ++ name) (cloFrom X.env.cells (C8.fnScope st).names [])) :
    DS X st (dDef i mk) :=
  hF ▸ ⟨_, ps_ndefMS hst TB hc hm hn hu hfree h1 h2 h3 hN hi hx hf, evs_def fun _ => rfl⟩
end DL

namespace DL
open PySem L2 NdefX LamX
variable [Tabs]
/-! ### a script's list may be looked at as one that stands still -/
def spLx (K : PySem.W.Frag) (n : Nat) : Sp := fun vs H Q _ => ∃ (a : Addr) (ns : List Int), vs = [.ref a] ∧ ns.length ≤ n ∧ TabsN Tabs.T H ∧ SqL K H a (ns.map V.int) ∧ ∀ H', Q (.bl true) H'
theorem nm_law {K : PySem.W.Frag} {H : Hp} {a : Addr} {ns : List Int} {n : Nat} {sp : SpD} {Q : VK} {E : XK} (hsp : ∀ ns : List Int, ns.length ≤ n → sp [.fz (ns.map D.int)] fun d => d = .bl true) (hl : ns.length ≤ n) (tb : TabsN Tabs.T H) (hn : NM K H a (ns.map V.int)) (hQ : ∀ H', Q (.bl true) H') : spP K sp [.ref a] H Q E := by
  refine ⟨[.fz (ns.map D.int)], fun d => d = .bl true, Rs.cons ?_ Rs.nil, tb, hsp ns hl, fun d v H' e _ r => ?_⟩
  · unfold R; exact ⟨a, _, rfl, hn, Rs.ofInts ns⟩
  · subst e
    unfold R at r
    subst r
    exact hQ H'
theorem frz_ok {P : Program} {w : World} {K : PySem.W.Frag} {mg : Str → Option Value} {base : Heap} {k n : Nat} {f : Addr} {fd : FuncData} {x : Str} {sp : SpD} (hsp : ∀ ns : List Int, ns.length ≤ n → sp [.fz (ns.map D.int)] fun d => d = .bl true) (F : FnOk P w K mg base CX0 k f fd [x] (spP K sp)) : FnOk P w K mg base CX0 k f fd [x] (spLx K n) := by
  refine ⟨fun vs H Q E ⟨_, _, e, _⟩ => by rw [e]; rfl, fun A outer s H args us vs Q E hr env hb hv ⟨a, ns, e, hl, tb, hS, hQ⟩ => ?_⟩
  subst e
  rcases hS with (hS | ⟨o, hS⟩) | hS
  · obtain ⟨o, ho⟩ : ∃ o, s.heap.get? a = some o := by
      have := env.hok a _ hS
      unfold ObjOk at this
      obtain ⟨_, its, m, _, e⟩ := this
      exact ⟨_, e⟩
    let H2 : Hp := upd H a (.frz o (.lst (ns.map V.int)))
    have h2n : ∀ b, H2 b = none ↔ H b = none := fun b => by
      by_cases z : b = a
      · subst z
        show upd H b _ b = none ↔ _
        rw [upd_same, hS]; simp
      · show upd H a _ b = none ↔ _
        rw [upd_ne z]
    have ne : ∀ {b : Addr} {u : HO}, H b = some u → (∀ xs, u ≠ .lst xs) → H2 b = some u := fun {b u} e n => by
      show upd H a _ b = _
      rw [upd_ne]
      · exact e
      · intro z; subst z
        rw [hS] at e; cases e; exact n _ rfl
    have hok2 : HOk P w H2 s.heap := fun b u e => by
      by_cases z : b = a
      · subst z
        have e : upd H b _ b = some u := e
        rw [upd_same] at e
        cases e
        have := env.hok b _ hS
        unfold ObjOk
        exact ⟨ho, ObjOk.rel (fun q xs e => ne e (fun _ z => by cases z)) (fun q x e => ne e (fun _ z => by cases z)) this⟩
      · have e : upd H a _ b = some u := e
        rw [upd_ne z] at e
        exact ObjOk.rel (fun q xs e => ne e (fun _ z => by cases z)) (fun q x e => ne e (fun _ z => by cases z)) (env.hok b u e)
    have tb2 : TabsN Tabs.T H2 := fun p hp => by
      obtain ⟨ps, h1, h2, h3⟩ := tb p hp
      refine ⟨ps, ne h1 (fun _ z => by cases z), h2, fun pos cv hc => ?_⟩
      obtain ⟨c, e1, e2⟩ := h3 pos cv hc
      exact ⟨c, e1, ne e2 (fun _ z => by unfold CodeO at z; cases z)⟩
    have env2 : Env0 P w K mg base A outer s H2 := ⟨env.frames, env.mod, fun b o e => ⟨(env.bs b o e).1, (h2n b).mpr (env.bs b o e).2⟩, env.bsz, env.funs, fun b e => (h2n b).mpr (env.frf b e), hok2, env.bare⟩
    refine codeAny_mono (F.run A outer s H2 args us [.ref a] Q E hr env2 hb hv (nm_law hsp hl tb2 (.inl ⟨o, upd_same⟩) hQ)) ?_
    rintro r s' hq
    unfold CR at hq ⊢
    cases r with
    | error e => exact hq
    | ok fl =>
      cases fl with
      | ret u =>
        obtain ⟨v, H', h1, h2, un, hok, hr', q⟩ := hq
        exact ⟨v, H', h1, h2, ⟨fun b o e1 e2 => un.keep b o e1 ((h2n b).mpr e2), fun b o e1 e2 => un.slot b o e1 ((h2n b).mpr e2), fun b o e1 e2 => un.free b o e1 ((h2n b).mpr e2), un.there, fun b xs e => un.tups b xs (ne e (fun _ z => by cases z)), fun b o u e => un.frzs b o u (ne e (fun _ z => by cases z)), fun b ps e => un.tbls b ps (ne e (fun _ z => by cases z))⟩, hok, hr', q⟩
      | _ => exact hq.elim
  · exact F.run A outer s H args us [.ref a] Q E hr env hb hv (nm_law hsp hl tb (.inl ⟨o, hS⟩) hQ)
  · exact F.run A outer s H args us [.ref a] Q E hr env hb hv (nm_law hsp hl tb (.inr (.inr hS)) hQ)
end DL

namespace DM
open PySem L2 DL PyProof.Rows
/-- {k: v}, the key a tuple of whole numbers and texts -/
def tDispT (tk tv : TE) : TE := fun σ H Q => ∀ p, H p = none → tk σ (upd H p (.dT [])) fun y H1 => tv σ H1 fun z H2 => H2 p = some (.dT []) ∧ ∃ (b : Addr) (ks : List Key), y = .ref b ∧ H2 b = some (.tup (ks.map kV)) ∧ Q (.ref p) (upd H2 p (.dT [(ks, z)]))
theorem pe_dispT {X : Cx} {pos : Pos} {k v : Expr} {tk tv : TE} {j : Nat} (hr : Room j X.A) (hk : PE X k tk) (hv : PE X v tv) : PE X (.Dict [some k] [v] pos) (tDispT tk tv) := by
  refine ⟨fun pins s σ H Q I q => ?_⟩
  have hn := I.hok.fresh (Nat.le_refl s.heap.objs.size)
  have I1 := I.laid (a := s.heap.objs.size) (o := .dT []) (h' := s.heap.push { cls := .type "dict", data := .dict #[] }) (t' := s.toks) (fun _ _ q => Heap.get?_push_of_some _ q) (Nat.le_refl _) (dt_empty s.heap I.big)
  have h0 : pairTrees [some k] [v] X.env pos ≠ [] := fun z => by
    have := pairTrees_length [some k] [v] X.env pos rfl rfl
    rw [z] at this; cases this
  have hl : (pairTrees [some k] [v] X.env pos).length ≤ 15 := by rw [pairTrees_length [some k] [v] X.env pos rfl rfl]; show 1 ≤ 15; decide
  rw [arm_eval_Dict, zip_pairTrees [some k] [v] X.env pos rfl rfl, dictDisplay_pairs _ h0 (by omega)]
  refine wpAny_bind (wpAny_standAt (wpAny_bind (wpAny_subDictH (knd := tupleKind (mixKind X.prog X.w)) (Q := fun d s' => wpAny (model X.prog X.w) X.A (pure (Value.ref d)) _ _ s') (show X.A.units < cLine from by have := hu_of hr; omega) hl ?_)))
  refine thn ((pps_cons hk hv pps_nil).run pins _ σ _ (fun ps H2 => match ps with | [(y, z)] => H2 s.heap.objs.size = some (.dT []) ∧ ∃ (b : Addr) (ks : List Key), y = .ref b ∧ H2 b = some (.tup (ks.map kV)) ∧ Q (.ref s.heap.objs.size) (upd H2 s.heap.objs.size (.dT [(ks, z)])) | _ => False) I1 ?_) fun ws s2 hx => ?_
  · exact q _ hn
  · obtain ⟨ps, H2, I2, rel, hx⟩ := hx
    match ps, rel, hx with
    | [(y, z)], rel, ⟨hp, b, ks, ey, hb, q2⟩ =>
      subst ey
      cases rel with
      | @cons _ w0 _ ws' h t =>
        cases t
        obtain ⟨u, r⟩ := w0
        obtain ⟨h1, h2⟩ := h
        cases (show u = Value.ref b from h1)
        obtain ⟨zz, hd, xs, rk, dd⟩ := dt_of I2.hok hp
        cases rk
        refine ⟨[(ks, b, r)], ⟨rfl, rfl, key_of I2.hok hb, trivial⟩, dd, fun h' tk dd' hs => ?_⟩
        obtain ⟨q, es, ep, hq, g2, g3, g4, _, g5⟩ := dd'
        have nb : upd H2 s.heap.objs.size (.dT [(ks, z)]) b = some (.tup (ks.map kV)) := by
          rw [upd_ne (ne_of hb hp (fun z => nomatch z))]
          exact hb
        refine wpAny_pure ⟨.ref s.heap.objs.size, _, d_write (ob := .dT [(ks, z)]) I2 (by rw [hp]; exact True.intro) hs ⟨q, hq⟩ ⟨by rw [sizeLine_eq]; show 1 ≤ _; decide, hd, [(ks, b, r)], .cons ⟨rfl, nb, h2⟩ .nil, q, es, ep, hq, g2, g3, g4, g5⟩, rfl, q2⟩
end DM
namespace DL
open PySem L2
variable [Tabs]
def dDispT (dk dv : TD) : TD := fun ρ Q => dk ρ fun rk ρ1 => dv ρ1 fun rv ρ2 => ∃ x o, (ob ρ2 rk).d = .tk x ∧ stoD rv = some o ∧ Q (.nt [x] [o.d] (fup o.f o.d)) ρ2
theorem ev_dispT {K : PySem.W.Frag} {tk tv : TE} {dk dv : TD} (hk : Ev1 K tk dk) (hv : Ev1 K tv dv) : Ev1 K (DM.tDispT tk tv) (dDispT dk dv) := fun B σ H ρ Q Q' k q fin => fun p hp => by
  have hp0 : B.H0 p = none := fresh0 k.dom hp
  have k0 := k.clear (o := .dT []) hp
  have pav : p ∈ (B.add p).Av := List.mem_cons_self
  show tk σ (upd H p (.dT [])) fun y H1 => tv σ H1 fun z H2 => _
  refine hk (B.add p) σ _ ρ _ _ k0 q fun y H1 r1 ρ1 k1 s1 n1 w1 q1 => hv (B.add p) σ H1 ρ1 _ _ k1 q1 fun z H2 r2 ρ2 k2 s2 n2 w2 ⟨x, o, ek, eo, q2⟩ => ?_
  have ry := (Rg.ro k2 ((w1.rg k0.dom).go s2 n2)).all
  rw [ek] at ry
  unfold R at ry
  obtain ⟨b, rfl, hb⟩ := ry
  have h1p : H1 p = some (.dT []) := s1.keep p _ upd_same (.inl fun t => k0.mav t pav)
  have h2p : H2 p = some (.dT []) := s2.keep p _ h1p (.inl fun t => k1.mav t pav)
  refine ⟨h2p, b, x, rfl, hb, ?_⟩
  have em : [(x, z)] = [x].zip [z] := rfl
  rw [em]
  have k3 : Ok K (B.add p) (upd H2 p (.dT ([x].zip [z]))) σ ρ2 := k2.updAv h2p (fun t => t) hp0
  have kpE : Keep (fun a => a ≠ p) H2 (upd H2 p (.dT ([x].zip [z]))) := fun a u h g => by
    by_cases t1 : a = p
    · subst t1
      rcases g with g | g
      · exact absurd rfl g
      · rw [h2p] at h; cases h; exact g.elim
    · rw [upd_ne t1]; exact h
  have dmE : ∀ a, H2 a ≠ none → (upd H2 p (.dT ([x].zip [z]))) a ≠ none := fun a h => by
    by_cases t : a = p
    · rw [t, upd_same]; exact Option.some_ne_none _
    · rw [upd_ne t]; exact h
  have s12 := s1.trans s2
  have hne0 : ∀ {a : Addr}, H a ≠ none → a ≠ p := fun h t => h (t ▸ hp)
  have dHs : ∀ a, H a ≠ none → H1 a ≠ none := fun a h => s1.dom a (All.dom (All.new hp) h)
  refine fin (.ref p) _ (.nt [x] [o.d] (fup o.f o.d)) ρ2 k3.unclear ⟨fun a u h g => @fun n => ?_, fun a h => dmE a (s2.dom a (dHs a h)), s12.sub⟩ (n1.trans n2)
    ⟨p, [z], rfl, upd_same, rfl, hp, fun t => k3.mav t pav, fun t => k.av p t hp, k3, ?_⟩ q2
  · have na : a ≠ p := hne0 (by rw [h]; exact Option.some_ne_none _)
    exact kpE a u (s12.keep a u (All.new hp a u h) g) (.inl na)
  · have w4 := ((w2.rg k1.dom).sto eo).up
    exact .cons (R.mono (kpE.weak fun a g t => g.2.1 (t ▸ pav)) (fun a _ g => GF.base dHs g) w4) .nil
theorem de_dispT {X : Cx} {k v : Expr} {dk dv : TD} {pos : Pos} {j : Nat} (hr : Room j X.A) (hk : DE X k dk) (hv : DE X v dv) : DE X (.Dict [some k] [v] pos) (dDispT dk dv) := let ⟨_, p1, e1⟩ := hk; let ⟨_, p2, e2⟩ := hv; ⟨_, DM.pe_dispT hr p1 p2, ev_dispT e1 e2⟩
end DL

namespace DL
open PySem L2 NdefX
variable [Tabs]
/-! ### a def that may let an own exception out -/
/-- on the arguments: what holds of the answer, of the name of what is raised -/
abbrev SpX := List D → (D → Prop) → (Str → Prop) → Prop
def spX (K : PySem.W.Frag) (mg : Str → Option Value) (sp : SpX) : Sp := fun vs H Q E => ∃ (ds : List D) (P : D → Prop) (R' : Str → Prop), Rs K (fun _ => True) H ds vs ∧ TabsN Tabs.T H ∧ sp ds P R' ∧ (∀ d v H', P d → All H H' → R K (fun a => H a = none) H' d v → Q v H') ∧
  ∀ x C H', R' x → All H H' → mg x = some C → E C none H'
structure CalX (P : Program) (w : World) (K : PySem.W.Frag) (mg : Str → Option Value) (base : Heap) (x : Str) (k : Nat) (sp : Sp) : Prop where
  ex : ∃ f fd ps, FnOk P w K mg base (L2.CX P w) k f fd ps sp ∧ mg x = some (.ref f) ∧ PySem.W.keepIn K (.ref f) = true ∧ Binds K fd ps []
section
variable {P : Program} {w : World} {K : PySem.W.Frag} {mg : Str → Option Value} {base : Heap}
theorem dfnX {x qual : Str} {st : Stmt} {f : Addr} {fd : FuncData} {N ps : List Str} {k : Nat} {sp : SpX} {t : TSX} (F : Fun K x qual st f fd) (S : FnScope N ps (defScope st)) (hN : ps.length ≤ N.length) (len : ∀ ds Q R, sp ds Q R → ds.length = ps.length)
    (hbody : ∀ (cdv : Value) (A : Around) (outer : List Env) (s : Shared) (H : Hp) (E : XK), Room k (A.deeper (PyProof.Rows.envOfC qual (defScope st) s.heap.objs.size f cdv)) → DSsx (cxOf (L2.CX P w) P w K mg base N qual (defScope st) f cdv A outer s H E) (fun cls d _ H => E cls d H) (defBody st) t)
    (hrd : ∀ ds Q R, sp ds Q R → t (fun x _ => R x) ⟨fun _ => Q .non, fun d _ => Q d, fun _ => False, fun _ => False⟩ (ini N.length ds)) : FnOk P w K mg base (L2.CX P w) (k + 1) f fd ps (spX K mg sp) := by
  refine F.okX S (fun vs H Q E ⟨ds, Pd, R', r, _, h, _⟩ => by rw [← r.len]; exact len ds Pd R' h) fun cdv A outer s H vs Q E hr ⟨ds, Pd, R', r, tb, h, fin, finx⟩ => ?_
  obtain ⟨ts, hp, ev⟩ := hbody cdv A outer s H E hr
  have hvl : vs.length = ps.length := by rw [← r.len]; exact len ds Pd R' h
  refine ⟨ts, hp, ev (fun x _ => R' x) ⟨H, [], []⟩ _ _ _ _ _ (ok_ini (by omega) tb r) (hrd ds Pd R' h) ⟨fun σ' H' ρ' k s q => ?_, fun v H' σ' ρ' d k r q => ?_, fun _ _ _ _ _ q => q, fun _ _ _ _ _ q => q⟩ fun x σ' H' ρ' C k s q e => ?_⟩
  · exact fin .non .non H' q (k.base0 rfl) R.n
  · exact fin d v H' q (k.base0 rfl) r
  · exact finx x C H' q (k.base0 rfl) e
end
/-! ### its call -/
def dCallX (sp : SpX) (t : TL) : TDX := fun rx ρ Q => t ρ fun rs ρ1 => sp (rs.map fun r => (ob ρ1 r).d) (fun d => Q (.v d .n) ρ1) (fun x => rx x ρ1)
theorem dex_call {X : Cx} {W : WX} {x : Str} {p pos : Pos} {e : Expr} {es : List Expr} {j k : Nat} {sp : SpX} {t : TL} (C : CalX X.prog X.w X.K X.mg X.base x j (spX X.K X.mg sp)) (hr : Room k X.A) (hjk : j ≤ k) (tk : Takes X W) (ha : DA X (e :: es) t) (hg : Gl X x := by rfl) (hdb : (x == ("__debug__" : Str)) = false := by decide)
    (he : starEach (e :: es) X.env = (false, eval e X.env) :: starEach es X.env := by rfl) (hpl : (backTo pos (starEach es X.env)).any (·.1) = false := by rfl) : DEx X W (.Call (.Name x p) (e :: es) [] pos) (dCallX sp t) := by
  obtain ⟨f, fd, ps, F, hm, hk, hb⟩ := C.ex
  obtain ⟨ta, pa, ev⟩ := ha
  refine ⟨_, pe_callS F (hr.mono hjk) hg hm hk hb (fun σ => passAt tk σ) pa hdb he hpl, fun rx B σ H ρ Q Q' k q lx fin => ?_⟩
  refine ev B σ H ρ _ _ k q fun vs H1 rs ρ1 k1 s1 n1 e1 q1 => ?_
  refine ⟨_, _, _, e1.all k1, k1.tb, q1, fun d v H2 p A r => fin v H2 (.v d .n) ρ1 (k1.all A) (s1.trans A.step) n1 ?_ p, fun x C H2 hx A hC => lx x σ H2 ρ1 C (k1.all A) (s1.s.trans A.step.s) hx hC⟩
  exact r.mono Keep.refl fun a _ g => fresh_gf k.dom s1.dom (fun _ m => k1.mdom m) k1.av g
end DL

namespace DL
open PySem L2 NdefX LamX PySem.Spec PyProof.Rows
variable [Tabs]
/-! ### a def with defs in it that may let an own exception out -/
theorem dfnFX {P : Program} {w : World} {K : PySem.W.Frag} {mg : Str → Option Value} {base : Heap} {x qual : Str} {st : Stmt} {f : Addr} {N ps : List Str} {k : Nat} {sp : SpX} {oc kV doc pm cdv ct : Value} {od an : Option Addr} {osl : Array (Option Value)} {ι : Type} {t : ι → TSX} (mk : Cx → ι)
    (lk : K.lookup f = some ⟨oc, od, .func (PySem.W.fnOf x qual (defArgs st) (defBody st) (defScope st) .none kV doc pm an cdv ct), osl⟩) (hcd : PySem.W.codeIn K cdv qual = true) (S : FnScope N ps (defScope st)) (hN : ps.length ≤ N.length) (len : ∀ ds Q R, sp ds Q R → ds.length = ps.length)
    (hbody : ∀ (A : Around) (outer : List Env) (s : Shared) (H : Hp) (E : XK), Room k (A.deeper (PyProof.Rows.envOfC qual (defScope st) s.heap.objs.size f cdv)) → ∀ i, i = mk (cxOf (L2.CX P w) P w K mg base N qual (defScope st) f cdv A outer s H E) → DSsx (cxOf (L2.CX P w) P w K mg base N qual (defScope st) f cdv A outer s H E) (fun cls d _ H => E cls d H) (defBody st) (t i))
    (hrd : ∀ i ds Q R, sp ds Q R → t i (fun x _ => R x) ⟨fun _ => Q .non, fun d _ => Q d, fun _ => False, fun _ => False⟩ (ini N.length ds)) : FnOk P w K mg base (L2.CX P w) (k + 1) f (PySem.W.fnOf x qual (defArgs st) (defBody st) (defScope st) .none kV doc pm an cdv ct) ps (spX K mg sp) := by
  refine fn_of lk hcd S (fun vs H Q E ⟨ds, Pd, R', r, _, h, _⟩ => by rw [← r.len]; exact len ds Pd R' h) fun A outer s H vs Q E hr ⟨ds, Pd, R', r, tb, h, fin, finx⟩ => ?_
  obtain ⟨ts, hp, ev⟩ := hbody A outer s H E hr _ rfl
  have hvl : vs.length = ps.length := by rw [← r.len]; exact len ds Pd R' h
  refine ⟨ts, hp, ev (fun x _ => R' x) ⟨H, [], []⟩ _ _ _ _ _ (ok_ini (by omega) tb r) (hrd _ ds Pd R' h) ⟨fun σ' H' ρ' k s q => ?_, fun v H' σ' ρ' d k r q => ?_, fun _ _ _ _ _ q => q, fun _ _ _ _ _ q => q⟩ fun x σ' H' ρ' C k s q e => ?_⟩
  · exact fin .non .non H' q (k.base0 rfl) R.n
  · exact fin d v H' q (k.base0 rfl) r
  · exact finx x C H' q (k.base0 rfl) e
/-- where nothing is raised -/
def calmSp (sp : SpX) : SpD := fun ds P => sp ds P (fun _ => False)
theorem CalX.cal {P : Program} {w : World} {K : PySem.W.Frag} {mg : Str → Option Value} {base : Heap} {x : Str} {k : Nat} {sp : SpX} (C : CalX P w K mg base x k (spX K mg sp)) : Cal P w K mg base x k (spP K (calmSp sp)) := by
  obtain ⟨f, fd, ps, F, hm, hk, hb⟩ := C.ex
  have up : ∀ {vs : List V} {H : Hp} {Q : VK} {E : XK}, spP K (calmSp sp) vs H Q E → spX K mg sp vs H Q (fun _ _ _ => False) := fun ⟨ds, Pd, r, tb, h, fin⟩ => ⟨ds, Pd, _, r, tb, h, fin, fun x C H' z => z.elim⟩
  refine ⟨f, fd, ps, ⟨fun vs H Q E q => F.len vs H Q _ (up q), fun A outer s H args us vs Q E hr he hb hv hs => ?_⟩, hm, hk, hb⟩
  refine PySem.codeAny_mono (F.run A outer s H args us vs Q (fun _ _ _ => False) hr he hb hv (up hs)) fun r s' q => ?_
  cases r with
  | ok f => cases f <;> exact q
  | error e =>
    obtain ⟨a, B, H', cls, d, _, _, _, _, _, _, _, z⟩ := q
    exact z.elim
/-! ### the own exceptions: em x y, whether x is under y -/
abbrev Em := Str → Str → Option Bool
def Nam (mg : Str → Option Value) (y : Str) (D : Value) : Prop := (∃ a, D = .ref a ∧ mg y = some D) ∨ (∃ T, D = .type T ∧ mg y = none ∧ bootBuiltins y = some D ∧ y ≠ "__name__")
structure ErrOk (K : PySem.W.Frag) (mg : Str → Option Value) (em : Em) : Prop where
  c : ∀ x y b, em x y = some b → ∃ C D, mg x = some (.ref C) ∧ ExcC K C ∧ Nam mg y D ∧ PySem.W.exmOne K (.ref C) D = some b ∧ PySem.W.kitOne K (.ref C) D = some b
theorem Nam.one {mg : Str → Option Value} {y : Str} {D D' : Value} (h : Nam mg y D) (h' : Nam mg y D') : D = D' := by
  rcases h with ⟨a, rfl, h⟩ | ⟨T, rfl, h, h2, _⟩ <;> rcases h' with ⟨a', rfl, h'⟩ | ⟨T', rfl, h', h2', _⟩
  · rw [h] at h'; exact Option.some.inj h'
  · rw [h] at h'; cases h'
  · rw [h] at h'; cases h'
  · rw [h2] at h2'; exact Option.some.inj h2'
/-! ### try -/
section
variable {K : PySem.W.Frag} {ι : Type} {X : ι → Cx} {st : List Stmt}
theorem DSs.alls {t : TSD} (h : ∀ i, ∃ ts, PSs (X i) st ts ∧ EvS K ts t) : ∃ ts, (∀ i, PSs (X i) st ts) ∧ EvS K ts t :=
  ⟨fun D σ H => ∀ i, Classical.choose (h i) D σ H, fun i => ⟨fun pins s σ H D I q => (Classical.choose_spec (h i)).1.run pins s σ H D I (q i)⟩, fun B σ H ρ E D' k q l i => (Classical.choose_spec (h i)).2 B σ H ρ E D' k q l⟩
theorem DSsx.alls {cn : Str → Option Value} {W : WX} {t : TSX} (h : ∀ i, ∃ ts, PSs (X i) st ts ∧ EvSx K cn W ts t) : ∃ ts, (∀ i, PSs (X i) st ts) ∧ EvSx K cn W ts t :=
  ⟨fun D σ H => ∀ i, Classical.choose (h i) D σ H, fun i => ⟨fun pins s σ H D I q => (Classical.choose_spec (h i)).1.run pins s σ H D I (q i)⟩, fun rx B σ H ρ E D' k q l lx i => (Classical.choose_spec (h i)).2 rx B σ H ρ E D' k q l lx⟩
end
def catchD (em : Em) (rx : RX) (E : ED) : List (Str × TSD) → RX
  | [] => rx
  | (y, su) :: r => fun x ρ => ∃ b, em x y = some b ∧ (b = true → su E ρ) ∧ (b = false → catchD em rx E r x ρ)
def dTry (em : Em) (tb : TSX) (hs : List (Str × TSD)) : TSX := fun rx E ρ => tb (catchD em rx E hs) E ρ
inductive DHs (X : Cx) : List ExceptHandler → List (Str × TSD) → Prop
  | nil : DHs X [] []
  | cons {y : Str} {D : Value} {b₀ : Stmt} {suite : List Stmt} {np pos' : Pos} {hds : List ExceptHandler} {l : List (Str × TSD)} {su : TSD} (hn : Nam X.mg y D)
      (h : ∀ (a : Addr) (oe : Obj) (pn : List (Addr × Obj)), DSs (X.suite a ((a, oe) :: pn)) (b₀ :: suite) su) (r : DHs X hds l) (hg : Gl X y := by rfl) (hd : (y == ("__debug__" : Str)) = false := by decide) :
      DHs X (.ExceptHandler (some (.Name y np)) none (b₀ :: suite) pos' :: hds) ((y, su) :: l)
theorem Nam.names {X : Cx} {y : Str} {D : Value} (h : Nam X.mg y D) (hg : Gl X y) (hd : (y == ("__debug__" : Str)) = false) : Names X y D := ⟨hg, hd, by
  rcases h with ⟨a, rfl, h⟩ | ⟨T, rfl, h⟩
  · exact .inl h
  · exact .inr h⟩
theorem dhs_ok {X : Cx} {em : Em} (EK : ErrOk X.K X.mg em) {hds : List ExceptHandler} {l : List (Str × TSD)} (h : DHs X hds l) : ∃ l', HdsOk X hds l' ∧ ∀ (W : WX) (rx : RX) (B : Bx) (σ : L2.St) (H : Hp) (ρ : En) (E : ED) (D' : Ends) (x : Str) (C : Value), Ok X.K B H σ ρ → Lk X.K B σ H ρ E D' → XL X.K X.mg W rx B σ H ρ → catchD em rx E l x ρ → X.mg x = some C → wMany X.K W D' l' C none σ H := by
  induction h with
  | nil => exact ⟨[], .nil, fun W rx B σ H ρ E D' x C k l lx q e => lx x σ H ρ C k SStp.refl q e⟩
  | @cons y D b₀ suite np pos' hds l su hn hsu r hg hd ih =>
    obtain ⟨l', hl, w⟩ := ih
    obtain ⟨ts, hp, ev⟩ := DSs.alls (ι := Addr × Obj × List (Addr × Obj)) (X := fun i => X.suite i.1 ((i.1, i.2.1) :: i.2.2)) (K := X.K) (fun i => hsu i.1 i.2.1 i.2.2)
    refine ⟨(D, fun _ _ _ => ts) :: l', .cons (hn.names hg hd) (fun a oe cls d pn _ _ => hp (a, oe, pn)) hl, fun W rx B σ H ρ E D' x C k l lx q e => ?_⟩
    obtain ⟨b, hb, q1, q2⟩ := q
    obtain ⟨C', D2, hC, _, hn2, hex, _⟩ := EK.c x y b hb
    rw [hC] at e
    cases e
    cases hn.one hn2
    exact ⟨b, hex, fun z a _ => ev B σ H ρ E D' k (q1 z) l, fun z => w W rx B σ H ρ E D' x _ k l lx (q2 z) hC⟩
section
variable {X : Cx} {W : WX} {body : List Stmt} {h₀ : ExceptHandler} {hds : List ExceptHandler} {pos : Pos} {tb : TSX} {l : List (Str × TSD)} {em : Em}
structure TrI (X : Cx) (W : WX) where
  pn : List (Addr × Obj)
  xe : Value → Shared → Prop
  tk : Takes (X.tr pn xe) W
  po : PassesOwn (model X.prog X.w) X.A X.env xe
theorem tr_alls (hb : ∀ (W' : WX) (pn : List (Addr × Obj)) (xe : Value → Shared → Prop), Takes (X.tr pn xe) W' → PassesOwn (model X.prog X.w) X.A X.env xe → DSsx (X.tr pn xe) W' body tb) :
    ∃ tw : WX → TS, (∀ (W' : WX) (pn : List (Addr × Obj)) (xe : Value → Shared → Prop), Takes (X.tr pn xe) W' → PassesOwn (model X.prog X.w) X.A X.env xe → PSs (X.tr pn xe) body (tw W')) ∧ ∀ W', EvSx X.K X.mg W' (tw W') tb := by
  have go : ∀ W', ∃ ts, (∀ i : TrI X W', PSs (X.tr i.pn i.xe) body ts) ∧ EvSx X.K X.mg W' ts tb := fun W' => DSsx.alls (ι := TrI X W') (X := fun i => X.tr i.pn i.xe) (K := X.K) fun i => hb W' i.pn i.xe i.tk i.po
  exact ⟨fun W' => Classical.choose (go W'), fun W' pn xe tk po => (Classical.choose_spec (go W')).1 ⟨pn, xe, tk, po⟩, fun W' => (Classical.choose_spec (go W')).2⟩
theorem dsx_try (EK : ErrOk X.K X.mg em) (hs : X.stack = X.env :: X.outer) (hf : X.env.frame = some X.env.locals) (tk : Takes X W)
    (hb : ∀ (W' : WX) (pn : List (Addr × Obj)) (xe : Value → Shared → Prop), Takes (X.tr pn xe) W' → PassesOwn (model X.prog X.w) X.A X.env xe → DSsx (X.tr pn xe) W' body tb) (hh : DHs X (h₀ :: hds) l) : DSx X W (.Try body (h₀ :: hds) [] [] pos) (dTry em tb l) := by
  obtain ⟨l', hl, w⟩ := dhs_ok EK hh
  obtain ⟨tw, hp, ev⟩ := tr_alls hb
  refine ⟨_, ps_try_many (tb := tw) hs hf tk hp hl, fun rx B σ H ρ E D' k q l lx => ?_⟩
  exact ev _ _ B σ H ρ E D' k q l fun x σ' H' ρ' C k' s' q' e => w W rx B σ' H' ρ' E D' x C k' (l.go s') (lx.go s') q' e
/-- .. as n -/
def dTryAs (em : Em) (tb : TSX) (i : Nat) (y : Str) (su : Addr → Str → TSD) : TSX := fun rx E ρ => tb (fun x ρ1 => ∃ b, em x y = some b ∧ (b = true → i < ρ1.length ∧ ∀ a, su a x ⟨fun ρ' => E.nx (ρ'.set i .no), E.rt, fun ρ' => E.bk (ρ'.set i .no), fun ρ' => E.ct (ρ'.set i .no)⟩ (ρ1.set i (.val (.obj fun v => v = .ref a) .n))) ∧ (b = false → rx x ρ1)) E ρ
theorem forget_ok {K : PySem.W.Frag} {B : Bx} {H : Hp} {σ : L2.St} {ρ : En} (k : Ok K B H σ ρ) (i : Nat) : Ok K B H (σ.set i none) (ρ.set i .no) ∧ SStp σ H ρ (σ.set i none) H (ρ.set i .no) := by
  obtain ⟨h1, h2⟩ := k.wipe [i]
  exact ⟨h1, ⟨Keep.refl, fun _ h => h, fun a h => .inl (h2 a h)⟩⟩
theorem dsx_tryAs {n y : Str} {D : Value} {i : Nat} {b₀ : Stmt} {suite : List Stmt} {np pos' : Pos} {su : Addr → Str → TSD} (EK : ErrOk X.K X.mg em) (hs : X.stack = X.env :: X.outer) (hf : X.env.frame = some X.env.locals) (tk : Takes X W) (hN : X.N.Nodup) (hn : Nam X.mg y D)
    (hb : ∀ (W' : WX) (pn : List (Addr × Obj)) (xe : Value → Shared → Prop), Takes (X.tr pn xe) W' → PassesOwn (model X.prog X.w) X.A X.env xe → DSsx (X.tr pn xe) W' body tb)
    (hsu : ∀ (a : Addr) (oe : Obj) (pn : List (Addr × Obj)) (x : Str) (C : Addr), Zc (.ref C) none oe → (∃ vs, oe.data = .fields vs) → X.mg x = some (.ref C) → DSs (X.suite a ((a, oe) :: pn)) (b₀ :: suite) (su a x))
    (hi : X.N[i]? = some n := by rfl) (hln : X.env.kindOf n = some .local := by rfl) (hg : Gl X y := by rfl) (hd : (y == ("__debug__" : Str)) = false := by decide) : DSx X W (.Try body [.ExceptHandler (some (.Name y np)) (some n) (b₀ :: suite) pos'] [] [] pos) (dTryAs em tb i y su) := by
  obtain ⟨tw, hp, ev⟩ := tr_alls hb
  have go : ∀ (a : Addr) (x : Str) (C : Addr), X.mg x = some (.ref C) → ∃ ts, (∀ j : {j : Obj × List (Addr × Obj) // Zc (.ref C) none j.1 ∧ ∃ vs, j.1.data = .fields vs}, PSs (X.suite a ((a, j.1.1) :: j.1.2)) (b₀ :: suite) ts) ∧ EvS X.K ts (su a x) := fun a x C hx =>
    DSs.alls (X := fun j : {j : Obj × List (Addr × Obj) // Zc (.ref C) none j.1 ∧ ∃ vs, j.1.data = .fields vs} => X.suite a ((a, j.1.1) :: j.1.2)) (K := X.K) fun j => hsu a j.1.1 j.1.2 x C j.2.1 j.2.2 hx
  refine ⟨_, ps_try_as (tb := tw) (ts := fun a cls d D σ H => ∃ (x : Str) (C : Addr) (hx : X.mg x = some (.ref C)), cls = .ref C ∧ d = none ∧ Classical.choose (go a x C hx) D σ H) hs hf hN hi hln (hn.names hg hd) tk hp (fun a oe cls d pn hz hv => ⟨fun pins s σ H D I ⟨x, C, hx, e1, e2, q⟩ => ?_⟩), fun rx B σ H ρ E D' k q l lx => ?_⟩
  · subst e1 e2
    exact ((Classical.choose_spec (go a x C hx)).1 ⟨(oe, pn), hz, hv⟩).run pins s σ H D I q
  · refine ev _ _ B σ H ρ E D' k q l fun x σ' H' ρ' Cv k' s' q' e => ?_
    obtain ⟨b, hb, q1, q2⟩ := q'
    obtain ⟨C, D2, hC, _, hn2, hex, _⟩ := EK.c x y b hb
    rw [hC] at e
    cases e
    cases hn.one hn2
    refine ⟨b, hex, fun z a ha => ⟨x, C, hC, rfl, rfl, ?_⟩, fun z => lx x σ' H' ρ' _ k' s' (q2 z) hC⟩
    obtain ⟨hil, q1⟩ := q1 z
    obtain ⟨k2, s2⟩ := k'.asg (i := i) (d := .obj fun v => v = .ref a) (f := .n) (x := .ref a) (Hs := H') hil (by unfold R; exact ⟨⟨a, rfl⟩, rfl⟩)
    have l2 := l.go (s'.trans s2)
    refine (Classical.choose_spec (go a x C hC)).2 B _ H' _ _ _ k2 (q1 a) ⟨fun σ3 H3 ρ3 k3 s3 q3 => ?_, l2.rt, fun σ3 H3 ρ3 k3 s3 q3 => ?_, fun σ3 H3 ρ3 k3 s3 q3 => ?_⟩
    · obtain ⟨k4, s4⟩ := forget_ok k3 i
      exact l2.nx _ _ _ k4 (s3.trans s4) q3
    · obtain ⟨k4, s4⟩ := forget_ok k3 i
      exact l2.bk _ _ _ k4 (s3.trans s4) q3
    · obtain ⟨k4, s4⟩ := forget_ok k3 i
      exact l2.ct _ _ _ k4 (s3.trans s4) q3
end
/-! ### back to what lets nothing out -/
theorem ds_ofx {X : Cx} {st : Stmt} {t : TSX} (h : DSx X (fun _ _ _ _ => False) st t) : DS X st (t fun _ _ => False) := let ⟨ts, p, ev⟩ := h; ⟨ts, p, fun B σ H ρ E D' k q l => ev _ B σ H ρ E D' k q l fun _ _ _ _ _ _ _ z _ => z⟩
theorem dss_ofx {X : Cx} {st : List Stmt} {t : TSX} (h : DSsx X (fun _ _ _ _ => False) st t) : DSs X st (t fun _ _ => False) := let ⟨ts, p, ev⟩ := h; ⟨ts, p, fun B σ H ρ E D' k q l => ev _ B σ H ρ E D' k q l fun _ _ _ _ _ _ _ z _ => z⟩
/-! ### isinstance of what was caught -/
def dIsE (em : Em) (a : Addr) (i : Nat) (x y : Str) : TD := fun ρ Q => (∃ f, ρ.getD i .no = .val (.obj fun v => v = .ref a) f) ∧ ∃ b, em x y = some b ∧ Q (.v (.bl b) .n) ρ
theorem de_isE {X : Cx} {a C : Addr} {oe : Obj} {pn : List (Addr × Obj)} {em : Em} {x y n : Str} {D : Value} {i : Nat} {p p1 p2 pos : Pos} (EK : ErrOk X.K X.mg em) (hz : Zc (.ref C) none oe) (hf : ∃ vs, oe.data = .fields vs) (hx : X.mg x = some (.ref C)) (hy : Nam X.mg y D) (hm : X.mg "isinstance" = none)
    (hN : X.N[i]? = some n := by rfl) (hv : Vis X.env.scope n := by first | exact Or.inl rfl | exact Or.inr (Or.inl rfl) | exact Or.inr (Or.inr rfl)) (hdn : (n == ("__debug__" : Str)) = false := by decide) (hcd : (n == ("__classdict__" : Str)) = false := by decide) (hg : Gl X "isinstance" := by rfl) (hgy : Gl X y := by rfl) (hdy : (y == ("__debug__" : Str)) = false := by decide)
    (h1 : starEach [.Name n p1, .Name y p2] X.env = (false, eval (.Name n p1) X.env) :: starEach [.Name y p2] X.env := by rfl) (h2 : starEach [.Name y p2] X.env = (false, eval (.Name y p2) X.env) :: starEach [] X.env := by rfl) (hpl : (backTo pos (starEach [.Name y p2] X.env)).any (·.1) = false := by rfl) :
    DE (X.suite a ((a, oe) :: pn)) (.Call (.Name "isinstance" p) [.Name n p1, .Name y p2] [] pos) (dIsE em a i x y) := by
  obtain ⟨V0, rv, un, pc⟩ : ∃ v : V, RelV v D ∧ (∀ u, RelV v u → u = D) ∧ PE (X.suite a ((a, oe) :: pn)) (.Name y p2) (tC v) := by
    rcases hy with ⟨b, rfl, h⟩ | ⟨T, rfl, h, h2, h3⟩
    · exact ⟨.ref b, rfl, fun u r => by cases r; rfl, pe_glob hgy h rfl hdy⟩
    · exact ⟨.ty T, rfl, fun u r => by cases r; rfl, pe_bltn hgy h h2 rfl h3 hdy⟩
  by_cases hem : ∃ b, em x y = some b
  · obtain ⟨b, hb⟩ := hem
    obtain ⟨C', D2, hC, ec, hn2, _, hk⟩ := EK.c x y b hb
    rw [hx] at hC
    cases hC
    cases hy.one hn2
    refine ⟨_, pe_callB (call_isE ec hz hf) hg hm (by decide +kernel) (pa_cons (pe_var hN hv hdn hcd) (pa_cons pc pa_nil h2) h1) (by decide) (by decide) h1 hpl, fun B σ H ρ Q Q' k q fin => ?_⟩
    obtain ⟨⟨f, hs⟩, b', hb', q⟩ := q
    rw [hb] at hb'
    cases hb'
    obtain ⟨v, ev, rr⟩ := k.sl i _ (getD_some hs (by simp))
    unfold R at rr
    have e := rr.2
    subst e
    exact ⟨_, ev, _, D, b, rfl, un, hk, fin (.bl b) H (.v (.bl b) .n) ρ k Stp.refl Kn.refl rel_b q⟩
  · exact ⟨fun _ _ _ => False, ⟨fun _ _ _ _ _ _ q => q.elim⟩, fun B σ H ρ Q Q' k q fin => by
      obtain ⟨_, b, hb, _⟩ := q
      exact hem ⟨b, hb⟩⟩
end DL

/-! ### list(zip(x, y)), x and y lists -/
namespace DZ
open PySem PySem.Spec PyProof.Rows
/-- the pairs laid so far -/
structure Laid (lo : Nat) (xs ys : Array Value) (h : Heap) (as : List Addr) : Prop where
  up : as.Pairwise (· < ·)
  ge : ∀ a ∈ as, lo ≤ a
  tu : ∀ (j : Nat) (a : Addr), as[j]? = some a → ∃ x y, xs[j]? = some x ∧ ys[j]? = some y ∧ IsPair h a x y
structure Zs (h : Heap) (z TI TO i1 i2 l1 l2 S : Addr) (xs ys : Array Value) (i : Nat) : Prop where
  ti : IsPair h TI (.ref i1) (.ref i2)
  a1 : h.IsListIter i1 l1 i
  a2 : h.IsListIter i2 l2 i
  b1 : h.IsList l1 xs
  b2 : h.IsList l2 ys
  zz : (IsZip h z TI TO .none ∧ ∃ a b, IsPair h TO a b) ∨ ∃ T f oT, IsZipHeld h z TI TO T f ∧ h.get? T = some oT ∧ T ≠ z ∧ T ≠ i1 ∧ T ≠ i2 ∧ T ≠ S
theorem Zs.keep {h h' : Heap} {z TI TO i1 i2 l1 l2 S : Addr} {xs ys : Array Value} {i : Nat} (x : Zs h z TI TO i1 i2 l1 l2 S xs ys i) (nS : ∀ b ∈ [z, TI, TO, i1, i2, l1, l2], b ≠ S) (k : ∀ b o, b ≠ S → h.get? b = some o → h'.get? b = some o) : Zs h' z TI TO i1 i2 l1 l2 S xs ys i := by
  refine ⟨k _ _ (nS TI (by simp)) x.ti, x.a1.at fun o e => k _ o (nS i1 (by simp)) e, x.a2.at fun o e => k _ o (nS i2 (by simp)) e, x.b1.at fun o e => k _ o (nS l1 (by simp)) e, x.b2.at fun o e => k _ o (nS l2 (by simp)) e, ?_⟩
  rcases x.zz with ⟨q, a, b, r⟩ | ⟨T, f, oT, q, t, n1, n2, n3, n4⟩
  · exact .inl ⟨k _ _ (nS z (by simp)) q, a, b, k _ _ (nS TO (by simp)) r⟩
  · exact .inr ⟨T, f, oT, k _ _ (nS z (by simp)) q, k _ _ n4 t, n1, n2, n3, n4⟩
abbrev lsO (acc : Array Value) (c : Nat) : Obj := { cls := .type "list", dict := none, data := .seq acc c, slots := #[] }
section
variable {prog : Program} {w : World} {A : Around} {E : Value → Shared → Prop} {s : Shared} {z TI TO i1 i2 l1 l2 S : Addr} {xs ys : Array Value} {i : Nat}
/-- one more pair, a new one -/
theorem step_zip (D : ZipApart z TI TO i1 i2 l1 l2) (st : Zs s.heap z TI TO i1 i2 l1 l2 S xs ys i) (hS : S < s.heap.objs.size) (hx : i < xs.size) (hy : i < ys.size) {Q : Option Value → Shared → Prop}
    (fin : ∀ h', Zs h' z TI TO i1 i2 l1 l2 S xs ys (i + 1) → IsPair h' s.heap.objs.size xs[i] ys[i] → h'.objs.size = s.heap.objs.size + 1 → (∀ b o, b ∉ [z, TO, i1, i2] → s.heap.get? b = some o → h'.get? b = some o) → Q (some (.ref s.heap.objs.size)) { s with heap := h' }) :
    wpAny (model prog w) A (pyNext (.ref z)) Q E s := by
  obtain ⟨ti, a1, a2, b1, b2, zz⟩ := st
  have fr : ∀ {c : Addr} {o : Obj}, s.heap.get? c = some o → s.heap.objs.size ≠ c := fun e => Nat.ne_of_gt (Heap.lt_size e)
  have f1 : s.heap.objs.size ≠ i1 := by obtain ⟨o, e, _⟩ := a1; exact fr e
  have f2 : s.heap.objs.size ≠ i2 := by obtain ⟨o, e, _⟩ := a2; exact fr e
  rcases zz with ⟨q, a, b, r⟩ | ⟨T, f, oT, q, t, n1, n2, n3, n4⟩
  · refine wpAny_pyNext_zip_item D q ti r a1 a2 b1 b2 (Array.getElem?_eq_getElem hx) (Array.getElem?_eq_getElem hy) fun h' c1 c2 c3 c4 c5 c6 k => ?_
    refine fin h' ⟨k _ _ D.TIz D.TITO D.TIi1 D.TIi2 ti, c3, c4, b1.at fun o e => k _ o D.l1z D.l1TO D.l1i1 D.l1i2 e, b2.at fun o e => k _ o D.l2z D.l2TO D.l2i1 D.l2i2 e, .inr ⟨_, false, _, c1, c5, fr q, f1, f2, Nat.ne_of_gt hS⟩⟩ c5 c6 fun c o n e => ?_
    exact k c o (fun w => n (by simp [w])) (fun w => n (by simp [w])) (fun w => n (by simp [w])) (fun w => n (by simp [w])) e
  · refine wpAny_pyNext_zip_item_held D q t ti a1 a2 b1 b2 (Array.getElem?_eq_getElem hx) (Array.getElem?_eq_getElem hy) fun h' c1 c3 c4 c5 c6 k => ?_
    refine fin h' ⟨k _ _ D.TIz D.TIi1 D.TIi2 ti, c3, c4, b1.at fun o e => k _ o D.l1z D.l1i1 D.l1i2 e, b2.at fun o e => k _ o D.l2z D.l2i1 D.l2i2 e, .inr ⟨T, true, oT, c1, k _ _ n1 n2 n3 t, n1, n2, n3, n4⟩⟩ c5 c6 fun c o n e => ?_
    exact k c o (fun w => n (by simp [w])) (fun w => n (by simp [w])) (fun w => n (by simp [w])) e
theorem stop_zip (hn : A.handled = none) (D : ZipApart z TI TO i1 i2 l1 l2) (st : Zs s.heap z TI TO i1 i2 l1 l2 S xs ys i) (out : xs.size ≤ i ∨ ys.size ≤ i) {Q : Option Value → Shared → Prop}
    (fin : ∀ h', (∀ b o, b ∉ [z, TO, i1, i2] → s.heap.get? b = some o → h'.get? b = some o) → Q none { s with heap := h' }) : wpAny (model prog w) A (pyNext (.ref z)) Q E s := by
  obtain ⟨ti, a1, a2, b1, b2, zz⟩ := st
  have oo : xs[i]? = none ∨ ys[i]? = none := out.imp (fun q => Array.getElem?_eq_none q) (fun q => Array.getElem?_eq_none q)
  rcases zz with ⟨q, a, b, r⟩ | ⟨T, f, oT, q, t, n1, n2, n3, n4⟩
  · exact wpAny_pyNext_zip_end hn D q ti r a1 a2 b1 b2 oo fun h' k => fin h' fun c o n e => k c o (fun w => n (by simp [w])) (fun w => n (by simp [w])) (fun w => n (by simp [w])) (fun w => n (by simp [w])) e
  · exact wpAny_pyNext_zip_end_held hn D q t ti a1 a2 b1 b2 oo fun h' k => fin h' fun c o n e => k c o (fun w => n (by simp [w])) (fun w => n (by simp [w])) (fun w => n (by simp [w])) e
end
section
variable {prog : Program} {w : World} {A : Around} {s : Shared} {R : Result → Shared → Prop} {z TI TO i1 i2 l1 l2 S : Addr} {xs ys : Array Value} {res : Value} {h0 : Heap} {tk : Nat}
theorem loop_zip (hn : A.handled = none) (D : ZipApart z TI TO i1 i2 l1 l2) (nS : ∀ b ∈ [z, TI, TO, i1, i2, l1, l2], b ≠ S) (lo : ∀ b ∈ [S, z, TO, i1, i2], b < h0.objs.size) (hz : min xs.size ys.size ≤ sizeLine)
    (fin : ∀ h' acc c as, (∀ b o, b ∉ [S, z, TO, i1, i2] → h0.get? b = some o → h'.get? b = some o) → h'.get? S = some (lsO acc c) → as.length = min xs.size ys.size → Laid h0.objs.size xs ys h' as → acc.toList = as.map Value.ref → R (.ok (.ret res)) { s with heap := h', toks := tk }) :
    ∀ (m i : Nat) (h : Heap) (acc : Array Value) (c : Nat) (as : List Addr), min xs.size ys.size - i = m → i ≤ min xs.size ys.size → Zs h z TI TO i1 i2 l1 l2 S xs ys i → (∀ b o, b ∉ [S, z, TO, i1, i2] → h0.get? b = some o → h.get? b = some o) →
      h.get? S = some (lsO acc c) → acc.toList = as.map Value.ref → as.length = i → Laid h0.objs.size xs ys h as → h0.objs.size ≤ h.objs.size →
      codeAny (model prog w) A (.builtin "list.extend.loop" ⟨[.ref S, .ref z, res], []⟩) R { s with heap := h, toks := tk } := by
  have off : ∀ {a : Addr}, h0.objs.size ≤ a → a ∉ [S, z, TO, i1, i2] := fun {a} q m => Nat.lt_irrefl _ (Nat.lt_of_lt_of_le (lo a m) q)
  have sub : ∀ {b : Addr}, b ∉ [S, z, TO, i1, i2] → b ∉ [z, TO, i1, i2] := fun n m => n (List.mem_cons_of_mem _ m)
  have nS4 : S ∉ [z, TO, i1, i2] := fun m => by
    simp at m
    rcases m with e | e | e | e
    · exact nS z (by simp) e.symm
    · exact nS TO (by simp) e.symm
    · exact nS i1 (by simp) e.symm
    · exact nS i2 (by simp) e.symm
  intro m
  induction m with
  | zero =>
    intro i h acc c as hm hi st k gS ea la L lh
    refine codeAny_builtin PySem.F.entry_extend_loop ?_
    rw [Around.under_plainId PySem.F.plain_extend_loop _]
    show wpAny _ A.in1 (pyNext (.ref z) >>= _) _ _ _
    refine wpAny_bind (stop_zip (s := { s with heap := h, toks := tk }) (A := A.in1) hn D st (by omega) fun h' k' => ?_)
    refine wpAny_pure (fin h' acc c as (fun b o n e => k' b o (sub n) (k b o n e)) (k' S _ nS4 gS) (by omega) ⟨L.up, L.ge, fun j a hj => ?_⟩ ea)
    obtain ⟨x, y, e1, e2, e3⟩ := L.tu j a hj
    exact ⟨x, y, e1, e2, k' a _ (sub (off (L.ge a (List.mem_of_getElem? hj)))) e3⟩
  | succ m ih =>
    intro i h acc c as hm hi st k gS ea la L lh
    have hx : i < xs.size := by omega
    have hy : i < ys.size := by omega
    have sz : acc.size = i := by rw [← Array.length_toList, ea, List.length_map, la]
    have lS : S < h.objs.size := Heap.lt_size gS
    refine codeAny_builtin PySem.F.entry_extend_loop ?_
    rw [Around.under_plainId PySem.F.plain_extend_loop _]
    show wpAny _ A.in1 (pyNext (.ref z) >>= _) _ _ _
    refine wpAny_bind (step_zip (s := { s with heap := h, toks := tk }) D st lS hx hy fun h' st' gT hs k' => ?_)
    dsimp only at gT hs k' ⊢
    have gS' := k' S _ nS4 gS
    have kS : ∀ b o, b ≠ S → h'.get? b = some o → (h'.update S (Obj.mapSeq (·.push (Value.ref h.objs.size)))).get? b = some o := fun b o n e => (Heap.get?_update_other _ _ (Ne.symm n)).trans e
    show wpAny _ A.in1 (updateSeq S (·.push (Value.ref h.objs.size)) >>= _) _ _ _
    refine wpAny_bind ?_
    have nT : h.objs.size ≠ S := Nat.ne_of_gt lS
    have gT2 := kS _ _ nT gT
    refine wpAny_updateSeq gS' rfl (wpAny_pure ⟨plainId_quiet PySem.F.plain_extend_loop _, ?_⟩) (by rw [sz]; omega) (by show (acc.push (Value.ref h.objs.size)).size ≤ sizeLine + 1; rw [Array.size_push, sz]; omega)
    refine ih (i + 1) _ (acc.push (Value.ref h.objs.size)) _ (as ++ [h.objs.size]) (by omega) (by omega) (st'.keep nS kS) (fun b o n e => kS b o (fun w => n (by simp [w])) (k' b o (sub n) (k b o n e))) (Heap.get?_update_self _ gS' rfl) (by rw [Array.toList_push, ea, List.map_append]; rfl) (by rw [List.length_append, la]; rfl) ⟨?_, ?_, ?_⟩ ?_
    · refine List.pairwise_append.mpr ⟨L.up, List.pairwise_singleton _ _, fun a ha b hb => ?_⟩
      obtain ⟨j, hj⟩ := List.mem_iff_getElem?.mp ha
      obtain ⟨_, _, _, _, e⟩ := L.tu j a hj
      rw [List.mem_singleton.mp hb]
      exact Heap.lt_size e
    · intro a ha
      rcases List.mem_append.mp ha with ha | ha
      · exact L.ge a ha
      · rw [List.mem_singleton.mp ha]; exact lh
    · intro j b hj
      by_cases q : j < as.length
      · rw [List.getElem?_append_left q] at hj
        obtain ⟨x, y, e1, e2, e3⟩ := L.tu j b hj
        have o := off (L.ge b (List.mem_of_getElem? hj))
        exact ⟨x, y, e1, e2, kS b _ (fun w => o (by simp [w])) (k' b _ (sub o) e3)⟩
      · rw [List.getElem?_append_right (by omega)] at hj
        have e0 : j - as.length = 0 := by
          have := (List.getElem?_eq_some_iff.mp hj).1
          simp at this
          omega
        rw [e0] at hj
        cases hj
        have : j = i := by omega
        subst this
        exact ⟨_, _, Array.getElem?_eq_getElem hx, Array.getElem?_eq_getElem hy, gT2⟩
    · exact Nat.le_of_lt (Nat.lt_of_le_of_lt lh (Heap.lt_size gT2))
end
theorem zip_nolen : typeLookup (.type "zip") "__len__" = pure none := am_miss_of_fast (by decide +kernel)
theorem zip_nohint : typeLookup (.type "zip") "__length_hint__" = pure none := am_miss_of_fast (by decide +kernel)
section
variable {prog : Program} {w : World} {A : Around} {E : Value → Shared → Prop} {s : Shared} {z TI TO i1 i2 l1 l2 S : Addr} {xs ys : Array Value}
theorem hint_zip (hT : s.TypeIs (.ref z) "zip") {Q : Bool → Shared → Prop} (q : Q true s) : wpAny (model prog w) A (Builtin.List.listLengthHint (.ref z)) Q E s := by
  unfold Builtin.List.listLengthHint
  refine wpAny_bind (wpAny_specialOf hT zip_nolen ?_)
  refine PySem.W.KFB.if_not rfl ?_
  refine PySem.W.KFB.if_not rfl ?_
  exact wpAny_bind (wpAny_specialOf hT zip_nohint (wpAny_pure q))
end
end DZ

namespace DZ
open PySem PySem.Spec PyProof.Rows
abbrev CodeQ (prog : Program) (w : World) (A : Around) (R : Result → Shared → Prop) : PySem.Fin → Shared → Prop := fun fin s' => match fin with | .done f => R (.ok f) s' | .again c' => c'.quiet = true ∧ codeAny (model prog w) A c' R s'
section
variable {prog : Program} {w : World} {A : Around} {E : Value → Shared → Prop} {s : Shared} {z TI TO i1 i2 l1 l2 S : Addr} {xs ys : Array Value}
theorem ext_zip {R : Result → Shared → Prop} (hn : A.handled = none) (D : ZipApart z TI TO i1 i2 l1 l2) (nS : ∀ b ∈ [z, TI, TO, i1, i2, l1, l2], b ≠ S) (lo : ∀ b ∈ [S, z, TO, i1, i2], b < s.heap.objs.size) (st : Zs s.heap z TI TO i1 i2 l1 l2 S xs ys 0) (gz : IsZip s.heap z TI TO .none)
    (hz : min xs.size ys.size ≤ sizeLine) (res : Value) (c0 : Nat) (gS : s.heap.get? S = some (lsO #[] c0))
    (fin : ∀ h' acc c as, (∀ b o, b ∉ [S, z, TO, i1, i2] → s.heap.get? b = some o → h'.get? b = some o) → h'.get? S = some (lsO acc c) → as.length = min xs.size ys.size → Laid s.heap.objs.size xs ys h' as → acc.toList = as.map Value.ref → R (.ok (.ret res)) { s with heap := h' }) :
    wpAny (model prog w) A.in1 (Builtin.List.listExtendWith (.ref S) (.ref z) res) (CodeQ prog w A R) (fun e s' => R (.error e) s') s := by
  have hT : s.TypeIs (.ref z) "zip" := ⟨_, gz, rfl⟩
  have ne : z ≠ S := nS z (by simp)
  unfold Builtin.List.listExtendWith
  refine wpAny_bind (wpAny_typeOf (T := "zip") hT ?_)
  have q1 : Builtin.List.listSameRef (.ref S) (.ref z) = false := by simp [Builtin.List.listSameRef, ne.symm]
  have q2 : (Value.type "zip" == Value.type "list") = false := by decide
  have q3 : (Value.type "zip" == Value.type "tuple") = false := by decide
  simp only [q1, q2, q3, Bool.or_false, Bool.false_eq_true, if_false]
  refine wpAny_bind (wpAny_pyIter_zip gz ?_)
  refine wpAny_bind (wpAny_holding (hint_zip hT ?_))
  refine wpAny_ite_split (fun _ => ?_) (fun q => absurd rfl q)
  refine wpAny_bind (wpAny_rule (wpAny_bind ?_))
  show wpAny _ _ (updateSeq S (·.push .none) >>= fun _ => updateSeq S (·.pop)) _ _ _
  have g2 := Heap.get?_update_self (Obj.mapSeq (·.push Value.none)) gS rfl
  have g3 := Heap.get?_update_self (Obj.mapSeq (·.pop)) g2 rfl
  refine wpAny_bind (wpAny_updateSeq gS rfl (wpAny_updateSeq (hz := by seq_fits) g2 rfl (wpAny_pure ⟨plainId_quiet PySem.F.plain_extend_loop _, ?_⟩)))
  have kk : ∀ b o, b ≠ S → s.heap.get? b = some o → ((s.heap.update S (Obj.mapSeq (·.push Value.none))).update S (Obj.mapSeq (·.pop))).get? b = some o := fun b o n e =>
    (Heap.get?_update_other _ _ (Ne.symm n)).trans ((Heap.get?_update_other _ _ (Ne.symm n)).trans e)
  have sz : ((s.heap.update S (Obj.mapSeq (·.push Value.none))).update S (Obj.mapSeq (·.pop))).objs.size = s.heap.objs.size := by rw [Heap.size_update, Heap.size_update]
  exact loop_zip (h0 := s.heap) (s := s) (tk := s.toks) hn D nS lo hz fin _ 0 _ #[] _ [] rfl (Nat.zero_le _) (st.keep nS kk) (fun b o n e => kk b o (fun w => n (by simp [w])) e) g3 rfl rfl
    ⟨List.Pairwise.nil, (fun _ h => nomatch h), (fun j a h => by simp at h)⟩ (by rw [sz]; exact Nat.le_refl _)
theorem init_zip {R : Result → Shared → Prop} (hn : A.handled = none) (D : ZipApart z TI TO i1 i2 l1 l2) (nS : ∀ b ∈ [z, TI, TO, i1, i2, l1, l2], b ≠ S) (lo : ∀ b ∈ [S, z, TO, i1, i2], b < s.heap.objs.size) (st : Zs s.heap z TI TO i1 i2 l1 l2 S xs ys 0) (gz : IsZip s.heap z TI TO .none)
    (hz : min xs.size ys.size ≤ sizeLine) (gS : s.heap.get? S = some { cls := .type "list", data := .seq #[] })
    (fin : ∀ h' acc c as, (∀ b o, b ∉ [S, z, TO, i1, i2] → s.heap.get? b = some o → h'.get? b = some o) → h'.get? S = some (lsO acc c) → as.length = min xs.size ys.size → Laid s.heap.objs.size xs ys h' as → acc.toList = as.map Value.ref → R (.ok (.ret .none)) { s with heap := h' }) :
    wpAny (model prog w) A.in1 (Builtin.«list.__init__» ⟨[.ref S, .ref z], []⟩) (CodeQ prog w A R) (fun e s' => R (.error e) s') s := by
  show wpAny _ _ (do let old ← Builtin.List.listItems (.ref S); Builtin.List.listUpdate (.ref S) (fun _ => #[]); letGo old.toList.reverse; Builtin.List.listExtendWith (.ref S) (.ref z) .none) _ _ s
  refine wpAny_bind (m := Builtin.List.listItems _) (wpAny_bind (wpAny_seqItems gS rfl (wpAny_pure ?_)))
  show wpAny _ _ (updateSeq S (fun _ => #[]) >>= fun _ => letGo (#[] : Array Value).toList.reverse >>= fun _ => Builtin.List.listExtendWith (.ref S) (.ref z) .none) _ _ s
  have g2 := Heap.get?_update_self (Obj.mapSeq (fun _ => (#[] : Array Value))) gS rfl
  have kk : ∀ b o, b ≠ S → s.heap.get? b = some o → (s.heap.update S (Obj.mapSeq (fun _ => (#[] : Array Value)))).get? b = some o := fun b o n e => (Heap.get?_update_other _ _ (Ne.symm n)).trans e
  have sz : (s.heap.update S (Obj.mapSeq (fun _ => (#[] : Array Value)))).objs.size = s.heap.objs.size := Heap.size_update ..
  refine wpAny_bind (wpAny_updateSeq gS rfl (wpAny_bind (wpAny_letGo ?_)))
  refine ext_zip (s := { s with heap := s.heap.update S (Obj.mapSeq (fun _ => (#[] : Array Value))) }) hn D nS (by rw [sz]; exact lo) (st.keep nS kk) (kk z _ (nS z (by simp)) gz) hz .none _ g2 fun h' acc c as k g3 hl L ea => ?_
  rw [sz] at L
  exact fin h' acc c as (fun b o n e => k b o n (kk b o (fun w => n (by simp [w])) e)) g3 hl L ea
theorem call_list_zip (hn : A.handled = none) (D : ZipApart z TI TO i1 i2 l1 l2) (lo : ∀ b ∈ [z, TI, TO, i1, i2, l1, l2], b < s.heap.objs.size) (st : ∀ S, S ≥ s.heap.objs.size → Zs s.heap z TI TO i1 i2 l1 l2 S xs ys 0) (gz : IsZip s.heap z TI TO .none) (hz : min xs.size ys.size ≤ sizeLine) {Q : Value → Shared → Prop}
    (fin : ∀ h' acc c as, (∀ b o, b ∉ [z, TO, i1, i2] → s.heap.get? b = some o → h'.get? b = some o) → h'.get? s.heap.objs.size = some (lsO acc c) → as.length = min xs.size ys.size → Laid (s.heap.objs.size + 1) xs ys h' as → acc.toList = as.map Value.ref → Q (.ref s.heap.objs.size) { s with heap := h' }) :
    wpAny (model prog w) A (call (.type "list") [.ref z]) Q E s := by
  refine callType_codes (Q₁ := fun obj s₁ => obj = .ref s.heap.objs.size ∧ s₁ = { s with heap := s.heap.push { cls := .type "list", data := .seq #[] } }) PySem.F.called_list (PySem.F.typeCall_list_1 _) PySem.F.entry_list_init (code_list_new _ ⟨rfl, rfl⟩) fun obj s₁ h₁ => ?_
  obtain ⟨rfl, rfl⟩ := h₁
  have gS : (s.heap.push { cls := .type "list", data := .seq #[] }).get? s.heap.objs.size = some { cls := .type "list", data := .seq #[] } := Heap.get?_push_size _ rfl
  have up : ∀ b o, s.heap.get? b = some o → (s.heap.push { cls := .type "list", data := .seq #[] }).get? b = some o := fun b o e => Heap.get?_push_of_some _ e
  have nS : ∀ b ∈ [z, TI, TO, i1, i2, l1, l2], b ≠ s.heap.objs.size := fun b m => Nat.ne_of_lt (lo b m)
  have st1 : Zs (s.heap.push { cls := .type "list", data := .seq #[] }) z TI TO i1 i2 l1 l2 s.heap.objs.size xs ys 0 := (st _ (Nat.le_refl _)).keep nS fun b o _ e => up b o e
  have sz : (s.heap.push { cls := .type "list", data := .seq #[] }).objs.size = s.heap.objs.size + 1 := Heap.size_push ..
  refine ⟨⟨_, gS, rfl⟩, PySem.F.args_list_init_2 _ _, init_zip (A := A.in1) (s := { s with heap := s.heap.push { cls := .type "list", data := .seq #[] } }) hn D nS ?_ st1 (up _ _ gz) hz gS fun h' acc c as k g2 hl L ea => ?_⟩
  · intro b m
    show b < (s.heap.push { cls := .type "list", data := .seq #[] }).objs.size
    rw [sz]
    simp only [List.mem_cons, List.not_mem_nil, or_false] at m
    rcases m with rfl | rfl | rfl | rfl | rfl
    · exact Nat.lt_succ_self _
    · exact Nat.lt_succ_of_lt (lo _ (by simp))
    · exact Nat.lt_succ_of_lt (lo _ (by simp))
    · exact Nat.lt_succ_of_lt (lo _ (by simp))
    · exact Nat.lt_succ_of_lt (lo _ (by simp))
  · have L : Laid (s.heap.push { cls := .type "list", data := .seq #[] }).objs.size xs ys h' as := L
    rw [sz] at L
    exact ⟨rfl, fin h' acc c as (fun b o n e => k b o (fun w => by
      rcases List.mem_cons.mp w with w | w
      · exact absurd (w ▸ Heap.lt_size e) (Nat.lt_irrefl _)
      · exact n w) (up b o e)) g2 hl L ea⟩
end
/-! ### the tuples, tracked -/
open L2
def lay : Hp → List Addr → List (V × V) → Hp
  | H, a :: as, p :: ps => lay (upd H a (.tup [p.1, p.2])) as ps
  | H, _, _ => H
theorem lay_off {b : Addr} : ∀ (as : List Addr) (ps : List (V × V)) (H : Hp), b ∉ as → lay H as ps b = H b
  | [], _, _, _ => rfl
  | _ :: _, [], _, _ => rfl
  | a :: as, p :: ps, H, h => by
    rw [List.mem_cons, not_or] at h
    show lay (upd H a _) as ps b = H b
    rw [lay_off as ps _ h.2, upd_ne h.1]
theorem lay_at : ∀ (as : List Addr) (ps : List (V × V)) (H : Hp) (j : Nat) (a : Addr) (p : V × V), as.Nodup → as[j]? = some a → ps[j]? = some p → lay H as ps a = some (.tup [p.1, p.2])
  | [], _, _, j, a, p, _, h, _ => by simp at h
  | _ :: _, [], _, j, a, p, _, _, h => by simp at h
  | b :: as, q :: ps, H, 0, a, p, nd, h, h2 => by
    cases h; cases h2
    show lay (upd H b (.tup [q.1, q.2])) as ps b = _
    rw [lay_off as ps _ (List.nodup_cons.mp nd).1, upd_same]
  | b :: as, q :: ps, H, j + 1, a, p, nd, h, h2 => lay_at as ps (upd H b (.tup [q.1, q.2])) j a p (List.nodup_cons.mp nd).2 h h2
def tListZip (K : PySem.W.Frag) (ta : TA) : TE := fun σ H Q => ta σ H fun vs H1 => ∃ a b us ws, vs = [.ref a, .ref b] ∧ SqL K H1 a us ∧ SqL K H1 b ws ∧
  ∀ (p : Addr) (ts : List Addr), H1 p = none → (∀ t ∈ ts, H1 t = none) → p ∉ ts → ts.Nodup → ts.length = (us.zip ws).length → Q (.ref p) (lay (upd H1 p (.lst (ts.map V.ref))) ts (us.zip ws))
theorem refs_vals : ∀ as : List Addr, Vals (as.map V.ref) (as.map Value.ref)
  | [] => .nil
  | _ :: as => .cons rfl (refs_vals as)
theorem pe_listZip {X : Cx} {e e2 : Expr} {ta : TA} {p p2 pos pos2 : Pos} (hc : X.calm = true) (hg : Gl X "list") (hm : X.mg "list" = none) (hg2 : Gl X "zip") (hm2 : X.mg "zip" = none) (ha : PA X [e, e2] ta)
    (h1 : starEach [e, e2] X.env = (false, eval e X.env) :: starEach [e2] X.env := by rfl) (h2 : (backTo pos2 (starEach [e2] X.env)).any (·.1) = false := by rfl)
    (h3 : starEach [.Call (.Name "zip" p2) [e, e2] [] pos2] X.env = (false, eval (.Call (.Name "zip" p2) [e, e2] [] pos2) X.env) :: starEach [] X.env := by rfl) :
    PE X (.Call (.Name "list" p) [.Call (.Name "zip" p2) [e, e2] [] pos2] [] pos) (tListZip X.K ta) := by
  refine ⟨fun pins s σ H Q I h => ?_⟩
  refine PyProof.Rows.Call_ (ld_blt I hg hm PyProof.Rows.boot_list (PyProof.Rows.callWith_type1 (args_cons (PyProof.Rows.Call_ (ld_blt I hg2 hm2 PyProof.Rows.boot_zip (PyProof.Rows.callWith_type1 (thn (ha.run pos2 pins s σ H _ I h) fun us s1 ⟨vs, H1, I1, rr, q1⟩ => ?_) h1 h2))) h3) h3 rfl))
  obtain ⟨a, b, us', ws, rfl, hqx, hqy, q⟩ := q1
  obtain ⟨ua, ub, rfl, ra, rb⟩ : ∃ ua ub, us = [ua, ub] ∧ RelV (.ref a) ua ∧ RelV (.ref b) ub := by
    cases rr with
    | cons r t => cases t with
      | cons r' t' => cases t'; exact ⟨_, _, rfl, r, r'⟩
  cases ra
  cases rb
  obtain ⟨u1, rv1, t1, z1⟩ := I1.list hqx
  obtain ⟨u2, rv2, t2, z2⟩ := I1.list hqy
  have e1 := rv1.length
  have e2 := rv2.length
  have la : a < s1.heap.objs.size := t1.lt
  have lb : b < s1.heap.objs.size := t2.lt
  refine call_zip_2 t1.isList t2.isList fun h' hz hTI hTO j1 j2 hsz hk => args_nil ?_
  have D := PySem.W.ktu_apart s1.heap.objs.size a b la lb
  have zl : ∀ c ∈ [s1.heap.objs.size + 4, s1.heap.objs.size + 2, s1.heap.objs.size + 3, s1.heap.objs.size, s1.heap.objs.size + 1, a, b], c < h'.objs.size := fun c m => by
    rw [hsz]
    simp only [List.mem_cons, List.not_mem_nil, or_false] at m
    show c < s1.heap.objs.size + 5
    have la' : (a : Nat) < s1.heap.objs.size := la
    have lb' : (b : Nat) < s1.heap.objs.size := lb
    rcases m with rfl | rfl | rfl | rfl | rfl | rfl | rfl
    all_goals first | exact Nat.lt_trans la' (by omega) | exact Nat.lt_trans lb' (by omega) | (show (_ : Nat) < _; omega)
  refine call_list_zip (s := { s1 with heap := h' }) (xs := u1.toArray) (ys := u2.toArray) (I1.ok.hd hc) D zl (fun S hS => ⟨hTI, j1, j2, t1.isList.at fun o e => hk _ o e, t2.isList.at fun o e => hk _ o e, .inl ⟨hz, _, _, hTO⟩⟩) hz (by rw [List.size_toArray, List.size_toArray]; omega) fun h2 acc c as k g2 hl L ea => ?_
  have lo : s1.heap.objs.size ≤ h'.objs.size := by rw [hsz]; exact Nat.le_add_right _ _
  have kept : ∀ b o, s1.heap.get? b = some o → h2.get? b = some o := fun b o e => k b o (fun m => by
    have lt : (b : Nat) < s1.heap.objs.size := Heap.lt_size e
    simp only [List.mem_cons, List.not_mem_nil, or_false] at m
    rcases m with rfl | rfl | rfl | rfl
    all_goals first | exact absurd lt (Nat.not_lt.mpr (Nat.le_add_right _ _)) | exact absurd lt (Nat.lt_irrefl _)) (hk b o e)
  have ge : ∀ t ∈ as, s1.heap.objs.size ≤ t := fun t ht => Nat.le_trans lo (Nat.le_trans (Nat.le_succ _) (L.ge t ht))
  have hSn : h'.objs.size ∉ as := fun m => Nat.lt_irrefl _ (Nat.lt_of_lt_of_le (Nat.lt_succ_self _) (L.ge _ m))
  have nd : as.Nodup := List.Pairwise.imp (fun {a b} (q : a < b) => Nat.ne_of_lt q) L.up
  have newS : H1 h'.objs.size = none := I1.hok.fresh lo
  have newT : ∀ t ∈ as, H1 t = none := fun t ht => I1.hok.fresh (ge t ht)
  have hl2 : as.length = (us'.zip ws).length := by rw [hl, List.length_zip, List.size_toArray, List.size_toArray, e1, e2]
  have low : ∀ b o, H1 b = some o → b ∉ as ∧ b ≠ h'.objs.size := fun b o e => ⟨fun m => (by rw [newT b m] at e; cases e), fun m => (by rw [m, newS] at e; cases e)⟩
  have at0 : ∀ c, c ∉ as → c ≠ h'.objs.size → lay (upd H1 h'.objs.size (.lst (as.map V.ref))) as (us'.zip ws) c = H1 c := fun c n1 n2 => by rw [lay_off as _ _ n1, upd_ne n2]
  have kp : ∀ c u, H1 c = some u → lay (upd H1 h'.objs.size (.lst (as.map V.ref))) as (us'.zip ws) c = some u := fun c u e => by
    obtain ⟨n1, n2⟩ := low c u e
    rw [at0 c n1 n2]; exact e
  have atS : lay (upd H1 h'.objs.size (.lst (as.map V.ref))) as (us'.zip ws) h'.objs.size = some (.lst (as.map V.ref)) := by rw [lay_off as _ _ hSn, upd_same]
  refine ⟨.ref h'.objs.size, lay (upd H1 h'.objs.size (.lst (as.map V.ref))) as (us'.zip ws), ?_, rfl, q _ as newS newT hSn nd hl2⟩
  refine I1.call' (ch := []) rfl ⟨fun c o e _ _ _ => kept c o e, fun c o e _ _ _ => ⟨o.slots, kept c o e⟩, fun c o e n _ => ?_, fun c o e _ => ⟨o, kept c o e⟩, fun c v e => kp c _ e, fun c o u e => kp c _ e, fun c v e => ⟨#[], by rw [kp c _ e]; simp⟩⟩ (fun c u e => ?_) I1.bare fun c m => by simp at m
  · have lt : (c : Nat) < s1.heap.objs.size := Heap.lt_size e
    rw [at0 c (fun m => Nat.lt_irrefl _ (Nat.lt_of_lt_of_le lt (ge c m))) (fun m => Nat.lt_irrefl _ (Nat.lt_of_lt_of_le lt (m ▸ lo)))]
    exact n
  · by_cases m : c ∈ as
    · obtain ⟨j, hj⟩ := List.mem_iff_getElem?.mp m
      obtain ⟨x, y, f1, f2, f3⟩ := L.tu j c hj
      obtain ⟨pv, hp⟩ : ∃ pv, (us'.zip ws)[j]? = some pv := ⟨_, List.getElem?_eq_getElem (by rw [← hl2]; exact (List.getElem?_eq_some_iff.mp hj).1)⟩
      rw [lay_at as _ _ j c pv nd hj hp] at e
      cases e
      obtain ⟨p1, p2⟩ := pv
      obtain ⟨g1, g3⟩ := List.getElem?_zip_eq_some.mp hp
      obtain ⟨v1, hv1, r1⟩ := rv1.get g1
      obtain ⟨v2, hv2, r2⟩ := rv2.get g3
      have f1 : u1[j]? = some x := by simpa using f1
      have f2 : u2[j]? = some y := by simpa using f2
      rw [hv1] at f1
      rw [hv2] at f2
      cases f1
      cases f2
      exact ⟨by show 2 ≤ sizeLine; decide, [_, _], .cons r1 (.cons r2 .nil), ⟨_, f3, rfl, _, rfl⟩⟩
    · by_cases n : c = h'.objs.size
      · subst n
        rw [atS] at e
        cases e
        refine ⟨?_, acc.toList, c, by rw [ea]; exact refs_vals as, ?_⟩
        · rw [List.length_map, hl2, List.length_zip]; omega
        · rw [Array.toArray_toList]; exact g2
      · rw [at0 c m n] at e
        exact (I1.hok c u e).stay (fun d v _ y => kept d v y) (fun d y => kp d _ y) fun d v y => kp d _ y
end DZ

namespace DL
open PySem L2
variable [Tabs]
/-! ### list(zip(x, y)), lists of whole numbers and texts -/
theorem keysOf_kD : ∀ ks : List Key, keysOf (ks.map kD) = some ks
  | [] => rfl
  | k :: ks => by
    have h : keyOf (kD k) = some k := by cases k <;> rfl
    show (match keyOf (kD k), keysOf (ks.map kD) with | some a, some b => some (a :: b) | _, _ => none) = _
    rw [h, keysOf_kD ks]
theorem rs_of {K : PySem.W.Frag} {G : Addr → Prop} {H : Hp} : ∀ {ds : List D} {vs : List V}, ds.length = vs.length → (∀ (j : Nat) (d : D) (v : V), ds[j]? = some d → vs[j]? = some v → R K G H d v) → Rs K G H ds vs
  | [], [], _, _ => Rs.nil
  | [], _ :: _, h, _ => by cases h
  | _ :: _, [], h, _ => by cases h
  | d :: ds, v :: vs, h, q => Rs.cons (q 0 d v rfl rfl) (rs_of (Nat.succ.inj h) fun j e u h1 h2 => q (j + 1) e u h1 h2)
def zipK (ks ls : List Key) : List D := List.zipWith (fun x y => .tk [x, y]) ks ls
def dListZip (t : TL) : TD := fun ρ Q => t ρ fun rs ρ1 => ∃ ks ls : List Key, (rs.map fun r => (ob ρ1 r).d) = [.lst (ks.map kD), .lst (ls.map kD)] ∧ Q (.nl (zipK ks ls) .z) ρ1
theorem ev_listZip {K : PySem.W.Frag} {ta : TA} {t : TL} (h : EvL K ta t) : Ev1 K (DZ.tListZip K ta) (dListZip t) := by
  intro B σ H ρ Q Q' k q fin
  refine h B σ H ρ _ _ k q fun vs H1 rs ρ1 k1 s1 n1 e1 ⟨ks, ls, er, q1⟩ => ?_
  have ro := e1.all k1
  rw [er] at ro
  unfold Rs at ro
  obtain ⟨v1, r1, rfl, ra, ro⟩ := ro
  unfold Rs at ro
  obtain ⟨v2, r2, rfl, rb, ro⟩ := ro
  unfold Rs at ro
  subst ro
  unfold R at ra rb
  obtain ⟨a, us, rfl, ha, _, ru⟩ := ra
  obtain ⟨b, ws, rfl, hb, _, rw'⟩ := rb
  have eu := keysOf_v ru (keysOf_kD ks)
  have ew := keysOf_v rw' (keysOf_kD ls)
  subst eu ew
  refine ⟨a, b, _, _, rfl, .inl (.inl ha), .inl (.inl hb), fun p ts hp ht hn nd hl => ?_⟩
  have A0 : All H1 (upd H1 p (.lst (ts.map V.ref))) := All.new hp
  have nt : ∀ c, (upd H1 p (.lst (ts.map V.ref))) c ≠ none → c ∉ ts := fun c e m => by
    have z : c ≠ p := fun z => hn (z ▸ m)
    rw [upd_ne z, ht c m] at e
    exact e rfl
  have A1 : All (upd H1 p (.lst (ts.map V.ref))) (DZ.lay (upd H1 p (.lst (ts.map V.ref))) ts ((ks.map kV).zip (ls.map kV))) := .full fun c o e => by
    rw [DZ.lay_off _ _ _ (nt c (by rw [e]; exact Option.some_ne_none _))]; exact e
  have A : All H1 (DZ.lay (upd H1 p (.lst (ts.map V.ref))) ts ((ks.map kV).zip (ls.map kV))) := ⟨fun c o e => A1 c o (A0 c o e), fun c e => A1.dom (A0.dom e), fun t => A1.tb (A0.tb t)⟩
  have hd := s1.dom
  have pH : H p = none := none_back hd hp
  refine fin (.ref p) _ (.nl (zipK ks ls) .z) ρ1 (k1.all A) (s1.trans A.step) n1 ⟨p, ts.map V.ref, rfl, ?_, pH, fun z => k1.mdom z hp, fun z => k1.av p z hp, (k1.clear hp).all A1, ?_⟩ q1
  · rw [DZ.lay_off _ _ _ hn, upd_same]
  · refine rs_of ?_ fun j d v h1 h2 => ?_
    · rw [List.length_map, hl]
      unfold zipK
      rw [List.length_zipWith, List.length_zip, List.length_map, List.length_map]
    · rw [List.getElem?_map] at h2
      obtain ⟨c, hc, rfl⟩ := Option.map_eq_some_iff.mp h2
      unfold zipK at h1
      rw [List.getElem?_zipWith] at h1
      cases g1 : ks[j]? with
      | none => rw [g1] at h1; cases h1
      | some x =>
        cases g2 : ls[j]? with
        | none => rw [g1, g2] at h1; cases h1
        | some y =>
          rw [g1, g2] at h1
          cases h1
          unfold R
          refine ⟨c, rfl, ?_⟩
          refine DZ.lay_at _ _ _ j c (kV x, kV y) nd hc ?_
          rw [List.getElem?_zip_eq_some]
          exact ⟨by rw [List.getElem?_map, g1]; rfl, by rw [List.getElem?_map, g2]; rfl⟩
theorem de_listZip {X : Cx} {e e2 : Expr} {t : TL} {p p2 pos pos2 : Pos} (hc : X.calm = true) (hm : X.mg "list" = none) (hm2 : X.mg "zip" = none) (ha : DA X [e, e2] t) (hg : Gl X "list" := by rfl) (hg2 : Gl X "zip" := by rfl)
    (h1 : starEach [e, e2] X.env = (false, eval e X.env) :: starEach [e2] X.env := by rfl) (h2 : (backTo pos2 (starEach [e2] X.env)).any (·.1) = false := by rfl)
    (h3 : starEach [.Call (.Name "zip" p2) [e, e2] [] pos2] X.env = (false, eval (.Call (.Name "zip" p2) [e, e2] [] pos2) X.env) :: starEach [] X.env := by rfl) :
    DE X (.Call (.Name "list" p) [.Call (.Name "zip" p2) [e, e2] [] pos2] [] pos) (dListZip t) := let ⟨_, pa, ev⟩ := ha; ⟨_, DZ.pe_listZip hc hg hm hg2 hm2 pa h1 h2 h3, ev_listZip ev⟩
end DL

/-! ### list(reversed(x)), x a tuple -/
namespace DZ
open PySem PySem.Spec PyProof.Rows RT
theorem rt_nolen : typeLookup (.type "reversed") "__len__" = pure none := am_miss_of_fast (by decide +kernel)
theorem slot_rt_hint : Slot "reversed" "__length_hint__" "reversed.__length_hint__" :=
  .of (owner := "reversed") (n := "__length_hint__") (by rw [typeLookup_type, builtinLookup_eq_fast]; kernel_rfl) (by decide +kernel) (by decide +kernel) (by decide +kernel) (by first | exact .inl (by decide +kernel) | exact .inr (by decide +kernel)) (by rw [isSubtype_type]; kernel_rfl)
theorem entry_rt_hint : entryFor table "reversed.__length_hint__" = some Builtin.«reversed.__length_hint__» := entryFor_of_tree (by kernel_rfl)
theorem args_rt_hint (a : Value) : argsOk "reversed.__length_hint__" ⟨[a], []⟩ := by
  unfold argsOk; rw [signature?_of (id := "reversed.__length_hint__") (n := "__length_hint__".toList.reverse) (o := "reversed".toList.reverse) (by kernel_rfl) owner_rt]; kernel_rfl
section
variable {prog : Program} {w : World} {A : Around} {E : Value → Shared → Prop} {s : Shared} {a t : Addr} {items : Array Value}
theorem hint_call (hit : IsRt s.heap a t ((items.size : Int) - 1)) (ht : IsTup s.heap t items) (hz : items.size ≤ sizeLine) {Q : Value → Shared → Prop} (q : ∀ tk u, Q (.int items.size u) { s with toks := tk }) :
    wpAny (model prog w) A (call (.builtin "reversed.__length_hint__") [.ref a]) Q E s := by
  obtain ⟨o, ho, hc, hd⟩ := id hit
  rw [sizeLine_eq] at hz
  refine wpAny_call_entry slot_rt_hint hit.typeIs entry_rt_hint ?_ (args_rt_hint _)
  unfold Builtin.«reversed.__length_hint__»
  refine wpAny_bind (wpAny_of_eq (a := Value.ref a) rfl ?_)
  refine wpAny_bind (wpAny_field ho hd (x := .ref t) rfl ?_)
  refine PySem.W.KFB.if_not rfl ?_
  refine wpAny_bind (len_tuple ht (by omega) ?_)
  refine wpAny_bind (wpAny_of_eq (a := some ((items.size : Nat) : Int)) rfl ?_)
  try dsimp only
  refine wpAny_bind (wpAny_field (s := { s with toks := s.toks + 1 + 1 }) ho hd (x := rawInt ((items.size : Int) - 1)) rfl ?_)
  show wpAny _ _ (if (items.size : Int) < (items.size : Int) - 1 + 1 then _ else retInt ((items.size : Int) - 1 + 1)) _ _ _
  rw [if_neg (by omega), show ((items.size : Int) - 1 + 1) = (items.size : Int) by omega]
  unfold retInt
  refine wpAny_bind (wpAny_mkInt ?_)
  exact wpAny_pure ⟨_, rfl, q _ _⟩
theorem hint_rt (hit : IsRt s.heap a t ((items.size : Int) - 1)) (ht : IsTup s.heap t items) (hz : items.size ≤ sizeLine) {Q : Bool → Shared → Prop} (q : ∀ tk b, Q b { s with toks := tk }) :
    wpAny (model prog w) A (Builtin.List.listLengthHint (.ref a)) Q E s := by
  have hT := hit.typeIs
  unfold Builtin.List.listLengthHint
  refine wpAny_bind (wpAny_specialOf hT rt_nolen ?_)
  refine PySem.W.KFB.if_not rfl ?_
  refine PySem.W.KFB.if_not rfl ?_
  refine wpAny_bind (wpAny_specialOf hT slot_rt_hint.lookup ?_)
  generalize hid : ("reversed.__length_hint__" : String) = id0
  wp_delta
  rw [show splitId id0 = some ("reversed", "__length_hint__") from by subst hid; decide +kernel]
  subst hid
  refine wpAny_bind (wpAny_isInstance (T := "reversed") (b := true) hT PySem.F.sub_reversed_self ?_)
  refine PySem.W.KFB.if_not rfl ?_
  refine PySem.W.KFB.if_not (by decide +kernel) ?_
  refine wpAny_bind (wpAny_rule ?_)
  refine wpAny_bind (wpAny_of_eq (slot_rt_hint.bind (.ref a)) ?_)
  refine wpAny_bind (wpAny_attempt (hint_call hit ht hz fun tk u => ?_))
  rw [sizeLine_eq] at hz
  dsimp only
  have go : ∀ k : Option Int → Sem Bool, wpAny (model prog w) A (k (some (items.size : Int))) Q E { s with toks := tk } → wpAny (model prog w) A (asInt? (Value.int (items.size : Int) u) >>= k) Q E { s with toks := tk } := fun k h => wpAny_bind (wpAny_pure h)
  refine go _ ?_
  dsimp only
  have q1 : Builtin.List.listFitsIndex (items.size : Int) = true := by simp [Builtin.List.listFitsIndex]; omega
  have q2 : Builtin.List.listTooLong ((items.size : Int)).toNat = false := by simp [Builtin.List.listTooLong, sizeLine_eq]; omega
  have q3 : ¬ ((items.size : Int) < 0) := by omega
  simp only [q1, q2, q3, Bool.not_true, Bool.false_eq_true, if_false]
  exact wpAny_pure (q _ _)
end
end DZ

namespace DZ
open PySem PySem.Spec PyProof.Rows RT L2
section
variable {prog : Program} {w : World} {A : Around} {E : Value → Shared → Prop} {s : Shared} {a t S : Addr} {items : Array Value}
theorem walks_rt (hh : A.handled = none) (ne : t ≠ a) (hz : items.size ≤ sizeLine) : Walks prog w A a [a, t] [a] items.size (fun i v => items[items.size - 1 - i]? = some v) (fun i h => i ≤ items.size ∧ IsRt h a t ((items.size : Int) - 1 - (i : Nat)) ∧ IsTup h t items) where
  sub := fun b m => by simp at m; simp [m]
  frame := fun i h h' st k => ⟨st.1, st.2.1.at fun o e => k a (by simp) o e, by obtain ⟨o, e, r⟩ := st.2.2; exact ⟨o, k t (by simp) o e, r⟩⟩
  item := fun i s Q E hi st q => by
    obtain ⟨_, g, ht⟩ := st
    have e1 : (items.size : Int) - 1 - ((i : Nat) : Int) = ((items.size - 1 - i : Nat) : Int) := by omega
    rw [e1] at g
    have hx : items[items.size - 1 - i]? = some items[items.size - 1 - i] := Array.getElem?_eq_getElem (by omega)
    refine next_rt_item g ht hx hz fun h' g' sb => ?_
    have e2 : ((items.size - 1 - i : Nat) : Int) - 1 = (items.size : Int) - 1 - ((i + 1 : Nat) : Int) := by omega
    rw [e2] at g'
    refine q _ h' _ hx ⟨hi, g', ?_⟩ fun b o n e => (sb.2 b fun z => n (by simp [z])).trans e
    obtain ⟨o, e, r⟩ := ht
    exact ⟨o, (sb.2 t ne).trans e, r⟩
  done := fun s Q E st q => by
    obtain ⟨_, g, ht⟩ := st
    rw [show (items.size : Int) - 1 - ((items.size : Nat) : Int) = -1 by omega] at g
    exact next_rt_end hh g fun h' eb => q h' _ fun b o n e => eb b o (fun z => n (by simp [z])) e
  self := fun i s Q E st q => iter_rt st.2.1 q
theorem ext_rt {R : Result → Shared → Prop} (hn : A.handled = none) (hit : IsRt s.heap a t ((items.size : Int) - 1)) (ht : IsTup s.heap t items) (hz : items.size ≤ sizeLine) (n1 : S ≠ a) (n2 : S ≠ t) (n3 : t ≠ a) (res : Value) (c0 : Nat) (gS : s.heap.get? S = some (lsO #[] c0))
    (fin : ∀ h' tk acc c, (∀ b o, b ≠ S → b ≠ a → s.heap.get? b = some o → h'.get? b = some o) → h'.get? S = some (lsO acc c) → ItemsOf (fun i v => items[items.size - 1 - i]? = some v) acc items.size → R (.ok (.ret res)) { s with heap := h', toks := tk }) :
    wpAny (model prog w) A.in1 (Builtin.List.listExtendWith (.ref S) (.ref a) res) (CodeQ prog w A R) (fun e s' => R (.error e) s') s := by
  have W := (walks_rt (prog := prog) (w := w) (A := A.in1) (a := a) (t := t) hn n3 hz).toS
  have hSf : S ∉ [a, t] := by simp only [List.mem_cons, List.not_mem_nil, or_false, not_or]; exact ⟨n1, n2⟩
  have key : ∀ (h : Heap) (c tk : Nat), (∀ b o, b ≠ S → s.heap.get? b = some o → h.get? b = some o) → h.get? S = some (lsO #[] c) → codeAny (model prog w) A (.builtin "list.extend.loop" ⟨[.ref S, .ref a, res], []⟩) R { s with heap := h, toks := tk } := by
    intro h c tk k g
    refine codeAny_extend_loopS W hz S hSf res items.size 0 _ #[] c rfl (Nat.zero_le _) ⟨Nat.zero_le _, ?_, ?_⟩ g (ItemsOf.nil _) fun s' acc' c' hm g' hacc => ?_
    · have := hit.at (h' := h) fun o e => k a o n1.symm e
      rw [show (items.size : Int) - 1 - ((0 : Nat) : Int) = (items.size : Int) - 1 by omega]
      exact this
    · obtain ⟨o, e, r⟩ := ht
      exact ⟨o, k t o n2.symm e, r⟩
    · rw [Moved.eq_with hm]
      exact fin s'.heap s'.toks acc' c' (fun b o m1 m2 e => hm.heap b o (fun z => by
        rcases List.mem_cons.mp z with z | z
        · exact m1 z
        · exact m2 (List.mem_singleton.mp z)) (k b o m1 e)) g' hacc
  unfold Builtin.List.listExtendWith
  refine wpAny_bind (wpAny_typeOf (T := "reversed") hit.typeIs ?_)
  have q1 : Builtin.List.listSameRef (.ref S) (.ref a) = false := by simp [Builtin.List.listSameRef, n1]
  have q2 : (Value.type "reversed" == Value.type "list") = false := by decide
  have q3 : (Value.type "reversed" == Value.type "tuple") = false := by decide
  simp only [q1, q2, q3, Bool.or_false, Bool.false_eq_true, if_false]
  refine wpAny_bind (iter_rt hit ?_)
  refine wpAny_bind (wpAny_holding (hint_rt hit ht hz fun tk b => ?_))
  refine wpAny_ite_split (fun _ => ?_) (fun _ => wpAny_pure ⟨plainId_quiet PySem.F.plain_extend_loop _, key _ c0 _ (fun b o _ e => e) gS⟩)
  refine wpAny_bind (wpAny_rule (wpAny_bind ?_))
  show wpAny _ _ (updateSeq S (·.push .none) >>= fun _ => updateSeq S (·.pop)) _ _ _
  have g2 := Heap.get?_update_self (Obj.mapSeq (·.push Value.none)) gS rfl
  have g3 := Heap.get?_update_self (Obj.mapSeq (·.pop)) g2 rfl
  refine wpAny_bind (wpAny_updateSeq gS rfl (wpAny_updateSeq (hz := by seq_fits) g2 rfl (wpAny_pure ⟨plainId_quiet PySem.F.plain_extend_loop _, key _ _ _ (fun b o n e => ?_) g3⟩)))
  exact (Heap.get?_update_other _ _ (Ne.symm n)).trans ((Heap.get?_update_other _ _ (Ne.symm n)).trans e)
theorem init_rt {R : Result → Shared → Prop} (hn : A.handled = none) (hit : IsRt s.heap a t ((items.size : Int) - 1)) (ht : IsTup s.heap t items) (hz : items.size ≤ sizeLine) (n1 : S ≠ a) (n2 : S ≠ t) (n3 : t ≠ a) (gS : s.heap.get? S = some { cls := .type "list", data := .seq #[] })
    (fin : ∀ h' tk acc c, (∀ b o, b ≠ S → b ≠ a → s.heap.get? b = some o → h'.get? b = some o) → h'.get? S = some (lsO acc c) → ItemsOf (fun i v => items[items.size - 1 - i]? = some v) acc items.size → R (.ok (.ret .none)) { s with heap := h', toks := tk }) :
    wpAny (model prog w) A.in1 (Builtin.«list.__init__» ⟨[.ref S, .ref a], []⟩) (CodeQ prog w A R) (fun e s' => R (.error e) s') s := by
  show wpAny _ _ (do let old ← Builtin.List.listItems (.ref S); Builtin.List.listUpdate (.ref S) (fun _ => #[]); letGo old.toList.reverse; Builtin.List.listExtendWith (.ref S) (.ref a) .none) _ _ s
  refine wpAny_bind (m := Builtin.List.listItems _) (wpAny_bind (wpAny_seqItems gS rfl (wpAny_pure ?_)))
  show wpAny _ _ (updateSeq S (fun _ => #[]) >>= fun _ => letGo (#[] : Array Value).toList.reverse >>= fun _ => Builtin.List.listExtendWith (.ref S) (.ref a) .none) _ _ s
  have g2 := Heap.get?_update_self (Obj.mapSeq (fun _ => (#[] : Array Value))) gS rfl
  have kk : ∀ b o, b ≠ S → s.heap.get? b = some o → (s.heap.update S (Obj.mapSeq (fun _ => (#[] : Array Value)))).get? b = some o := fun b o n e => (Heap.get?_update_other _ _ (Ne.symm n)).trans e
  refine wpAny_bind (wpAny_updateSeq gS rfl (wpAny_bind (wpAny_letGo ?_)))
  refine ext_rt (s := { s with heap := s.heap.update S (Obj.mapSeq (fun _ => (#[] : Array Value))) }) hn (hit.at fun o e => kk a o n1.symm e) (by obtain ⟨o, e, r⟩ := ht; exact ⟨o, kk t o n2.symm e, r⟩) hz n1 n2 n3 .none _ g2 fun h' tk acc c k g3 ia => ?_
  exact fin h' tk acc c (fun b o m1 m2 e => k b o m1 m2 (kk b o m1 e)) g3 ia
theorem call_list_rt (hn : A.handled = none) (hit : IsRt s.heap a t ((items.size : Int) - 1)) (ht : IsTup s.heap t items) (hz : items.size ≤ sizeLine) (n3 : t ≠ a) {Q : Value → Shared → Prop}
    (fin : ∀ h' tk acc c, (∀ b o, b ≠ a → s.heap.get? b = some o → h'.get? b = some o) → h'.get? s.heap.objs.size = some (lsO acc c) → ItemsOf (fun i v => items[items.size - 1 - i]? = some v) acc items.size → Q (.ref s.heap.objs.size) { s with heap := h', toks := tk }) :
    wpAny (model prog w) A (call (.type "list") [.ref a]) Q E s := by
  refine callType_codes (Q₁ := fun obj s₁ => obj = .ref s.heap.objs.size ∧ s₁ = { s with heap := s.heap.push { cls := .type "list", data := .seq #[] } }) PySem.F.called_list (PySem.F.typeCall_list_1 _) PySem.F.entry_list_init (code_list_new _ ⟨rfl, rfl⟩) fun obj s₁ h₁ => ?_
  obtain ⟨rfl, rfl⟩ := h₁
  have gS : (s.heap.push { cls := .type "list", data := .seq #[] }).get? s.heap.objs.size = some { cls := .type "list", data := .seq #[] } := Heap.get?_push_size _ rfl
  have up : ∀ b o, s.heap.get? b = some o → (s.heap.push { cls := .type "list", data := .seq #[] }).get? b = some o := fun b o e => Heap.get?_push_of_some _ e
  obtain ⟨oa, ea, _⟩ := id hit
  obtain ⟨ot, et, rt⟩ := id ht
  refine ⟨⟨_, gS, rfl⟩, PySem.F.args_list_init_2 _ _, init_rt (A := A.in1) (s := { s with heap := s.heap.push { cls := .type "list", data := .seq #[] } }) hn (hit.at fun o e => up _ _ e) ⟨ot, up _ _ et, rt⟩ hz (Nat.ne_of_gt (Heap.lt_size ea)) (Nat.ne_of_gt (Heap.lt_size et)) n3 gS fun h' tk acc c k g2 ia => ?_⟩
  exact ⟨rfl, fin h' tk acc c (fun b o n e => k b o (Nat.ne_of_lt (Heap.lt_size e)) n (up b o e)) g2 ia⟩
end
def tListRev (K : PySem.W.Frag) (te : TE) : TE := fun σ H Q => te σ H fun v H1 => ∃ (b : Addr) (xs : List V), v = .ref b ∧ SqT K H1 b xs ∧ ∀ p, H1 p = none → Q (.ref p) (upd H1 p (.lst xs.reverse))
theorem pe_listRev {X : Cx} {e : Expr} {te : TE} {p p2 pos pos2 : Pos} (hc : X.calm = true) (hg : Gl X "list") (hm : X.mg "list" = none) (hg2 : Gl X "reversed") (hm2 : X.mg "reversed" = none) (he : PE X e te)
    (h1 : starEach [e] X.env = (false, eval e X.env) :: starEach [] X.env := by rfl)
    (h2 : starEach [.Call (.Name "reversed" p2) [e] [] pos2] X.env = (false, eval (.Call (.Name "reversed" p2) [e] [] pos2) X.env) :: starEach [] X.env := by rfl) :
    PE X (.Call (.Name "list" p) [.Call (.Name "reversed" p2) [e] [] pos2] [] pos) (tListRev X.K te) := by
  refine ⟨fun pins s σ H Q I h => ?_⟩
  refine PyProof.Rows.Call_ (ld_blt I hg hm PyProof.Rows.boot_list (PyProof.Rows.callWith_type1 (args_cons (PyProof.Rows.Call_ (ld_blt I hg2 hm2 PyProof.Rows.boot_reversed (PyProof.Rows.callWith_type1 (args_cons (thn (he.run pins s σ H _ I h) fun u s1 ⟨v, H1, I1, r1, q1⟩ => args_nil ?_) h1) h1 rfl))) h2) h2 rfl))
  obtain ⟨b, xs, rfl, hq, q⟩ := q1
  obtain rfl : u = Value.ref b := r1
  obtain ⟨its, rv, p', hz⟩ := I1.tuple hq
  have hl := rv.length
  have p' : IsTup s1.heap b its.toArray := p'
  have hz' : its.toArray.size ≤ sizeLine := by rw [List.size_toArray, ← hl]; exact hz
  have h24 : its.toArray.size ≤ 16777216 := by rw [← sizeLine_eq]; exact hz'
  refine call_reversed_tup p' (fun A E Q k => len_tuple p' (by omega) k) (args_nil ?_)
  obtain ⟨o, g, r⟩ := id p'
  have lt : b < s1.heap.objs.size := Heap.lt_size g
  have k0 : ∀ c o, s1.heap.get? c = some o → (s1.heap.push (rtObj b ((its.toArray.size : Int) - 1))).get? c = some o := fun c o e => Heap.get?_push_of_some _ e
  refine call_list_rt (s := { s1 with heap := s1.heap.push (rtObj b ((its.toArray.size : Int) - 1)), toks := s1.toks + 1 + 1 }) (a := s1.heap.objs.size) (t := b) (items := its.toArray) (I1.ok.hd hc) ⟨_, Heap.get?_push_size _ rfl, rfl, rfl⟩ ⟨o, k0 _ _ g, r⟩ hz' (Nat.ne_of_lt lt) fun h' tk acc c k g2 ia => ?_
  have kept : ∀ c o, s1.heap.get? c = some o → h'.get? c = some o := fun c o e => k c o (Nat.ne_of_lt (Heap.lt_size e)) (k0 c o e)
  have sz : (s1.heap.push (rtObj b ((its.toArray.size : Int) - 1))).objs.size = s1.heap.objs.size + 1 := Heap.size_push ..
  have le : s1.heap.objs.size ≤ (s1.heap.push (rtObj b ((its.toArray.size : Int) - 1))).objs.size := by rw [sz]; exact Nat.le_succ _
  refine ⟨.ref _, upd H1 (s1.heap.push (rtObj b ((its.toArray.size : Int) - 1))).objs.size (.lst xs.reverse), I1.laid (t' := tk) kept le ⟨by rw [List.length_reverse]; exact hz, acc.toList, c, vals_rev rv ia, ?_⟩, rfl, q _ (I1.hok.fresh le)⟩
  rw [Array.toArray_toList]
  exact g2
end DZ
namespace DL
open PySem L2
variable [Tabs]
/-- list(reversed(x)), x a tuple -/
def dListRev (d : TD) : TD := fun ρ Q => d ρ fun r ρ1 => ∃ ds, ((ob ρ1 r).d = .tup ds ∨ (ob ρ1 r).d = .tux ds) ∧ Q (.nl ds.reverse (ob ρ1 r).f) ρ1
theorem ev_listRev {K : PySem.W.Frag} {te : TE} {d : TD} (h : Ev1 K te d) : Ev1 K (DZ.tListRev K te) (dListRev d) := by
  intro B σ H ρ Q Q' k q fin
  refine h B σ H ρ _ _ k q fun v H1 r ρ1 k1 s1 n1 e1 ⟨ds, ed, q1⟩ => ?_
  have ro := obR k1 k.dom e1
  obtain ⟨a, vs, rfl, ht, rs⟩ : ∃ a vs, v = .ref a ∧ SqT K H1 a vs ∧ Rs K (GF B (mset σ ρ1) H (ob ρ1 r).f) H1 ds vs := by
    rcases ed with ed | ed
    · rw [ed] at ro
      exact ro.tup
    · rw [ed] at ro
      obtain ⟨a, vs, e, h1, h2⟩ := RO.items ro (ds := ds) rfl
      unfold RO R at ro
      obtain ⟨a, vs, o, e, h1, _, _, h2⟩ := ro
      exact ⟨a, vs, e, .inl (.inr ⟨o, h1⟩), h2⟩
  refine ⟨a, vs, rfl, ht, fun p hp => ?_⟩
  obtain ⟨o1, o2⟩ := new_nl (Hs := H) k1 s1.dom hp rs.rev
  exact fin _ _ (.nl ds.reverse _) ρ1 o1 (s1.trans (All.new hp).step) n1 o2 q1
theorem de_listRev {X : Cx} {e : Expr} {d : TD} {p p2 pos pos2 : Pos} (hc : X.calm = true) (hm : X.mg "list" = none) (hm2 : X.mg "reversed" = none) (he : DE X e d) (hg : Gl X "list" := by rfl) (hg2 : Gl X "reversed" := by rfl)
    (h1 : starEach [e] X.env = (false, eval e X.env) :: starEach [] X.env := by rfl)
    (h2 : starEach [.Call (.Name "reversed" p2) [e] [] pos2] X.env = (false, eval (.Call (.Name "reversed" p2) [e] [] pos2) X.env) :: starEach [] X.env := by rfl) :
    DE X (.Call (.Name "list" p) [.Call (.Name "reversed" p2) [e] [] pos2] [] pos) (dListRev d) := let ⟨_, pe, ev⟩ := he; ⟨_, DZ.pe_listRev hc hg hm hg2 hm2 pe h1 h2, ev_listRev ev⟩
end DL

namespace DL
open PySem L2
variable [Tabs]
/-- a value, no more told apart -/
def dV (d : TD) : TD := fun ρ Q => d ρ fun r ρ1 => ∃ o, stoD r = some o ∧ Q (.v o.d o.f) ρ1
theorem de_v {X : Cx} {e : Expr} {d : TD} (h : DE X e d) : DE X e (dV d) := let ⟨_, p, ev⟩ := h; ⟨_, p, fun B σ H ρ Q Q' k q fin => ev B σ H ρ _ _ k q fun v H1 r ρ1 k1 s1 n1 e1 ⟨o, eo, q1⟩ => fin v H1 (.v o.d o.f) ρ1 k1 s1 n1 ((e1.rg k.dom).sto eo) q1⟩
end DL

namespace DL
open PySem L2
variable [Tabs]
/-! ### a new base, one list (of atoms) still to be changed -/
def rbT (j : Nat) (i : Nat) (s : Sl) : Sl := if i = j then (match s with | .ml es _ => .mp 0 es | s => rbS s) else rbS s
def dRebT (j : Nat) (t : TSD) : TSD := fun E ρ => (∃ es f, ρ[j]? = some (.ml es f) ∧ nols es = true) ∧ t ⟨fun _ => False, fun d ρ' => nol d = true ∧ E.rt d (List.replicate ρ'.length .no), fun _ => False, fun _ => False⟩ (ρ.mapIdx (rbT j))
section
variable {K : PySem.W.Frag} {B : Bx} {H H1 : Hp} {σ σ1 : L2.St} {ρ ρ1 : En}
theorem rebT_ok {j : Nat} {es : List D} {f : Fr} {p : Addr} (k : Ok K B H σ ρ) (hj : ρ[j]? = some (.ml es f)) (hn : nols es = true) (hp : σ[j]? = some (some (.ref p))) : Ok K ⟨H, [p], []⟩ H σ (ρ.mapIdx (rbT j)) := by
  have at_ : ∀ {i : Nat} {s : Sl}, (ρ.mapIdx (rbT j))[i]? = some s → ∃ s0, ρ[i]? = some s0 ∧ s = rbT j i s0 := fun {i s} e => by
    rw [List.getElem?_mapIdx] at e
    cases q : ρ[i]? with
    | none => rw [q] at e; cases e
    | some s0 => rw [q] at e; exact ⟨s0, rfl, (Option.some.inj e).symm⟩
  have mj : mset σ ρ p := ⟨j, _, hj, rfl, hp⟩
  have im : ∀ {i : Nat} {s0 : Sl}, (rbT j i s0).isM = true → i = j := fun {i s0} m => Classical.byContradiction fun z => by
    unfold rbT at m
    rw [if_neg z, rbS_isM] at m; cases m
  have nm : ∀ a, mset σ (ρ.mapIdx (rbT j)) a → a = p := fun a ⟨i, s, e, m, z⟩ => by
    obtain ⟨s0, _, rfl⟩ := at_ e
    have := im m
    subst this
    rw [hp] at z
    cases z; rfl
  have g : ∀ a, H a ≠ none → a ≠ p → GF ⟨H, [p], []⟩ (mset σ (ρ.mapIdx (rbT j))) H .p a := fun a h n => ⟨fun z => n (nm a z), by simp, h, fun z => by cases z⟩
  have g2 : ∀ {fr : Fr} (a : Addr), H a ≠ none → GF B (mset σ ρ) B.H0 fr a → GF ⟨H, [p], []⟩ (mset σ (ρ.mapIdx (rbT j))) H .p a := fun {fr} a h q => g a h fun z => q.1 (z ▸ mj)
  have nep : ∀ {i : Nat} {s : Sl} {a : Addr}, i ≠ j → ρ[i]? = some s → s.isM = true → σ[i]? = some (some (.ref a)) → a ≠ p := fun {i s a} n e m ea z => n (k.inj i j s _ a e m hj rfl ea (z ▸ hp))
  refine ⟨by rw [List.length_mapIdx]; exact k.len, fun _ h => h, fun a h => absurd h (by simp), fun _ _ h _ => h, fun i s e => ?_, fun i i' s t a e1 m1 e2 m2 _ _ => ?_, k.tb⟩
  · obtain ⟨s0, e0, rfl⟩ := at_ e
    have q := k.sl i s0 e0
    by_cases hi : i = j
    · subst hi
      rw [hj] at e0
      cases e0
      obtain ⟨p', vs, e1, e2, e3, _⟩ := q
      rw [hp] at e1
      cases e1
      unfold rbT
      rw [if_pos rfl]
      exact ⟨p, vs, hp, e2, Rs.nol hn e3, by simp, by simp⟩
    · unfold rbT
      rw [if_neg hi]
      cases s0 with
      | no => exact True.intro
      | val d f =>
        obtain ⟨v, e1, e2⟩ := q
        have go : R K (GF ⟨H, [p], []⟩ (mset σ (ρ.mapIdx (rbT j))) H .p) H d v := e2.mono Keep.refl fun a ha q => g2 a ha q
        cases f with
        | z => exact ⟨v, e1, e2.mono Keep.refl fun a _ g => g.2.2.1.elim⟩
        | _ => exact ⟨v, e1, go⟩
      | ml ds f =>
        obtain ⟨p', vs, e1, e2, e3, _⟩ := q
        refine ⟨.ref p', e1, ?_⟩
        unfold R
        exact ⟨p', vs, rfl, e2, g p' (by rw [e2]; exact Option.some_ne_none _) (nep hi e0 rfl e1), e3.mono Keep.refl fun a ha q => g2 a ha q⟩
      | mp n ds =>
        obtain ⟨p', vs, e1, e2, e3, _⟩ := q
        refine ⟨.ref p', e1, ?_⟩
        unfold R
        exact ⟨p', vs, rfl, e2, g p' (by rw [e2]; exact Option.some_ne_none _) (nep hi e0 rfl e1), e3.mono Keep.refl fun a ha q => q.elim⟩
      | md ks ds f =>
        obtain ⟨p', vs, e1, e2, l, e3, _⟩ := q
        refine ⟨.ref p', e1, ?_⟩
        unfold R
        exact ⟨p', vs, rfl, e2, l, g p' (by rw [e2]; exact Option.some_ne_none _) (nep hi e0 rfl e1), e3.mono Keep.refl fun a ha q => g2 a ha q⟩
      | mt ks ds f =>
        obtain ⟨p', vs, e1, e2, l, e3, _⟩ := q
        refine ⟨.ref p', e1, ?_⟩
        unfold R
        exact ⟨p', vs, rfl, e2, l, g p' (by rw [e2]; exact Option.some_ne_none _) (nep hi e0 rfl e1), e3.mono Keep.refl fun a ha q => g2 a ha q⟩
  · obtain ⟨s0, _, rfl⟩ := at_ e1
    obtain ⟨t0, _, rfl⟩ := at_ e2
    rw [im m1, im m2]
theorem evs_rebT {j : Nat} {ts : TS} {t : TSD} (h : EvS K ts t) : EvS K ts (dRebT j t) := fun B σ H ρ E D' k q l => by
  obtain ⟨⟨es, f, hj, hn⟩, q⟩ := q
  obtain ⟨p, vs, hp, e2, e3, e4, e5⟩ := k.sl j _ hj
  refine h ⟨H, [p], []⟩ σ H (ρ.mapIdx (rbT j)) _ D' (rebT_ok k hj hn hp) q ⟨fun _ _ _ _ _ z => z.elim, fun v H' σ' ρ' d k' r ⟨hd, q'⟩ => l.rt v H' σ' _ d ?_ (R.nol hd r) q', fun _ _ _ _ _ z => z.elim, fun _ _ _ _ _ z => z.elim⟩
  have no_ : ∀ {i : Nat} {s : Sl}, (List.replicate ρ'.length Sl.no)[i]? = some s → s = .no := fun {i s} e => List.eq_of_mem_replicate (List.mem_of_getElem? e)
  refine ⟨by rw [List.length_replicate]; exact k'.len, fun a h => k'.dom a (k.dom a h), fun a h => k'.dom a (k.av a h), fun a o h q => k'.ext a o (k.ext a o h q) (fun z => ?_), fun i s e => ?_, fun i j s t a e1 m1 _ _ _ _ => ?_, k'.tb⟩
  · have z : a = p := by simpa using z
    rw [z, e4] at h; cases h
  · rw [no_ e]; exact True.intro
  · rw [no_ e1] at m1; cases m1
theorem dss_rebT {X : Cx} {j : Nat} {st : List Stmt} {t : TSD} (h : DSs X st t) : DSs X st (dRebT j t) := let ⟨_, p, ev⟩ := h; ⟨_, p, evs_rebT ev⟩
end
/-! ### what follows ends in a return: of a statement only what holds behind it is wanted -/
structure LkW (K : PySem.W.Frag) (B : Bx) (E : ED) (D' : Ends) : Prop where
  nx : ∀ σ' H' ρ', Ok K B H' σ' ρ' → E.nx ρ' → D'.nx σ' H'
  rt : ∀ v H' σ' ρ' d, Ok K B H' σ' ρ' → R K (fun a => B.H0 a = none) H' d v → E.rt d ρ' → D'.rt v H'
  bk : ∀ σ' H' ρ', Ok K B H' σ' ρ' → E.bk ρ' → D'.bk σ' H'
  ct : ∀ σ' H' ρ', Ok K B H' σ' ρ' → E.ct ρ' → D'.ct σ' H'
def EvW (K : PySem.W.Frag) (ts : TS) (t : TSD) : Prop := ∀ (B : Bx) (σ : L2.St) (H : Hp) (ρ : En) (E : ED) (D' : Ends), Ok K B H σ ρ → t E ρ → LkW K B E D' → ts D' σ H
def DSW (X : Cx) (st : Stmt) (t : TSD) : Prop := ∃ ts, PS X st ts ∧ EvW X.K ts t
def DSWs (X : Cx) (st : List Stmt) (t : TSD) : Prop := ∃ ts, PSs X st ts ∧ EvW X.K ts t
theorem evw_of {K : PySem.W.Frag} {ts : TS} {t : TSD} (h : EvS K ts t) : EvW K ts t := fun B σ H ρ E D' k q l => h B σ H ρ E D' k q ⟨fun σ' H' ρ' k' _ z => l.nx σ' H' ρ' k' z, l.rt, fun σ' H' ρ' k' _ z => l.bk σ' H' ρ' k' z, fun σ' H' ρ' k' _ z => l.ct σ' H' ρ' k' z⟩
theorem evw_seq {K : PySem.W.Frag} {t u : TS} {dt du : TSD} (h1 : EvW K t dt) (h2 : EvW K u du) : EvW K (tSeq t u) (dSeq dt du) := fun B σ H ρ E D' k q l =>
  h1 B σ H ρ _ _ k q ⟨fun σ1 H1 ρ1 k1 q1 => h2 B σ1 H1 ρ1 E D' k1 q1 l, l.rt, l.bk, l.ct⟩
theorem evw_if {K : PySem.W.Frag} {c : TT} {dc : TB} {t u : TS} {dt du : TSD} (hc : EvT K c dc) (h1 : EvW K t dt) (h2 : EvW K u du) : EvW K (tIfS c t u) (dIf dc dt du) := fun B σ H ρ E D' k q l =>
  hc B σ H ρ _ _ k q fun b H1 ρ1 k1 s1 n1 q1 => by
    cases b with
    | true => exact iteT (h1 B σ H1 ρ1 E D' k1 (q1.1 rfl) l)
    | false => exact iteF (h2 B σ H1 ρ1 E D' k1 (q1.2 rfl) l)
theorem evw_cut {K : PySem.W.Frag} {ts : TS} {t : TSD} (h : EvW K ts t) : EvW K ts (dCut t) := fun B σ H ρ E D' k ⟨I, q, g⟩ l => h B σ H ρ _ D' k q ⟨fun σ' H' ρ' k' z => l.nx σ' H' ρ' k' (g ρ' z), l.rt, l.bk, l.ct⟩
def dW (t : TSD) : TSD := fun E ρ => t ⟨fun _ => False, E.rt, fun _ => False, fun _ => False⟩ ρ
section
variable {X : Cx} {st : Stmt} {rest a b : List Stmt} {t u ta tb : TSD} {c : Expr} {dc : TB} {pos : Pos}
theorem dsw_of (h : DS X st t) : DSW X st t := let ⟨_, p, ev⟩ := h; ⟨_, p, evw_of ev⟩
theorem dsws_of {st : List Stmt} (h : DSs X st t) : DSWs X st t := let ⟨_, p, ev⟩ := h; ⟨_, p, evw_of ev⟩
theorem dsws_one (h : DSW X st t) : DSWs X [st] t := let ⟨_, p, ev⟩ := h; ⟨_, pss_one p, ev⟩
theorem dsws_cons (h : DSW X st t) (r : DSWs X rest u) : DSWs X (st :: rest) (dSeq t u) := let ⟨_, p, ev⟩ := h; let ⟨_, p2, ev2⟩ := r; ⟨_, pss_cons p p2, evw_seq ev ev2⟩
theorem dsw_if (hc : DT X c dc) (ha : DSWs X a ta) (hb : DSWs X b tb) : DSW X (.If c a b pos) (dIf dc ta tb) := let ⟨_, p, ev⟩ := hc; let ⟨_, p1, e1⟩ := ha; let ⟨_, p2, e2⟩ := hb; ⟨_, ps_if p p1 p2, evw_if ev e1 e2⟩
theorem dsw_cut (h : DSW X st t) : DSW X st (dCut t) := let ⟨_, p, ev⟩ := h; ⟨_, p, evw_cut ev⟩
theorem dss_w {st : List Stmt} (h : DSWs X st t) : DSs X st (dW t) := let ⟨_, p, ev⟩ := h; ⟨_, p, fun B σ H ρ E D' k q l => ev B σ H ρ _ D' k q ⟨fun _ _ _ _ z => z.elim, l.rt, fun _ _ _ _ z => z.elim, fun _ _ _ _ z => z.elim⟩⟩
end
/-! ### x[2][i] = e, x a machine: new since the base, all else there ahead -/
abbrev rwsD (rows : List (List Int)) : D := .lst (rows.map fun r => .lst (r.map D.int))
def dSetGd (m i : Nat) (d : TD) : TSD := fun E ρ => d ρ fun r ρ1 => ∃ b, (ob ρ1 r).d = .bl b ∧ ∃ (ms : List D) (rows : List (List Int)) (gd : List Bool) (f f2 : Fr) (j : Nat), ρ1[m]? = some (.val (.tup [.tux ms, rwsD rows, .lst (gd.map D.bl)]) f) ∧ ρ1[i]? = some (.val (.int (j : Nat)) f2) ∧ nols ms = true ∧ rows ≠ [] ∧ (∀ r ∈ rows, r ≠ []) ∧ (f = .h ∨ f = .n) ∧ j < gd.length ∧
  (∀ (n : Nat) (s : Sl), n ≠ m → ρ1[n]? = some s → safeS s = true) ∧ E.nx (ρ1.set m (.val (.tup [.tux ms, rwsD rows, .lst ((gd.set j b).map D.bl)]) f))
section
variable {K : PySem.W.Frag} {B : Bx} {H : Hp} {σ : L2.St} {ρ : En}
theorem Rs.set' {G : Addr → Prop} : ∀ {gd : List Bool} {vs : List V} (j : Nat) (b : Bool), Rs K G H (gd.map D.bl) vs → Rs K G H ((gd.set j b).map D.bl) (vs.set j (.bl b)) := fun {gd vs} j b h => by
  have := h.set j (d := .bl b) (v := .bl b) (by unfold R; rfl)
  rw [List.map_set]
  exact this
/-- what is safe stays where the list at a is another one -/
theorem safe_keep {a : Addr} {vs ws : List V} (k : Ok K B H σ ρ) (ha : H a = some (.lst vs)) (hm : ¬ mset σ ρ a) (h0 : B.H0 a = none) {n : Nat} {s : Sl} (e1 : ρ[n]? = some s) (hs : safeS s = true) : SlOk K B (upd H a (.lst ws)) σ (mset σ ρ) n s := by
  have kp : Keep (fun x => x ≠ a) H (L2.upd H a (.lst ws)) := fun x o h q => by
    by_cases z : x = a
    · subst z
      rcases q with q | q
      · exact absurd rfl q
      · rw [ha] at h; cases h; exact q.elim
    · rw [upd_ne z]; exact h
  have gp : ∀ x, GF B (mset σ ρ) B.H0 .p x → x ≠ a := fun x g z => g.2.2.1 (z ▸ h0)
  have rv : ∀ {d : D} {f : Fr} {v : V}, (f == .p || f == .z || nol d) = true → R K (GF B (mset σ ρ) B.H0 f) H d v → R K (GF B (mset σ ρ) B.H0 f) (L2.upd H a (.lst ws)) d v := fun {d f v} hs r => by
    rw [Bool.or_eq_true, Bool.or_eq_true] at hs
    rcases hs with (hs | hs) | hs
    · have hs : f = .p := by simpa using hs
      subst hs
      exact r.mono (kp.weak gp) fun x _ g => g
    · have hs : f = .z := by simpa using hs
      subst hs
      exact r.mono (kp.weak fun x g => g.2.2.1.elim) fun x _ g => g
    · exact R.nol (G := fun _ => False) hs ((R.nol (G' := fun _ => False) hs r).mono (kp.weak fun x g => g.elim) fun x _ g => g)
  have rvs : ∀ {ds : List D} {f : Fr} {vs' : List V}, (f == .p || f == .z || nols ds) = true → Rs K (GF B (mset σ ρ) B.H0 f) H ds vs' → Rs K (GF B (mset σ ρ) B.H0 f) (L2.upd H a (.lst ws)) ds vs' := fun {ds f vs'} hs r => by
    rw [Bool.or_eq_true, Bool.or_eq_true] at hs
    rcases hs with (hs | hs) | hs
    · have hs : f = .p := by simpa using hs
      subst hs
      exact r.mono (kp.weak gp) fun x _ g => g
    · have hs : f = .z := by simpa using hs
      subst hs
      exact r.mono (kp.weak fun x g => g.2.2.1.elim) fun x _ g => g
    · exact Rs.nol (G := fun _ => False) hs ((Rs.nol (G' := fun _ => False) hs r).mono (kp.weak fun x g => g.elim) fun x _ g => g)
  have ne : ∀ {p : Addr}, σ[n]? = some (some (.ref p)) → s.isM = true → p ≠ a := fun {p} ep m z => hm ⟨n, s, e1, m, z ▸ ep⟩
  have q := k.sl n s e1
  cases s with
  | no => exact True.intro
  | val d f => obtain ⟨v, q1, q2⟩ := q; exact ⟨v, q1, rv hs q2⟩
  | ml ds f => obtain ⟨p, w', q1, q2, q3, q4⟩ := q; exact ⟨p, w', q1, by rw [upd_ne (ne q1 rfl)]; exact q2, rvs hs q3, q4⟩
  | mp n ds => obtain ⟨p, w', q1, q2, q3, q4⟩ := q; exact ⟨p, w', q1, by rw [upd_ne (ne q1 rfl)]; exact q2, q3.mono (kp.weak fun x g => g.elim) fun x _ g => g, q4⟩
  | md ks ds f => obtain ⟨p, w', q1, q2, l, q3, q4⟩ := q; exact ⟨p, w', q1, by rw [upd_ne (ne q1 rfl)]; exact q2, l, rvs hs q3, q4⟩
  | mt ks ds f => obtain ⟨p, w', q1, q2, l, q3, q4⟩ := q; exact ⟨p, w', q1, by rw [upd_ne (ne q1 rfl)]; exact q2, l, rvs hs q3, q4⟩
theorem row_keep {G : Addr → Prop} {p : Addr} {vs ws : List V} {gd : List Bool} (hp : H p = some (.lst vs)) (hv : vs = gd.map V.bl) (hg : 0 < gd.length) : ∀ {rows : List (List Int)} {us : List V}, (∀ r ∈ rows, r ≠ []) → Rs K G H (rows.map fun r => D.lst (r.map D.int)) us → Rs K G (upd H p (.lst ws)) (rows.map fun r => D.lst (r.map D.int)) us
  | [], us, _, h => by unfold List.map Rs at h; subst h; exact Rs.nil
  | r :: rows, us, hr, h => by
    rw [List.map_cons] at h
    unfold Rs at h
    obtain ⟨v, us', rfl, h1, h2⟩ := h
    refine Rs.cons ?_ (row_keep hp hv hg (fun x hx => hr x (by simp [hx])) h2)
    unfold R at h1 ⊢
    obtain ⟨a, xs, rfl, ha, ga, rx⟩ := h1
    have ne : a ≠ p := fun z => by
      subst z
      rw [hp] at ha
      cases ha
      have e := rx.ints
      rw [hv] at e
      cases r with
      | nil => exact hr [] (by simp) rfl
      | cons x r =>
        cases gd with
        | nil => simp at hg
        | cons b gd => rw [List.map_cons, List.map_cons] at e; injection e with e _; cases e
    exact ⟨a, xs, rfl, by rw [upd_ne ne]; exact ha, ga, by have e := rx.ints; subst e; exact Rs.ofInts _⟩
theorem rows_keep {G : Addr → Prop} {p : Addr} {vs ws : List V} {gd : List Bool} {rows : List (List Int)} {v : V} (hp : H p = some (.lst vs)) (hv : vs = gd.map V.bl) (hg : 0 < gd.length) (h0 : rows ≠ []) (hr : ∀ r ∈ rows, r ≠ []) (h : R K G H (rwsD rows) v) : R K G (upd H p (.lst ws)) (rwsD rows) v := by
  unfold R at h ⊢
  obtain ⟨a, us, rfl, ha, ga, rs⟩ := h
  have ne : a ≠ p := fun z => by
    subst z
    rw [hp] at ha
    cases ha
    cases rows with
    | nil => exact h0 rfl
    | cons r rows =>
      rw [List.map_cons] at rs
      unfold Rs at rs
      obtain ⟨v, us', e, h1, _⟩ := rs
      unfold R at h1
      obtain ⟨c, _, rfl, _⟩ := h1
      rw [hv] at e
      cases gd with
      | nil => simp at hg
      | cons b gd => rw [List.map_cons] at e; injection e with e _; cases e
  exact ⟨a, us, rfl, by rw [upd_ne ne]; exact ha, ga, row_keep hp hv hg hr rs⟩
theorem evw_setGd {m i : Nat} {te : TE} {d : TD} (h : Ev1 K te d) : EvW K (tAsg te (gSub (tOp (rIx K) (tVar m) (tC (.int 2))) (tVar i) rSetL)) (dSetGd m i d) := fun B σ H ρ E D' k q l =>
  h B σ H ρ _ _ k q fun v H1 r ρ1 k1 s1 n1 e1 ⟨b, eb, ms, rows, gd, f, f2, j, hm, hi, hms, hr0, hr, hf, hj, hsafe, q1⟩ => by
    have rv := obR k1 k.dom e1
    rw [eb] at rv
    obtain rfl := rv.bl
    obtain ⟨vm, em, rm⟩ := k1.sl m _ hm
    obtain ⟨vi, ei, ri⟩ := k1.sl i _ hi
    unfold R at ri
    subst ri
    unfold R at rm
    obtain ⟨a, us, rfl, hq, rs⟩ := rm
    unfold Rs at rs
    obtain ⟨v0, u1, rfl, r0, rs⟩ := rs
    unfold Rs at rs
    obtain ⟨v1, u2, rfl, r1, rs⟩ := rs
    unfold Rs at rs
    obtain ⟨v2, u3, rfl, r2, rs⟩ := rs
    unfold Rs at rs
    subst rs
    unfold R at r2
    obtain ⟨p, vs, rfl, hp, gp, rb⟩ := r2
    have hvs := rb.bls
    have hjv : j < vs.length := by rw [hvs, List.length_map]; exact hj
    have np : ¬ mset σ ρ1 p := gp.1
    have p0 : B.H0 p = none := by
      have := gp.2.2.1
      rcases hf with rfl | rfl <;> exact this
    have hmi : m < ρ1.length := (List.getElem?_eq_some_iff.mp hm).1
    refine ⟨.ref a, em, .inr (.inl ⟨a, _, 2, .ref p, rfl, rfl, hq, rfl, ?_⟩)⟩
    refine ⟨.int (j : Nat), ei, p, vs, (j : Int), j, rfl, rfl, hp, by unfold ixN; rw [if_pos (by omega), if_pos (by omega)]; rfl, ?_⟩
    have hM : mset σ (ρ1.set m (.val (.tup [.tux ms, rwsD rows, .lst ((gd.set j b).map D.bl)]) f)) = mset σ ρ1 := by
      funext x
      refine propext ⟨fun ⟨n, s, e, ms', z⟩ => ?_, fun ⟨n, s, e, ms', z⟩ => ?_⟩
      · by_cases hn : m = n
        · subst hn
          rw [List.getElem?_set_self hmi] at e
          cases e; cases ms'
        · rw [List.getElem?_set_ne hn] at e
          exact ⟨n, s, e, ms', z⟩
      · by_cases hn : m = n
        · subst hn
          rw [hm] at e
          cases e; cases ms'
        · exact ⟨n, s, by rw [List.getElem?_set_ne hn]; exact e, ms', z⟩
    have kp : Keep (fun x => ¬ mset σ ρ1 x ∧ x ≠ p) H1 (upd H1 p (.lst (vs.set j (.bl b)))) := fun x o e q => by
      by_cases z : x = p
      · subst z
        rcases q with q | q
        · exact absurd rfl q.2
        · rw [hp] at e; cases e; exact q.elim
      · rw [upd_ne z]; exact e
    have k2 : Ok K B (upd H1 p (.lst (vs.set j (.bl b)))) σ (ρ1.set m (.val (.tup [.tux ms, rwsD rows, .lst ((gd.set j b).map D.bl)]) f)) := by
      have dm : ∀ x, H1 x ≠ Option.none → upd H1 p (.lst (vs.set j (.bl b))) x ≠ Option.none := fun x e => by
        by_cases z : x = p
        · subst z; rw [upd_same]; exact Option.some_ne_none _
        · rw [upd_ne z]; exact e
      refine ⟨by rw [List.length_set]; exact k1.len, fun x e => dm x (k1.dom x e), fun x e => dm x (k1.av x e), fun x o e n => by rw [upd_ne (fun z => by rw [z, p0] at e; cases e)]; exact k1.ext x o e n, fun n s e => ?_, fun n n' s t x e1 m1 e2 m2 z1 z2 => ?_, tb_upd hp (fun z => z) k1.tb⟩
      · rw [hM]
        by_cases hn : m = n
        · subst hn
          rw [List.getElem?_set_self hmi] at e
          cases e
          refine ⟨.ref a, em, ?_⟩
          unfold R
          refine ⟨a, _, rfl, kp.tup hq, Rs.cons ?_ (Rs.cons (rows_keep hp hvs (by omega) hr0 hr r1) (Rs.cons ?_ Rs.nil))⟩
          · have q0 : nol (.tux ms) = true := by unfold nol; exact hms
            exact R.nol (G := fun _ => False) q0 ((R.nol (G' := fun _ => False) q0 r0).mono (kp.weak fun x g => g.elim) fun x _ g => g)
          · unfold R
            refine ⟨p, _, rfl, upd_same, gp, ?_⟩
            have := Rs.set' j b rb
            rw [hvs] at this ⊢
            have e2 : (gd.map V.bl).set j (V.bl b) = (gd.set j b).map V.bl := by rw [List.map_set]
            rw [e2]
            exact rs_of (by rw [List.length_map, List.length_map]) fun n d v h1 h2 => by
              rw [List.getElem?_map] at h1 h2
              obtain ⟨x, hx, rfl⟩ := Option.map_eq_some_iff.mp h1
              rw [hx] at h2
              cases h2
              unfold R; rfl
        · rw [List.getElem?_set_ne hn] at e
          exact safe_keep k1 hp np p0 e (hsafe n s (fun z => hn z.symm) e)
      · have back : ∀ {n : Nat} {s : Sl}, (ρ1.set m (.val (.tup [.tux ms, rwsD rows, .lst ((gd.set j b).map D.bl)]) f))[n]? = some s → s.isM = true → ρ1[n]? = some s := fun {n s} e ms' => by
          by_cases hn : m = n
          · subst hn
            rw [List.getElem?_set_self hmi] at e
            cases e; cases ms'
          · rw [List.getElem?_set_ne hn] at e; exact e
        exact k1.inj n n' s t x (back e1 m1) m1 (back e2 m2) m2 z1 z2
    exact l.nx σ _ _ k2 q1
end
theorem dsw_setGd {X : Cx} {x y : Str} {e : Expr} {d : TD} {m i : Nat} {pos p1 p2 p3 p4 p5 : Pos} {kk : Nat} (he : DE X e d) (hN : X.N[m]? = some x := by rfl) (hv : Vis X.env.scope x := by first | exact Or.inl rfl | exact Or.inr (Or.inl rfl) | exact Or.inr (Or.inr rfl)) (hd : (x == ("__debug__" : Str)) = false := by decide) (hcd : (x == ("__classdict__" : Str)) = false := by decide)
    (hN2 : X.N[i]? = some y := by rfl) (hv2 : Vis X.env.scope y := by first | exact Or.inl rfl | exact Or.inr (Or.inl rfl) | exact Or.inr (Or.inr rfl)) (hd2 : (y == ("__debug__" : Str)) = false := by decide) (hcd2 : (y == ("__classdict__" : Str)) = false := by decide)
    (hps : ∀ {te : TE} {g : TG}, PE X e te → PG X (.Subscript (.Subscript (.Name x p1) (.Constant (.int 2) kk p2) p3) (.Name y p4) p5) g → PS X (.Assign [.Subscript (.Subscript (.Name x p1) (.Constant (.int 2) kk p2) p3) (.Name y p4) p5] e pos) (tAsg te g) := by intro _ _ h1 h2; exact ps_asg h1 h2)
    (hpg : ∀ {to ti : TE}, PE X (.Subscript (.Name x p1) (.Constant (.int 2) kk p2) p3) to → PE X (.Name y p4) ti → PG X (.Subscript (.Subscript (.Name x p1) (.Constant (.int 2) kk p2) p3) (.Name y p4) p5) (gSub to ti rSetL) := by intro _ _ h1 h2; exact pg_sub h1 h2 set_list) :
    DSW X (.Assign [.Subscript (.Subscript (.Name x p1) (.Constant (.int 2) kk p2) p3) (.Name y p4) p5] e pos) (dSetGd m i d) := let ⟨_, p, ev⟩ := he; ⟨_, hps p (hpg (pe_ix ix_seq (pe_var hN hv hd hcd) pe_int (by intro _ _; rfl)) (pe_var hN2 hv2 hd2 hcd2)), evw_setGd ev⟩
end DL

namespace DL
open PySem L2 PyProof.Rows PySem.W
/-! ### sorted(x, key=len), x a list of lists -/
def qSortLen (K : PySem.W.Frag) (Q : VK) (x : V) (H1 : Hp) : Prop := ∃ (a : Addr) (ps : List (Addr × List V)), x = .ref a ∧ SqL K H1 a (ps.map fun b => V.ref b.1) ∧ (∀ b ∈ ps, SqL K H1 b.1 b.2) ∧
  ∀ (qs : List (Addr × List V)) (p : Addr), qs.Perm ps → H1 p = none → Q (.ref p) (upd H1 p (.lst (qs.map fun b => V.ref b.1)))
def tSortLen (K : PySem.W.Frag) (te : TE) : TE := fun σ H Q => te σ H fun x H1 => qSortLen K Q x H1
def one1 (F : V → Hp → Prop) : List V → Hp → Prop := fun vs H => match vs with
  | [x] => F x H
  | _ => False
theorem each_refs : ∀ {ps : List (Addr × List V)} {us : List Value}, Vals (ps.map fun b => V.ref b.1) us → EachIs (fun (v : Value) (b : Addr × List V) => v = .ref b.1) us ps
  | [], _, r => by cases r; exact .nil
  | b :: ps, _, r => by
    rw [List.map_cons] at r
    cases r with
    | cons h t => exact .cons h (each_refs t)
theorem refs_each : ∀ {ps : List (Addr × List V)} {us : List Value}, EachIs (fun (v : Value) (b : Addr × List V) => v = .ref b.1) us ps → Vals (ps.map fun b => V.ref b.1) us
  | _, _, .nil => .nil
  | _, _, .cons h t => .cons h (refs_each t)
theorem pe_sortLen {X : Cx} {e : Expr} {te : TE} {p p2 kp pos : Pos} (hu : X.A.units + 8 < cLine) (hm : X.mg "sorted" = none) (hl : X.mg "len" = none) (he : PE X e te) (hg : Gl X "sorted" := by rfl) (hg2 : Gl X "len" := by rfl)
    (e1 : backTo pos (starEach [e] X.env) = (false, eval e X.env) :: backTo pos (starEach [] X.env) := by rfl) (e2 : (backTo pos (starEach [e] X.env)).any (·.1) = false := by rfl)
    (e3 : (backToKw pos (keywordEach [⟨some "key", .Name "len" p2, kp⟩] X.env)).all (·.1.isSome) = true := by rfl) (e4 : (backToKw pos (keywordEach [⟨some "key", .Name "len" p2, kp⟩] X.env)).any (·.1.isNone) = false := by rfl)
    (e5 : (backToKw pos (keywordEach [⟨some "key", .Name "len" p2, kp⟩] X.env)).filterMap (·.1) = [Str.ofString "key"] := by rfl)
    (s1 : starEach [e] X.env = (false, eval e X.env) :: starEach [] X.env := by rfl) :
    PE X (.Call (.Name "sorted" p) [e] [⟨some "key", .Name "len" p2, kp⟩] pos) (tSortLen X.K te) := by
  refine ⟨fun pins s σ H Q I h => ?_⟩
  refine wpAny_Call_Name_kw (ld_blt I hg hm (by decide +kernel : bootBuiltins "sorted" = some (.builtin "sorted")) ?_ (by decide) (by decide))
  refine callWith_kw (thn ((pa_cons he pa_nil s1).run pos pins s σ H (one1 (qSortLen X.K Q)) I h) fun us s1 ⟨vs, H1, I1, r1, q1⟩ => ?_) e1 e2 e3 e4
  refine wpAny_evalAll_cons (wpAny_bind (ld_blt I1 hg2 hl (by decide +kernel : bootBuiltins "len" = some (.builtin "len")) (wpAny_bind (wpAny_standAt (wpAny_pure ?_))) (by decide) (by decide)))
  refine wpAny_evalAll_nil ?_
  rw [e5]
  match vs, r1, q1 with
  | [x], r1, q1 =>
  obtain ⟨a, ps, rfl, hs, hb, q⟩ := q1
  obtain ⟨u, rfl, rx⟩ := vals1 r1
  cases rx
  obtain ⟨its, rv, hL, hz⟩ := I1.list hs
  rw [List.length_map] at hz
  have en := each_refs rv
  refine sorted_key_data (k := fun b : Addr × List V => PyData.int b.2.length) (b := false) (kw := [(Str.ofString "key", .builtin "len")]) hL.isList en (fun d hd d' hd' => ?_) (.inr fun d hd => ?_) hz (fun x hx => ?_) (ksk_s1 _ _) (fun _ => ksk_l1 _ _) (fun _ => ksk_t4 _ _) (fun v b hv hx h tk hk => ?_) fun out c h' tk hk hf ho hlen heach => ?_
  · obtain ⟨x, _, rfl⟩ := List.mem_map.mp hd
    obtain ⟨y, _, rfl⟩ := List.mem_map.mp hd'
    rfl
  · obtain ⟨x, _, rfl⟩ := List.mem_map.mp hd
    exact ⟨(fun z => PyData.noConfusion z), (fun xs z => PyData.noConfusion z)⟩
  · show X.A.units + 2 + 0 < cLine
    omega
  · subst hv
    obtain ⟨its', rv', pl', hz'⟩ := I1.list (hb b hx)
    obtain ⟨o, n, ho, hc⟩ := pl'
    have hn := line63
    have hlen := rv'.length
    refine Calls.call_len_list (l := b.1) (items := its'.toArray) ?_ (by simp only [List.size_toArray]; omega) ?_
    · exact PlainL.isList ⟨o, n, hk _ _ ho, hc⟩
    · refine ⟨h, _, rfl, fun _ _ z => z, ?_⟩
      rw [List.size_toArray, ← hlen]
      exact .int _ _
  · have hp : (ps.mergeSort (dataLe false fun b : Addr × List V => PyData.int b.2.length)).Perm ps := List.mergeSort_perm _ _
    have fr : H1 (s1.heap.objs.size + 1) = none := I1.hok.fresh (Nat.le_succ _)
    exact ⟨.ref _, upd H1 (s1.heap.objs.size + 1) (.lst ((ps.mergeSort (dataLe false fun b : Addr × List V => PyData.int b.2.length)).map fun b => V.ref b.1)), I1.laid hk (Nat.le_succ _) ⟨by rw [List.length_map, hp.length_eq]; exact hz, out, c, refs_each heach, ho⟩, rfl, q _ _ hp fr⟩
end DL

namespace DL
open PySem L2 PyProof.Rows PySem.W
/-! ### d.setdefault(k, x), the keys tuples -/
def bSetT (ty tx : TE) (σ : L2.St) (Q : VK) (x : V) (H1 : Hp) : Prop := ∃ a, x = .ref a ∧ IsD H1 a ∧ ty σ H1 fun y H2 => tx σ H2 fun z H3 => ∃ (kvs : List (List Key × V)) (k : List Key) (b : Addr),
  H3 a = some (.dT kvs) ∧ y = .ref b ∧ H3 b = some (.tup (k.map kV)) ∧ kvs.length < sizeLine ∧ (∀ v, valV kvs k = some v → Q v H3) ∧ (valV kvs k = none → Q z (upd H3 a (.dT (putK kvs k z))))
def tSetT (td ty tx : TE) : TE := fun σ H Q => td σ H (bSetT ty tx σ Q)
theorem pe_setT {X : Cx} {o e f : Expr} {td ty tx : TE} {apos cpos : Pos} (hu : X.A.units + 1 < cLine) (ho : PE X o td) (he : PE X e ty) (hf : PE X f tx) (m : M2 X o "setdefault" apos e f cpos) : PE X (.Call (.Attribute o "setdefault" apos) [e, f] [] cpos) (tSetT td ty tx) := by
  refine ⟨fun pins s σ H Q I h => ?_⟩
  refine wpAny_Call_method m.base m.few m.line F.plainAttrs_dict F.slot_dict_setdefault F.type_dict_setdefault (thn (ho.run pins s σ H _ I h) fun u s1 ⟨x, H1, I1, rx, a, ex, isd, q1⟩ => ?_)
  subst ex
  obtain rfl : u = Value.ref a := rx
  obtain ⟨t1, t2, _⟩ := isD_at I1 isd
  refine ⟨t1, t2, ?_⟩
  rw [m.trees]
  refine Calls.callWith_builtin rfl (Calls.evalArgs_plain (Calls.spliced_cons (thn (he.run pins s1 σ H1 _ I1 q1) fun kv s2 ⟨y, H2, I2, ry, q2⟩ =>
    Calls.spliced_cons (thn (hf.run pins s2 σ H2 _ I2 q2) fun zv s3 ⟨z, H3, I3, rz, kvs, k, b, ea, ey, eb, hl, qy, qn⟩ => Calls.spliced_nil ?_))))
  subst ey
  obtain rfl : kv = Value.ref b := ry
  obtain ⟨hz, hd, xs, rel, dd⟩ := dt_of I3.hok ea
  have hxs : xs.length ≤ sizeLine := by rw [← Paired.length rel]; exact hz
  refine call_setdefault_heap (hsz := hxs) (tupleKind_room_in1 hu) (key_of I3.hok eb) hd dd (fun p hp => ?_) fun hn h' dd' hs => ?_
  · have hv := rel.val k
    rw [hp] at hv
    cases ev : valV kvs k with
    | none => rw [ev] at hv; exact (show False from hv).elim
    | some v => rw [ev] at hv; exact ⟨v, H3, I3.tok _, hv, qy v ev⟩
  · have hv := rel.val k
    rw [hn] at hv
    cases ev : valV kvs k with
    | some v => rw [ev] at hv; exact (show False from hv).elim
    | none =>
      have hl2 : (putK kvs k z).length ≤ sizeLine := by have := length_putK kvs k z; omega
      obtain ⟨ob, es, ep, g1, g2, g3, g4, _, g5⟩ := dd'
      refine ⟨z, upd H3 a (.dT (putK kvs k z)), d_write I3 (by rw [ea]; exact True.intro) hs ⟨ob, g1⟩ ⟨hl2, hd, _, (rel.put k eb rz).keeps fun c ys ec => ?_, ob, es, ep, g1, g2, g3, g4, g5⟩, rz, qn ev⟩
      rw [upd_ne (ne_of ec ea fun z => nomatch z)]
      exact ec
/-- x.append(y), what is asked behind x named -/
def bApp (K : PySem.W.Frag) (t : TA) (σ : L2.St) (Q : VK) (x : V) (H1 : Hp) : Prop := tyV K "list" x H1 ∧ t σ H1 fun xs H2 => rAppend x xs H2 Q
def tApp (K : PySem.W.Frag) (to : TE) (t : TA) : TE := fun σ H Q => to σ H (bApp K t σ Q)
theorem pe_app {X : Cx} {e : Expr} {to : TE} {t : TA} (h : PE X e (tBM X.K "list" rAppend to t)) : PE X e (tApp X.K to t) := h
/-! ### list(d.values()), the keys tuples -/
def tListVals (te : TE) : TE := fun σ H Q => te σ H fun x H1 => ∃ (d : Addr) (kvs : List (List Key × V)), x = .ref d ∧ H1 d = some (.dT kvs) ∧ ∀ p, H1 p = none → Q (.ref p) (upd H1 p (.lst (kvs.map (·.2))))
theorem kt_vals {H : Hp} : ∀ {kvs : List (List Key × V)} {xs : List (List Key × Addr × Value)}, KT H kvs xs → Vals (kvs.map (·.2)) (xs.map (·.2.2))
  | _, _, .nil => .nil
  | _, _, .cons h t => .cons h.2.2 (kt_vals t)
theorem pe_listVals {X : Cx} {e : Expr} {te : TE} {p apos cpos pos : Pos} (hc : X.calm = true) (he : PE X e te) (hm : X.mg "list" = none) (hg : Gl X "list" := by rfl) (hv : bootBuiltins "list" = some (.type "list") := by decide +kernel)
    (hbase : attributeBase e "values" X.env (eval e X.env) = eval e X.env := by rfl) (hline : (apos.endLine == cpos.line) = true := by rfl)
    (hs : starEach [.Call (.Attribute e "values" apos) [] [] cpos] X.env = (false, eval (.Call (.Attribute e "values" apos) [] [] cpos) X.env) :: starEach [] X.env := by rfl) :
    PE X (.Call (.Name "list" p) [.Call (.Attribute e "values" apos) [] [] cpos] [] pos) (tListVals te) := by
  refine ⟨fun pins s σ H Q I hq => wpAny_Call_Name_kw (ld_blt I hg hm hv ?_)⟩
  refine callWith_type1 ?_ hs rfl
  rw [hs]
  refine Calls.spliced_cons ?_
  refine wpAny_Call_method (T := "dict") (id := "dict.values") hbase rfl hline F.plainAttrs_dict F.slot_dict_values F.type_dict_values (thn (he.run pins s σ H _ I hq) fun u s1 ⟨x, H1, I1, rx, d, kvs, ex, hd, q⟩ => ?_)
  subst ex
  obtain rfl : u = Value.ref d := rx
  obtain ⟨t1, t2, _⟩ := isD_at I1 (.inr ⟨kvs, .inl hd⟩)
  obtain ⟨hz, hs0, xs, kt, ob, es, ep, g1, g2, g3, g4, g5⟩ := I1.hok d _ hd
  have raw : s1.heap.DictRaw d es ep := ⟨ob, g1, g2, g3⟩
  refine ⟨t1, t2, ?_⟩
  refine method_meetsIn F.slot_dict_values F.entry_dict_values rfl (PySem.evalArgs_none ⟨rfl, raw.typeIs, F.args_dict_values_1 _, _, meets_dict_values_raw d hs0, ⟨es, ep, raw⟩, ?_⟩)
  refine Calls.spliced_nil ?_
  have le : es.size = xs.length := size_of_entries g4
  have lk : kvs.length = xs.length := Paired.length kt
  have I2 : Inv X pins σ H1 { s1 with heap := s1.heap.push { cls := .type "dict_values", data := .fields #[.ref d] } } := I1.kept (t' := s1.toks) fun b o q => Heap.get?_push_of_some _ q
  refine kdl_call (s := { s1 with heap := s1.heap.push { cls := .type "dict_values", data := .fields #[.ref d] } }) (KdlSrc.rawValues (prog := X.prog) (w := X.w) (r := s1.heap.objs.size) (d := d) (es := es) (ep := ep)) (I1.ok.hd hc) ⟨⟨_, Heap.get?_push_size _ rfl, rfl, rfl⟩, raw.push _⟩ (by omega) fun h' tk acc c hk hS hacc => ?_
  have ea : acc.toList = xs.map (·.2.2) := by
    refine List.ext_getElem? fun i => ?_
    obtain ⟨z1, z2⟩ := hacc
    by_cases hi : i < acc.size
    · have e1 : acc[i]? = some acc[i] := Array.getElem?_eq_getElem hi
      obtain ⟨hj, ev⟩ := z2 i _ e1
      have e2 := entry_at g4 i
      rw [Array.getElem?_eq_getElem hj] at e2
      rw [Array.getElem?_toList, e1, List.getElem?_map]
      cases ex : xs[i]? with
      | none => rw [ex] at e2; cases e2
      | some x =>
        rw [ex] at e2
        have e3 := Option.some.inj e2
        rw [ev, e3]; rfl
    · rw [Array.getElem?_toList, Array.getElem?_eq_none (by omega), List.getElem?_map, List.getElem?_eq_none (by omega)]; rfl
  have hv2 : Vals (kvs.map (·.2)) acc.toList := by rw [ea]; exact kt_vals kt
  refine ⟨.ref _, upd H1 _ (.lst (kvs.map (·.2))), I2.laid (a := (s1.heap.push { cls := .type "dict_values", data := .fields #[.ref d] }).objs.size) hk (Nat.le_refl _) ⟨by rw [List.length_map]; exact hz, acc.toList, c, hv2, ?_⟩, rfl, q _ (I2.hok.fresh (Nat.le_refl _))⟩
  rw [Array.toArray_toList]
  exact hS
end DL

namespace DL
open PySem L2 PyProof.Rows PySem.W
/-! ### sorted(s), s a set of ints, any number of them -/
def rSortedW (w : World) : List V → Hp → VK → Prop := fun vs H Q => ∃ (a : Addr) (S : Int → Bool) (n : Nat), vs = [V.ref a] ∧ H a = some (SetO w a S n) ∧
  ∀ (ns : List Int) (p : Addr), ns.Pairwise (· < ·) → (∀ k : Int, k ∈ ns ↔ S k = true) → H p = none → Q (.ref p) (upd H p (.lst (ns.map V.int)))
section
variable {prog : Program} {w : World} {A : Around} {E : Value → Shared → Prop} {s : Shared} {a : Addr}
theorem setSorted {S : Int → Bool} {n : Nat} {Q : Value → Shared → Prop} (R : SetR w s.heap a S n) (hh : A.handled = none)
    (fin : ∀ (s' : Shared) (p : Addr) (out : Array Value) (c : Nat) (ns : List Int), (∀ b o, s.heap.get? b = some o → s'.heap.get? b = some o) → s'.gens = s.gens → s'.os = s.os → s.heap.objs.size ≤ p → s'.heap.get? p = some (seqObj "list" out c) →
      IntsAre out.toList ns → ns.Pairwise (· < ·) → (∀ k, k ∈ ns ↔ S k = true) → out.size ≤ sizeLine → Q (.ref p) s') :
    wpAny (model prog w) A (call (.builtin "sorted") [.ref a]) Q E s := by
  obtain ⟨ob, es, ep, tb, g1, g2, g3, ks, nd, hm, hb, hf, hn, hr, hl⟩ := R
  refine Calls.call_function_entry kind_sorted plain_sorted entry_sorted (args_sorted1 _) ?_
  unfold Builtin.«sorted»
  refine wpAny_bind (m := checkCount "sorted" 1 1 _) (wpAny_pure ?_)
  refine wpAny_bind (collect_set (A := A.in1) hh ⟨ob, g1, g2.1, g3⟩ hf hb hr hl fun s1 vs k1 hz e1 e2 pm => ?_)
  have hvl : vs.length = es.size := by rw [pm.length_eq, List.length_map, Array.length_toList]
  have hsz : vs.length ≤ sizeLine := by rw [hvl]; exact fits_of_scanBound hb
  have hI := ints_of vs fun v hv => (by
    obtain ⟨e, he, q⟩ := List.mem_map.mp (pm.mem_iff.mp hv)
    obtain ⟨k, tk, h1, _⟩ := ks e he
    exact ⟨k, tk, q ▸ h1⟩)
  have pk : (vs.map Builtin.Re.reRawOf).Perm (es.toList.map L2.keyOf) := by
    have z := pm.map Builtin.Re.reRawOf
    rw [List.map_map] at z
    exact z
  refine wpAny_bind (wpAny_newList ?_ (by simpa using hsz))
  have at0 : (s1.heap.push (seqObj "list" vs.toArray 0)).get? s1.heap.objs.size = some (seqObj "list" vs.toArray 0) := Heap.get?_push_size _ rfl
  refine wpAny_bind (wpAny_holding (wpAny_call_entry slot_list_sort ⟨_, at0, rfl⟩ entry_list_sort (SrtO.list_sort_ord SrtO.swo_int at0 hsz (fun h2 => SrtO.ints_sortable hI h2) fun out h1 h2 => ⟨_, rfl, ?_⟩) (args_list_sort _)))
  obtain ⟨a1, a2, a3⟩ := SrtO.ints_out hI h1 h2
  obtain ⟨c, hc⟩ := sortedHeap_at (vs := vs) (out := out.toArray) at0
  have pn := a2.trans pk
  refine wpAny_pure ⟨_, rfl, fin _ s1.heap.objs.size out.toArray c (out.map SrtO.iv) (fun b u q => ?_) e1 e2 hz hc (by simpa using a1) (lt_of_le_nodup _ a3 (pn.nodup_iff.mpr nd)) (fun k => (pn.mem_iff).trans (hm k).symm) ?_⟩
  · have z := k1 b u q
    have hlt := Heap.lt_size z
    show (sortedHeap (s1.heap.push (seqObj "list" vs.toArray 0)) s1.heap.objs.size vs out.toArray).get? b = some u
    rw [sortedHeap_old (Nat.ne_of_lt hlt) (by rw [Heap.size_push]; exact Nat.lt_succ_of_lt hlt)]
    exact Heap.get?_push_of_some _ z
  · rw [List.size_toArray, h2.len]; exact hsz
end
theorem cr_sortedW {X : Cx} (hc : X.calm = true) : CallR X (.builtin "sorted") (rSortedW X.w) := by
  intro pins s σ H vs us Q I r h
  obtain ⟨a, S, n, rfl, ha, q⟩ := h
  have R := setO_get I ha
  rw [Vals.ref1 r]
  refine setSorted R (I.ok.hd hc) fun s' p out c ns k g o hp hg hi hs hm hz => ?_
  have fr : H p = none := I.hok.fresh hp
  have hv := vals_of_ints hi
  have hlen : (ns.map V.int).length ≤ sizeLine := by rw [hv.length, Array.length_toList]; exact hz
  have J : Inv X pins σ (upd H p (.lst (ns.map V.int))) { s with heap := s'.heap, gens := s'.gens, drawn := s'.drawn, toks := s'.toks } :=
    I.call (ch := []) (Un.laid k hp fr) (I.hok.laid k hp ⟨hlen, out.toList, c, hv, hg⟩) (by rw [g]; exact I.bare) (fun _ z => nomatch z)
  have e : s' = { s with heap := s'.heap, gens := s'.gens, drawn := s'.drawn, toks := s'.toks } := by
    cases s'; cases s; cases o; rfl
  rw [e]
  exact ⟨.ref p, _, J, rfl, q ns p hs hm fr⟩
end DL

namespace DL
open PySem L2 PyProof.Rows PySem.W
/-! ### what holds behind a statement, said once (hand layer) -/
def tCutS (t : TS) : TS := fun D σ H => ∃ I : L2.St → Hp → Prop, t { D with nx := I } σ H ∧ ∀ σ' H', I σ' H' → D.nx σ' H'
theorem ps_cutS {X : Cx} {st : Stmt} {t : TS} (h : PS X st t) : PS X st (tCutS t) := ⟨fun pins s σ H D I ⟨N, q, k⟩ => thn (h.run pins s σ H _ I q) fun f s' z => by
  cases f with
  | next => obtain ⟨σ', H', J, n⟩ := z; exact ⟨σ', H', J, k σ' H' n⟩
  | brk => exact z
  | cont => exact z
  | ret u => exact z⟩
/-! ### {x: True for x in ..}, the keys ints -/
abbrev trueE (q : List Int) : List (Key × V) := q.map fun r => (Sum.inl r, V.bl true)
section
variable {J : It} {n : Nat} {G : Hp → Prop} {Y : Nat → Hp → V → Hp → Prop} {q : List Int} {i : Nat} {vs : List Nat} {σ : L2.St} {H1 : Hp} {D : Addr} {Qd : Hp → Prop}
theorem dc_trueW (w : Walk J n G Y) (hn : n = q.length) (hy : ∀ j H x H', j < n → Y j H x H' → H' = H ∧ ∃ r, q[j]? = some r ∧ x = .int r) (hG : ∀ o, G (upd H1 D o)) (nd : q.Nodup) (hl : q.length < sizeLine) (hi : i ∈ vs) (hil : i < σ.length) (hd : Qd (upd H1 D (.dK (trueE q)))) :
    ∃ W : Nat → Nat → Hp → Prop, (∃ m, W 0 m (upd H1 D (.dK []))) ∧ ∀ k m H, W k m H →
      (J.stop k H ∧ Qd H) ∨ (J.go k H ∧ ∃ Nx : Hp → Prop, (∀ H', Nx H' → ∃ m', m' < m ∧ W (k + 1) m' H') ∧ ∀ x H', J.yld k H x H' → gName i x (wipe σ vs) H' fun σ2 H2 => wipe σ2 vs = wipe σ vs ∧ tYes σ2 H2 fun b H3 =>
        if b = true then tVar i σ2 H3 fun y H4 => tC (.bl true) σ2 H4 fun z H5 => ∃ kvs k, y = kV k ∧ H5 D = some (.dK kvs) ∧ kvs.length < sizeLine ∧ Nx (upd H5 D (.dK (putK kvs k z))) else Nx H3) := by
  subst hn
  have wi : ∀ (σ : L2.St) (x : Option V), wipe ((wipe σ vs).set i x) vs = wipe σ vs := fun σ x => by
    revert hi
    clear hil
    have cm : ∀ (us : List Nat) (τ : L2.St) (j : Nat) (x y : Option V), (wipe (τ.set j x) us).set j y = (wipe τ us).set j y := fun us => by
      induction us with
      | nil => intro τ j x y; show (τ.set j x).set j y = τ.set j y; rw [List.set_set]
      | cons u us ih =>
        intro τ j x y
        show ((wipe (τ.set j x) us).set u none).set j y = ((wipe τ us).set u none).set j y
        by_cases e : u = j
        · subst e; rw [List.set_set, List.set_set]; exact ih τ u x y
        · rw [List.set_comm none y e, List.set_comm none y e, ih τ j x y]
    have cw : ∀ (us : List Nat) (τ : L2.St) (j : Nat) (x : Option V), j ∈ us → wipe (τ.set j x) us = wipe τ us := fun us => by
      induction us with
      | nil => intro τ j x h; cases h
      | cons u us ih =>
        intro τ j x h
        show (wipe (τ.set j x) us).set u none = (wipe τ us).set u none
        rcases List.mem_cons.mp h with rfl | h
        · exact cm us τ _ x none
        · rw [ih τ j x h]
    have ww : ∀ (us : List Nat) (τ : L2.St), wipe (wipe τ us) us = wipe τ us := fun us => by
      induction us with
      | nil => intro τ; rfl
      | cons u us ih =>
        intro τ
        show (wipe ((wipe τ us).set u none) us).set u none = (wipe τ us).set u none
        rw [cm us (wipe τ us) u none none, ih]
    intro hi
    rw [cw vs _ i x hi, ww]
  refine ⟨fun k m H => m = q.length - k ∧ k ≤ q.length ∧ H = upd H1 D (.dK (trueE (q.take k))), ⟨q.length, by simp, Nat.zero_le _, rfl⟩, ?_⟩
  rintro k m H ⟨rfl, hk, rfl⟩
  by_cases hlt : k < q.length
  · refine .inr ⟨w.goes k _ hlt (hG _), fun H' => H' = upd H1 D (.dK (trueE (q.take (k + 1)))), fun H' e => ⟨q.length - (k + 1), by omega, rfl, hlt, e⟩, fun x H' y => ?_⟩
    obtain ⟨rfl, r, er, rfl⟩ := hy k _ x H' hlt (w.yields k _ x H' hlt (hG _) y)
    have hnew : valV (trueE (q.take k)) (Sum.inl r) = none := by
      have no : ∀ (l : List Int), r ∉ l → valV (trueE l) (Sum.inl r) = none := fun l => by
        induction l with
        | nil => intro _; rfl
        | cons a l ih =>
          intro h
          rw [List.mem_cons, not_or] at h
          show valV ((Sum.inl a, V.bl true) :: trueE l) (Sum.inl r) = none
          rw [valV_neg (p := ((Sum.inl a : Key), V.bl true)) (fun z => h.1 (Sum.inl.inj z).symm)]
          exact ih h.2
      refine no _ fun z => ?_
      obtain ⟨j, hj, e⟩ := List.getElem_of_mem z
      rw [List.length_take] at hj
      rw [List.getElem_take] at e
      have := nd_ix nd (i := j) (j := k) (x := r) (by rw [List.getElem?_eq_getElem (by omega), e]) er
      omega
    refine ⟨wi σ _, .int r, by rw [List.getElem?_set_self (by rw [wipe_length]; exact hil)], trueE (q.take k), Sum.inl r, rfl, upd_same, by rw [List.length_map, List.length_take]; omega, ?_⟩
    show upd (upd H1 D _) D _ = _
    rw [upd_upd, putK_new _ hnew, List.take_add_one, er]
    show upd H1 D (.dK (trueE (q.take k) ++ [(Sum.inl r, V.bl true)])) = upd H1 D (.dK (trueE (q.take k ++ [r])))
    unfold trueE
    rw [List.map_append]; rfl
  · obtain rfl : k = q.length := by omega
    rw [List.take_length]
    exact .inl ⟨w.stops _ (hG _), hd⟩
end
end DL

namespace DL
open PySem PySem.Spec PyProof.Rows L2
/-! ### a clause of a comprehension, no test in it -/
/-- what a turn of the clause at lv does: the next thing, its store, then bd ahead of going on -/
def clauseDo (t : Expr) (p : Pos) (bd : Sem Fin → Sem Fin) (it : Value) (env : Env) (on : Sem Fin) : Sem Fin := do
  standAt p
  match ← pyNext it with
  | none => pure (.done .next)
  | some v =>
    letOwnedTupleGo t it v
    assign t env v
    bd on
abbrev sc2 (elt t0 i0 t1 i1 : Expr) (scope : Scope) (pos : Pos) : Expr := .SetComp elt [⟨t0, i0, [], 0⟩, ⟨t1, i1, [], 0⟩] scope pos
/-- the outer clause: the inner one's own loop -/
def bd0 (nd i1 : Expr) (acc : Value) (env : Env) (on : Sem Fin) : Sem Fin := do
  let x ← eval i1 env
  standAt i1.pos
  let x ← foldedSetIterable i1 env x
  let _ ← runOwn (.compStart nd 1 (← holding [x] (pyIter x)) acc env) env
  on
/-- the inner one: one more in the set -/
def bd1 (elt : Expr) (acc : Value) (env : Env) (on : Sem Fin) : Sem Fin := do
  (do
    let v ← eval elt env
    standAt elt.pos
    let _ ← call (.builtin "set.add") [acc, v])
  on
theorem turn0 (elt t0 i0 t1 i1 : Expr) (scope : Scope) (pos : Pos) (it acc : Value) (env : Env) :
    compTurn (sc2 elt t0 i0 t1 i1 scope pos) 0 it acc env = clauseDo t0 i0.pos (bd0 (sc2 elt t0 i0 t1 i1 scope pos) i1 acc env) it env (again (.compLoop (sc2 elt t0 i0 t1 i1 scope pos) 0 it acc env)) := by rfl
theorem turn1 (elt t0 i0 t1 i1 : Expr) (scope : Scope) (pos : Pos) (it acc : Value) (env : Env) :
    compTurn (sc2 elt t0 i0 t1 i1 scope pos) 1 it acc env = clauseDo t1 i1.pos (bd1 elt acc env) it env (again (.compLoop (sc2 elt t0 i0 t1 i1 scope pos) 1 it acc env)) := by rfl
/-! ### the set that is made stands aside: no part of what is followed, pinned while anything is worked out -/
section
variable {Y : Cx} {P pl : List (Addr × Obj)} {τ : L2.St} {H : Hp} {s : Shared} {D : Addr} {S : Int → Bool} {n : Nat}
theorem fpOk_app {b : Addr} (f : FpOk Y P H b) (h : ∀ p ∈ pl, p.1 ≠ b) : FpOk Y (P ++ pl) H b :=
  ⟨f.1, f.2.1, f.2.2.1, f.2.2.2.1, f.2.2.2.2.1, fun p hp => by
    rw [← List.append_assoc] at hp
    exact (List.mem_append.mp hp).elim (f.2.2.2.2.2 p) (h p)⟩
theorem fpOk_less {b : Addr} (f : FpOk Y (P ++ pl) H b) : FpOk Y P H b :=
  ⟨f.1, f.2.1, f.2.2.1, f.2.2.2.1, f.2.2.2.2.1, fun p hp => f.2.2.2.2.2 p (by rw [← List.append_assoc]; exact List.mem_append_left _ hp)⟩
theorem SetR.there {h : Heap} {w : World} (R : SetR w h D S n) : ∃ o, h.get? D = some o ∧ ∀ v, o.data ≠ .cell v := by
  obtain ⟨o, es, ep, t, ho, _, hd, _⟩ := R
  exact ⟨o, ho, fun v z => by rw [hd] at z; cases z⟩
theorem pin1 (I : Inv Y P τ H s) (f : FpOk Y P H D) (R : SetR Y.w s.heap D S n) : Inv Y (P ++ pinsAt [D] s.heap) τ H s :=
  I.pinned (fun b hb => by rw [List.mem_singleton.mp hb]; exact f) (fun b hb => by rw [List.mem_singleton.mp hb]; exact SetR.there R)
theorem pin1_at {h : Heap} {p : Addr × Obj} (hp : p ∈ pinsAt [D] h) : p.1 = D := List.mem_singleton.mp (of_pinsAt hp).1
theorem unpin1 {h : Heap} {τ' : L2.St} {H' : Hp} {s' : Shared} (I : Inv Y (P ++ pinsAt [D] h) τ' H' s') (R : SetR Y.w h D S n) : Inv Y P τ' H' s' ∧ H' D = none ∧ SetR Y.w s'.heap D S n := by
  have at_ : ∀ o, h.get? D = some o → s'.heap.get? D = some o ∧ H' D = none := fun o e =>
    let z := I.pin (D, o) (List.mem_append_right _ (List.mem_append_right _ (mem_pinsAt (List.mem_singleton.mpr rfl) e)))
    ⟨z.1, z.2.1⟩
  obtain ⟨o, e, _⟩ := SetR.there R
  exact ⟨I.unpinned, (at_ o e).2, R.at fun o e => (at_ o e).1⟩
end
/-- what is done with the set's members S, their number n, the heap -/
abbrev SN := (Int → Bool) → Nat → Hp → Prop
/-- a clause, walked: τ the slots at each turn's start, vs its own names -/
theorem clause_run {Y : Cx} {pins : List (Addr × Obj)} {τ : L2.St} {vs : List Nat} {tg node : Expr} {lv : Nat} {p : Pos} {acc : Value} {bd : Sem Fin → Sem Fin} {J : It} {fp : List Addr} {it D : Addr} {tn : Nat → Heap → Prop} {g : TG} {bt : L2.St → (Int → Bool) → Nat → Hp → SN → Prop} {R : Result → Shared → Prop}
    (ht : compTurn node lv (.ref it) acc Y.env = clauseDo tg p bd (.ref it) Y.env (again (.compLoop node lv (.ref it) acc Y.env)))
    (hA : Y.A.under (.compLoop node lv (.ref it) acc Y.env) = Y.A) (hn : (model Y.prog Y.w).den (.compLoop node lv (.ref it) acc Y.env) = (compTurn node lv (.ref it) acc Y.env).onRaise (fun x => do noteFrame x Y.env; theTreesLotGoes x))
    (hc : Y.calm = true) (hx : Y.xe = fun _ _ => False) (T : Turn Y.prog Y.w Y.K tg J fp it tn) (hf : ∀ b ∈ fp, ∀ H : Hp, H b = none → FpOk Y pins H b) (hD : ∀ H : Hp, H D = none → FpOk Y pins H D) (hDf : ∀ b ∈ fp, D ≠ b) (pg : PG Y tg g)
    (hbd : ∀ (on : Sem Fin) (pl : List (Addr × Obj)) (s : Shared) (σ2 : L2.St) (S : Int → Bool) (n : Nat) (H2 : Hp) (Nx : SN) (Qf : Fin → Shared → Prop) (E : Value → Shared → Prop), (∀ p ∈ pl, p.1 ≠ D) → Inv Y (pins ++ pl) σ2 H2 s → H2 D = none → SetR Y.w s.heap D S n → wipe σ2 vs = τ → bt σ2 S n H2 Nx →
      (∀ (σ' : L2.St) (S' : Int → Bool) (n' : Nat) (H' : Hp) (s' : Shared), Inv Y (pins ++ pl) σ' H' s' → H' D = none → SetR Y.w s'.heap D S' n' → τ.length = σ'.length → (∀ (j : Nat) v, τ[j]? = some (some v) → σ'[j]? = some (some v)) → Nx S' n' H' → wpAny (model Y.prog Y.w) Y.A on Qf E s') → wpAny (model Y.prog Y.w) Y.A (bd on) Qf E s)
    (W : Nat → Nat → SN) (Qe : SN)
    (turn : ∀ i m S n H, W i m S n H → (J.stop i H ∧ Qe S n H) ∨ (J.go i H ∧ ∃ Nx : SN, (∀ S' n' H', Nx S' n' H' → ∃ m', m' < m ∧ W (i + 1) m' S' n' H') ∧ ∀ x H', J.yld i H x H' → g x τ H' fun σ2 H2 => wipe σ2 vs = τ ∧ bt σ2 S n H2 Nx))
    (hend : ∀ (S : Int → Bool) (n : Nat) (H' : Hp) (s' : Shared), Inv Y pins τ H' s' → H' D = none → SetR Y.w s'.heap D S n → Qe S n H' → R (.ok .next) s')
    {s : Shared} {H : Hp} {m n0 : Nat} {S0 : Int → Bool} (I : Inv Y pins τ H s) (st : tn 0 s.heap) (fr : ∀ b ∈ fp, H b = none) (dn : H D = none) (rn : SetR Y.w s.heap D S0 n0) (w0 : W 0 m S0 n0 H) :
    codeAny (model Y.prog Y.w) Y.A (.compLoop node lv (.ref it) acc Y.env) R s := by
  refine codeAny_loop rfl (fun k s' => ∃ i S n H', Inv Y pins τ H' s' ∧ tn i s'.heap ∧ (∀ b ∈ fp, H' b = none) ∧ H' D = none ∧ SetR Y.w s'.heap D S n ∧ W i k S n H') (fun k s5 ⟨i, S, n, H5, I5, st5, n5, d5, r5, w5⟩ => ?_) m ⟨0, S0, n0, H, I, st, fr, dn, rn, w0⟩
  rw [hA, hn]
  refine wpAny_noted ?_
  rw [ht]
  refine wpAny_bind (wpAny_standAt (wpAny_bind ?_))
  have I6 := pin1 I5 (hD H5 d5) r5
  have hf6 : ∀ {H : Hp} {h : Heap}, (∀ b ∈ fp, H b = none) → ∀ b ∈ fp, FpOk Y (pins ++ pinsAt [D] h) H b := fun {H h} z b hb => fpOk_app (hf b hb H (z b hb)) fun p hp => by rw [pin1_at hp]; exact hDf b hb
  rcases turn i k S n H5 w5 with ⟨stop, qq⟩ | ⟨go, Nx, hNx, step⟩
  · refine thnF (T.done Y rfl rfl rfl hc i _ s5 τ H5 (fun _ _ => False) I6 (hf6 n5) st5 stop) fun r s6 ⟨hr, I7⟩ => ?_
    subst hr
    obtain ⟨I8, d8, r8⟩ := unpin1 I7 r5
    exact wpAny_pure (hend S n H5 s6 I8 d8 r8 qq)
  · refine thnF (T.item Y rfl rfl rfl hc i _ s5 τ H5 (fun _ _ => False) I6 (hf6 n5) st5 go) fun r s6 ⟨u, hr, h6⟩ => ?_
    subst hr
    refine wpAny_bind (thnF h6 fun _ s7 ⟨x, H7, I7, r7, y7, st7, n7⟩ => ?_)
    obtain ⟨I8, d8, r8⟩ := unpin1 I7 r5
    have I9 := I8.pinned (fun b hb => hf b hb H7 (n7 b hb)) (T.obj _ _ st7)
    have nD : ∀ p ∈ pinsAt fp s7.heap, p.1 ≠ D := fun p hp z => hDf _ (of_pinsAt hp).1 z.symm
    have I10 := pin1 I9 (fpOk_app (hD H7 d8) nD) r8
    have run := pg.run _ s7 τ H7 x u _ I10 r7 (step x H7 y7)
    rw [hx] at run
    refine wpAny_bind (thnF run fun _ s8 ⟨σ8, H8, I11, hw, q8⟩ => ?_)
    obtain ⟨I12, d12, r12⟩ := unpin1 I11 r8
    refine hbd _ _ s8 σ8 S n H8 Nx _ _ nD I12 d12 r12 hw q8 fun σ' S' n' H' s' I' d' r' hl hk nx => ?_
    obtain ⟨m', hm, w'⟩ := hNx S' n' H' nx
    have pin : ∀ b ∈ fp, ∀ o, s7.heap.get? b = some o → s'.heap.get? b = some o ∧ H' b = none := fun b hb o e =>
      let z := I'.pin (b, o) (List.mem_append_right _ (List.mem_append_right _ (mem_pinsAt hb e)))
      ⟨z.1, z.2.1⟩
    refine wpAny_pure ⟨rfl, m', hm, i + 1, S', n', H', I'.unpinned.weak hl hk, T.keep _ _ _ st7 fun b hb o e => (pin b hb o e).1, fun b hb => ?_, d', r', w'⟩
    obtain ⟨o, e, _⟩ := T.obj _ _ st7 b hb
    exact (pin b hb o e).2
section
variable {prog : Program} {w : World} {A : Around} {R : Result → Shared → Prop} {s : Shared} {elt t0 i0 t1 i1 : Expr} {scope : Scope} {pos : Pos} {it acc : Value} {env : Env}
/-- the inner clause begins -/
theorem start1 (h0 : codeAny (model prog w) A (.compLoop (sc2 elt t0 i0 t1 i1 scope pos) 1 it acc env) R s)
    (h : wpAny (model prog w) A (pyIter it) (fun v s' => codeAny (model prog w) A (.compLoop (sc2 elt t0 i0 t1 i1 scope pos) 1 v acc env) R s') (notedBy (model prog w) A env fun x s' => R (.error x) s') s) :
    codeAny (model prog w) A (.compStart (sc2 elt t0 i0 t1 i1 scope pos) 1 it acc env) R s := by
  refine codeAny_of_tree ?_
  show wpAny _ _ ((compStart (sc2 elt t0 i0 t1 i1 scope pos) 1 it acc env).onRaise (fun x => do noteFrame x env; standAt theWindowsPlace)) _ _ s
  refine wpAny_notedAt ?_
  unfold compStart
  show wpAny _ _ (ask >>= _) _ _ s
  refine wpAny_bind (wpAny_askSetting (wpAny_ite ?_))
  split
  · exact wpAny_bind (wpAny_pure (wpAny_pure ⟨rfl, h0⟩))
  · exact wpAny_bind (wpAny_rule (wpAny_bind (wpAny_standAt (wpAny_bind (wpAny_mono h (fun _ _ q => wpAny_pure ⟨rfl, q⟩) fun _ _ x => x)))))
end
theorem add1 {Y : Cx} {P : List (Addr × Obj)} {τ : L2.St} {H : Hp} {s : Shared} {E : Value → Shared → Prop} {D : Addr} {S : Int → Bool} {n : Nat} {y : Int} {tk : Tok} {Q : Value → Shared → Prop} (I : Inv Y P τ H s) (f : FpOk Y P H D) (R : SetR Y.w s.heap D S n) (room : n + 1 < scanBound)
    (h : ∀ s', Inv Y P τ H s' → SetR Y.w s'.heap D (fun j => S j || decide (j = y)) (if S y = true then n else n + 1) → Q .none s') : wpAny (model Y.prog Y.w) Y.A (call (.builtin "set.add") [.ref D, .int y tk]) Q E s :=
  setR_add R room fun h' sb new => h _ (let ⟨f0, f1, _, f3, f4, f5⟩ := f; I.turned (t' := s.toks + 1) (fun b o hb e => (sb.2 b hb).trans e) f0 f1 f3 f4 f5) new
/-- the inner clause's turn -/
def btI (te : TE) : L2.St → (Int → Bool) → Nat → Hp → SN → Prop := fun σ S n H Nx => te σ H fun y H1 => ∃ c : Int, y = .int c ∧ n + 1 < scanBound ∧ Nx (fun j => S j || decide (j = c)) (if S c = true then n else n + 1) H1
/-- the outer clause's -/
def btO (wi1 : TI) (g1 : TG) (vs1 : List Nat) (bt : L2.St → (Int → Bool) → Nat → Hp → SN → Prop) : L2.St → (Int → Bool) → Nat → Hp → SN → Prop := fun σ S0 n0 H Nx => wi1 σ H fun J H1 => ∃ W : Nat → Nat → SN, (∃ m, W 0 m S0 n0 H1) ∧ ∀ i m S n H, W i m S n H →
  (J.stop i H ∧ Nx S n H) ∨ (J.go i H ∧ ∃ Nx1 : SN, (∀ S' n' H', Nx1 S' n' H' → ∃ m', m' < m ∧ W (i + 1) m' S' n' H') ∧ ∀ x H', J.yld i H x H' → g1 x (wipe σ vs1) H' fun σ2 H2 => wipe σ2 vs1 = wipe σ vs1 ∧ bt σ2 S n H2 Nx1)
/-- {elt for tg in iter for tg1 in iter1}, elt an int -/
def tSc2 (w : World) (wi : TI) (g : TG) (wi1 : TI) (g1 : TG) (te : TE) (vs vs1 : List Nat) : TE := fun σ H Q => wi σ H fun J H1 => ∃ W : Nat → Nat → SN, (∃ m, W 0 m (fun _ => false) 0 H1) ∧ ∀ i m S n H, W i m S n H →
  (J.stop i H ∧ ∀ D, H D = none → Q (.ref D) (upd H D (SetO w D S n))) ∨ (J.go i H ∧ ∃ Nx : SN, (∀ S' n' H', Nx S' n' H' → ∃ m', m' < m ∧ W (i + 1) m' S' n' H') ∧ ∀ x H', J.yld i H x H' → g x (wipe σ vs) H' fun σ2 H2 => wipe σ2 vs = wipe σ vs ∧ btO wi1 g1 vs1 (btI te) σ2 S n H2 Nx)
theorem ran1 {Y : Cx} {pins : List (Addr × Obj)} {τ : L2.St} {D : Addr} {elt : Expr} {te : TE} {vs : List Nat} (pe : PE Y elt te) (hx : Y.xe = fun _ _ => False) (hD : ∀ H : Hp, H D = none → FpOk Y pins H D) (on : Sem Fin) (pl : List (Addr × Obj)) (s : Shared) (σ2 : L2.St) (S : Int → Bool) (n : Nat) (H2 : Hp) (Nx : SN) (Qf : Fin → Shared → Prop) (E : Value → Shared → Prop) (nD : ∀ p ∈ pl, p.1 ≠ D)
    (I : Inv Y (pins ++ pl) σ2 H2 s) (d : H2 D = none) (r : SetR Y.w s.heap D S n) (hw : wipe σ2 vs = τ) (q : btI te σ2 S n H2 Nx)
    (k : ∀ (σ' : L2.St) (S' : Int → Bool) (n' : Nat) (H' : Hp) (s' : Shared), Inv Y (pins ++ pl) σ' H' s' → H' D = none → SetR Y.w s'.heap D S' n' → τ.length = σ'.length → (∀ (j : Nat) v, τ[j]? = some (some v) → σ'[j]? = some (some v)) → Nx S' n' H' → wpAny (model Y.prog Y.w) Y.A on Qf E s') : wpAny (model Y.prog Y.w) Y.A (bd1 elt (.ref D) Y.env on) Qf E s := by
  unfold bd1
  have run := pe.run _ s σ2 H2 _ (pin1 I (fpOk_app (hD H2 d) nD) r) q
  rw [hx] at run
  refine wpAny_bind (wpAny_bind (thnF run fun z s1 ⟨y, H1, I1, r1, c, ey, room, nx⟩ => ?_))
  subst ey
  obtain ⟨tk, rfl⟩ := r1
  obtain ⟨I2, d2, r2⟩ := unpin1 I1 r
  refine wpAny_bind (wpAny_standAt (wpAny_bind (add1 I2 (fpOk_app (hD H1 d2) nD) r2 room fun s' I' r' => wpAny_pure ?_)))
  exact k σ2 _ _ _ s' I' d2 r' (by rw [← hw]; exact wipe_length _ _) (fun j v e => by rw [← hw] at e; exact (wipe_some e).1) nx
theorem ran0 {Y : Cx} {pins : List (Addr × Obj)} {τ : L2.St} {D : Addr} {elt tg iter tg1 iter1 : Expr} {scope : Scope} {pos : Pos} {te : TE} {wi1 : TI} {g1 : TG} {vs vs1 : List Nat} (pi1 : PI Y tg1 iter1 wi1) (pg1 : PG Y tg1 g1) (pe : PE Y elt te) (hc : Y.calm = true) (hx : Y.xe = fun _ _ => False) (hs1 : ∀ x, foldedSetIterable iter1 Y.env x = pure x) (hv : ∀ i ∈ vs1, i ∈ vs) (hD : ∀ H : Hp, H D = none → FpOk Y pins H D)
    (on : Sem Fin) (pl : List (Addr × Obj)) (s : Shared) (σ2 : L2.St) (S : Int → Bool) (n : Nat) (H2 : Hp) (Nx : SN) (Qf : Fin → Shared → Prop) (E : Value → Shared → Prop) (nD : ∀ p ∈ pl, p.1 ≠ D)
    (I : Inv Y (pins ++ pl) σ2 H2 s) (d : H2 D = none) (r : SetR Y.w s.heap D S n) (hw : wipe σ2 vs = τ) (q : btO wi1 g1 vs1 (btI te) σ2 S n H2 Nx)
    (k : ∀ (σ' : L2.St) (S' : Int → Bool) (n' : Nat) (H' : Hp) (s' : Shared), Inv Y (pins ++ pl) σ' H' s' → H' D = none → SetR Y.w s'.heap D S' n' → τ.length = σ'.length → (∀ (j : Nat) v, τ[j]? = some (some v) → σ'[j]? = some (some v)) → Nx S' n' H' → wpAny (model Y.prog Y.w) Y.A on Qf E s') : wpAny (model Y.prog Y.w) Y.A (bd0 (sc2 elt tg iter tg1 iter1 scope pos) iter1 (.ref D) Y.env on) Qf E s := by
  unfold bd0
  have run := pi1.run _ s σ2 H2 _ (pin1 I (fpOk_app (hD H2 d) nD) r) q
  rw [hx] at run
  refine wpAny_bind (thnF run fun xv s1 h1 => wpAny_bind (wpAny_standAt (wpAny_bind (wpAny_of_eq (hs1 xv) (wpAny_bind (wpAny_holding (thnF h1 fun itv s2 h2 => ?_)))))))
  obtain ⟨it1, fp1, tn1, J1, H11, rfl, I11, T1, st11, f11, W1, ⟨m1, w1⟩, trn⟩ := h2
  refine wpAny_bind (wpAny_runOwn ?_)
  rw [Around.mark_none]
  obtain ⟨I12, d12, r12⟩ := unpin1 I11 r
  obtain ⟨o, eo, _⟩ := SetR.there r
  have loop := clause_run (Y := Y) (pins := pins ++ pl) (τ := wipe σ2 vs1) (vs := vs1) (acc := .ref D) (D := D) (R := fun r s' => match r with | .ok f => wpAny (model Y.prog Y.w) Y.A on Qf E s' | .error e => cameBackBy (model Y.prog Y.w) Y.A Y.env E e s') (turn1 elt tg iter tg1 iter1 scope pos (.ref it1) (.ref D) Y.env) rfl rfl hc hx T1
    (fun b hb H e => ⟨e, (fpOk_less (f11 b hb)).2⟩) (fun H e => fpOk_app (hD H e) nD) (fun b hb => (f11 b hb).2.2.2.2.2 (D, o) (List.mem_append_right _ (List.mem_append_right _ (mem_pinsAt (List.mem_singleton.mpr rfl) eo)))) pg1 (ran1 pe hx fun H e => fpOk_app (hD H e) nD) W1 Nx trn (fun S n H' s' I' d' r' nx => k _ S n H' s' I' d' r' (by rw [← hw, wipe_length, wipe_length]) (fun j v e => by
      rw [← hw] at e
      obtain ⟨e1, e2⟩ := wipe_some e
      rw [wipe_out fun z => e2 (hv j z)]
      exact e1) nx) (I12.weak (wipe_length _ _) fun j v e => (wipe_some e).1) st11 (fun b hb => (f11 b hb).1) d12 r12 w1
  exact start1 loop (T1.self Y.A 0 _ _ _ st11 loop)
theorem Un.aside {fs ex : List Addr} {H H' : Hp} {h h' : Heap} {D : Addr} {φ ψ : Heap → Prop} (u : Un fs ex H H' h h') (hx : D ∈ ex) (hn : H D = none) : Un fs ex (upd H D (.ext φ)) (upd H' D (.ext ψ)) h h' := by
  have lo : ∀ {b : Addr}, upd H D (.ext φ) b = none → b ≠ D ∧ H b = none := fun {b} e => by
    by_cases z : b = D
    · rw [z, upd_same] at e; cases e
    · rw [upd_ne z] at e; exact ⟨z, e⟩
  have hi : ∀ {b : Addr} {o : HO}, upd H D (.ext φ) b = some o → (∀ χ, o ≠ .ext χ) → b ≠ D ∧ H b = some o := fun {b o} e n => by
    by_cases z : b = D
    · rw [z, upd_same] at e; cases e; exact absurd rfl (n φ)
    · rw [upd_ne z] at e; exact ⟨z, e⟩
  refine ⟨fun b o e n => u.keep b o e (lo n).2, fun b o e n => u.slot b o e (lo n).2, fun b o e n x => ?_, u.there, fun b xs e => ?_, fun b o v e => ?_, fun b ps e => ?_⟩
  · rw [upd_ne (lo n).1]; exact u.free b o e (lo n).2 x
  · obtain ⟨z, q⟩ := hi e fun χ w => by cases w
    rw [upd_ne z]; exact u.tups b xs q
  · obtain ⟨z, q⟩ := hi e fun χ w => by cases w
    rw [upd_ne z]; exact u.frzs b o v q
  · obtain ⟨z, q⟩ := hi e fun χ w => by cases w
    rw [upd_ne z]; exact u.tbls b ps q
theorem HOk.aside {P : Program} {w : World} {H : Hp} {h : Heap} {D : Addr} {o : HO} (x : HOk P w H h) (hn : H D = none) (new : ObjOk P w (upd H D o) h D o) : HOk P w (upd H D o) h := fun b u e => by
  by_cases hb : b = D
  · subst hb; rw [upd_same] at e; cases e; exact new
  · rw [upd_ne hb] at e
    exact (x b u e).stay (fun c v _ q => q) (fun c q => by rw [upd_ne (ne_of_none q hn)]; exact q) fun c xs q => by rw [upd_ne (ne_of_none q hn)]; exact q
/-- the set, made in its block -/
theorem pe_sc2 {X : Cx} {elt tg iter tg1 iter1 : Expr} {scope : Scope} {own : List (Str × Nat)} {vs1 : List Nat} {pos : Pos} {wi wi1 : TI} {g g1 : TG} {te : TE} (hc : X.calm = true) (hN : X.N.Nodup) (hi : PI X tg iter wi) (ok : BlkOk X.N X.env.scope scope own) (hv : ∀ i ∈ vs1, i ∈ own.map (·.2))
    (hg : ∀ (s : Shared) (H : Hp) (C : Addr) (cl : List (Str × Addr)) (fp : List Addr), PG (X.blk s H scope (compEnvC scope cl C X.env) fp) tg g)
    (hi1 : ∀ (s : Shared) (H : Hp) (C : Addr) (cl : List (Str × Addr)) (fp : List Addr), PI (X.blk s H scope (compEnvC scope cl C X.env) fp) tg1 iter1 wi1)
    (hg1 : ∀ (s : Shared) (H : Hp) (C : Addr) (cl : List (Str × Addr)) (fp : List Addr), PG (X.blk s H scope (compEnvC scope cl C X.env) fp) tg1 g1)
    (he : ∀ (s : Shared) (H : Hp) (C : Addr) (cl : List (Str × Addr)) (fp : List Addr), PE (X.blk s H scope (compEnvC scope cl C X.env) fp) elt te)
    (hs : ∀ x, foldedSetIterable iter X.env x = pure x := by intro _; rfl) (hs1 : ∀ env x, foldedSetIterable iter1 env x = pure x := by intro _ _; rfl) :
    PE X (sc2 elt tg iter tg1 iter1 scope pos) (tSc2 X.w wi g wi1 g1 te (own.map (·.2)) vs1) := by
  refine ⟨fun pins s σ H Q I h => ?_⟩
  have free : ∀ y ∈ scope.names, y.2 = .free → ∃ c, X.env.cells.lookup y.1 = some c := fun y hy e => I.ok.has _ ((ok.free y hy e).elim .inl .inr)
  show wpAny _ X.A (comprehension (sc2 elt tg iter tg1 iter1 scope pos) scope X.env (firstIterPos [⟨tg, iter, [], 0⟩, ⟨tg1, iter1, [], 0⟩] pos) (newSet (.type "set")) false (eval iter X.env)) _ _ s
  refine wpAny_comprehension_free (use := none) rfl hs (closure_ok free) ok.kind (fun y hy e => by rw [ok.uniq y hy, e]) (thn (hi.run pins s σ H _ I h) fun xv s1 hx => thn hx fun itv s2 h2 => ?_)
  obtain ⟨it, fp, tn, J, H2, rfl, I2, T, st2, f2, W, ⟨m0, w0⟩, trn⟩ := h2
  refine PpSet.newSet_ok (newEnv_comp ?_)
  obtain ⟨D, hD⟩ : ∃ D, D = s2.heap.objs.size := ⟨_, rfl⟩
  rw [← hD]
  have dN : H2 D = none := I2.hok.fresh (Nat.le_of_eq hD.symm)
  obtain ⟨s3, h3⟩ : ∃ s3 : Shared, s3 = { s2 with heap := s2.heap.push { cls := .type "set", dict := none, data := .set #[] 0 (.fresh 0 0 (!X.w.params.followText "set-order")) } } := ⟨_, rfl⟩
  rw [← h3]
  have hp : s3.heap = s2.heap.push { cls := .type "set", dict := none, data := .set #[] 0 (.fresh 0 0 (!X.w.params.followText "set-order")) } := by rw [h3]
  have r3 : SetR X.w s3.heap D (fun _ => false) 0 := by rw [hp, hD]; exact setR_fresh X.w
  have I3 : Inv X pins σ H2 s3 := by
    rw [h3]
    exact I2.kept (t' := s2.toks) fun b o e => Heap.get?_push_of_some _ e
  have It : Inv X pins σ (upd H2 D (SetO X.w D (fun _ => false) 0)) s3 := by
    rw [h3, hD]
    exact I2.laid (t' := s2.toks) (fun b o e => Heap.get?_push_of_some _ e) (Nat.le_refl _) (setO_new (setR_fresh X.w))
  have fD : FpOk X pins H2 D := I2.fpOk (Nat.le_of_eq hD.symm) dN
  have nfD : ∀ b ∈ fp, D ≠ b := fun b hb z => by
    obtain ⟨o, e, _⟩ := T.obj _ _ st2 b hb
    have lt := Heap.lt_size e
    rw [← z, hD] at lt
    exact Nat.lt_irrefl _ lt
  have f3 : ∀ b ∈ D :: fp, FpOk X pins H2 b ∧ b < s3.heap.objs.size := fun b hb => by
    rcases List.mem_cons.mp hb with rfl | hb
    · exact ⟨fD, by rw [hp, Heap.size_push, hD]; exact Nat.lt_succ_self _⟩
    · obtain ⟨o, e, _⟩ := T.obj _ _ st2 b hb
      exact ⟨f2 b hb, by rw [hp, Heap.size_push]; exact Nat.lt_succ_of_lt (Heap.lt_size e)⟩
  have I4 := block_start I3 ok hN f3
  obtain ⟨ce, hce⟩ : ∃ ce, ce = compEnvC scope (cellsFrom (s3.heap.objs.size + 1) scope.names (cloFrom X.env.cells scope.names [])) s3.heap.objs.size X.env := ⟨_, rfl⟩
  obtain ⟨s4, h4⟩ : ∃ s4 : Shared, s4 = { s3 with heap := pushCells (s3.heap.push { cls := .type "dict", data := .dict #[] }) scope.names } := ⟨_, rfl⟩
  have cL : ce.locals = s3.heap.objs.size := by rw [hce]; rfl
  have up : ∀ b o, s3.heap.get? b = some o → s4.heap.get? b = some o := fun b o e => by
    rw [h4]
    exact pushCells_keeps _ _ _ _ (Heap.get?_push_of_some _ e)
  have st4 : tn 0 s4.heap := T.keep _ _ _ st2 fun b _ o e => up b o (by rw [hp]; exact Heap.get?_push_of_some _ e)
  have kg := hg s3 H2 s3.heap.objs.size (cellsFrom (s3.heap.objs.size + 1) scope.names (cloFrom X.env.cells scope.names [])) (D :: fp)
  have kg1 := hg1 s3 H2 s3.heap.objs.size (cellsFrom (s3.heap.objs.size + 1) scope.names (cloFrom X.env.cells scope.names [])) (D :: fp)
  have ki1 := hi1 s3 H2 s3.heap.objs.size (cellsFrom (s3.heap.objs.size + 1) scope.names (cloFrom X.env.cells scope.names [])) (D :: fp)
  have ke := he s3 H2 s3.heap.objs.size (cellsFrom (s3.heap.objs.size + 1) scope.names (cloFrom X.env.cells scope.names [])) (D :: fp)
  rw [← hce] at kg kg1 ki1 ke I4
  rw [← h4] at I4
  have fall : ∀ b ∈ D :: fp, ∀ H' : Hp, H' b = none → FpOk (X.blk s3 H2 scope ce (D :: fp)) [] H' b := fun b hb H' e =>
    ⟨e, (I4.ok.exf b hb).1, I4.ok.exfs b hb, .inl hb, fun x c z => (I4.ok.exf b hb).2 x c z, fun p hp' => absurd (show p ∈ ([] : List (Addr × Obj)) ++ [] from hp') (by simp)⟩
  have loop := clause_run (Y := X.blk s3 H2 scope ce (D :: fp)) (pins := []) (τ := wipe σ (own.map (·.2))) (vs := own.map (·.2)) (acc := .ref D) (D := D) (R := compPost (model X.prog X.w) X.A X.xe none (EP X pins σ Q) (.ref D) s3.heap.objs.size) (turn0 elt tg iter tg1 iter1 scope pos (.ref it) (.ref D) ce) rfl rfl hc rfl T
    (fun b hb => fall b (List.mem_cons_of_mem _ hb)) (fall D List.mem_cons_self) nfD kg (ran0 ki1 kg1 ke hc rfl (hs1 ce) hv (fall D List.mem_cons_self)) W (fun S n H' => ∀ D, H' D = none → Q (.ref D) (upd H' D (SetO X.w D S n))) trn (fun S n H' s' I' d' r' qq => by
      have I5 : Inv X pins σ (upd H' D (SetO X.w D S n)) s' := It.call' (ch := D :: fp) I'.os (Un.aside I'.base List.mem_cons_self dN) (HOk.aside I'.hok d' (setO_new r')) I'.bare fun b hb => ⟨(f3 b hb).1.2.2.2.1, (f3 b hb).1.2.1, (f3 b hb).1.2.2.2.2.1, (f3 b hb).1.2.2.2.2.2⟩
      have nC : H' s3.heap.objs.size = none := by rw [← cL]; exact I'.free
      have nCD : s3.heap.objs.size ≠ D := fun z => by
        have := (f3 D List.mem_cons_self).2
        rw [z] at this
        exact Nat.lt_irrefl _ this
      obtain ⟨m, hn, _⟩ := I'.loc
      have hn : s'.heap.Ns ce.locals m := hn
      rw [cL] at hn
      obtain ⟨f0, f1, f2, f3, f4, f5⟩ := I3.fpOk (H' := H') (Nat.le_refl _) nC
      exact ⟨m, hn, fun h'' sb => ⟨.ref D, _, I5.turned (t' := s'.toks) (fun b o hb e => (sb.2 b hb).trans e) (by rw [upd_ne nCD]; exact f0) f1 f3 f4 f5, rfl, qq D d'⟩⟩) I4 st4 (fun b hb => (f2 b hb).1) dN (r3.at (up D)) w0
  have st := PpSet.codeAny_compStart_set (prog := X.prog) (w := X.w) (A := X.A) loop (T.self X.A 0 _ _ _ st4 loop)
  rw [hce, h4] at st
  exact st
end DL

namespace DL
open PySem L2
variable [Tabs]
/-! ### tuple(sorted({e for x in a for y in b})), e an int -/
section
variable {σ : L2.St} {ρ ρ' ρ1 : En}
theorem wipe_sub {vs1 vs : List Nat} (h : ∀ i ∈ vs1, i ∈ vs) : wipe (wipe σ vs1) vs = wipe σ vs := by
  refine List.ext_getElem? fun j => ?_
  rw [wipe_get, wipe_get, wipe_get, wipe_length]
  by_cases hm : j ∈ vs ∧ j < σ.length
  · rw [if_pos hm, if_pos hm]
  · rw [if_neg hm, if_neg hm, if_neg fun z => hm ⟨h j z.1, z.2⟩]
theorem wipeE_sub {vs1 vs : List Nat} (h : ∀ i ∈ vs1, i ∈ vs) : wipeE (wipeE ρ vs1) vs = wipeE ρ vs := by
  refine List.ext_getElem? fun j => ?_
  rw [wipeE_get, wipeE_get, wipeE_get, wipeE_len]
  by_cases hm : j ∈ vs ∧ j < ρ.length
  · rw [if_pos hm, if_pos hm]
  · rw [if_neg hm, if_neg hm, if_neg fun z => hm ⟨h j z.1, z.2⟩]
theorem wipeE_set {i : Nat} {x : Sl} {vs : List Nat} (h : i ∈ vs) : wipeE (ρ.set i x) vs = wipeE ρ vs := by
  refine List.ext_getElem? fun j => ?_
  rw [wipeE_get, wipeE_get, List.length_set]
  by_cases hm : j ∈ vs ∧ j < ρ.length
  · rw [if_pos hm, if_pos hm]
  · rw [if_neg hm, if_neg hm]
    by_cases e : i = j
    · subst e
      have hl : ¬ i < ρ.length := fun z => hm ⟨h, z⟩
      rw [List.getElem?_eq_none (by rw [List.length_set]; omega), List.getElem?_eq_none (by omega)]
    · rw [List.getElem?_set_ne e]
theorem setTs_wipeE {vs : List Nat} : ∀ {is : List Nat} {ds : List D} {f : Fr} {ρ ρ' : En}, (∀ i ∈ is, i ∈ vs) → setTs is ds f ρ = some ρ' → wipeE ρ' vs = wipeE ρ vs
  | [], [], _, _, _, _, e => by cases e; rfl
  | i :: is, d :: ds, f, ρ, ρ', h, e => by
    unfold setTs at e
    by_cases hi : i < ρ.length
    · rw [if_pos hi] at e
      rw [setTs_wipeE (fun j hj => h j (List.mem_cons_of_mem _ hj)) e, wipeE_set (h i List.mem_cons_self)]
    · rw [if_neg hi] at e; cases e
  | [], _ :: _, _, _, _, _, e => by cases e
  | _ :: _, [], _, _, _, _, e => by cases e
theorem setT_wipeE {vs : List Nat} {g : Tgt} {d : D} {f : Fr} (h : ∀ i ∈ g.ixs, i ∈ vs) (e : setT g d f ρ = some ρ') : wipeE ρ' vs = wipeE ρ vs := by
  cases g with
  | one i =>
    replace e : (if i < ρ.length then some (ρ.set i (.val d f)) else none) = some ρ' := e
    by_cases hi : i < ρ.length
    · rw [if_pos hi] at e
      cases e
      exact wipeE_set (h i (by simp [Tgt.ixs]))
    · rw [if_neg hi] at e; cases e
  | tup is =>
    cases d with
    | tup ds => exact setTs_wipeE h e
    | tk ks => exact setTs_wipeE (ds := ks.map kD) h e
    | _ => cases e
theorem merge_wipe {vs : List Nat} (h : ∀ i ∈ vs, i < ρ.length) : mergeE ρ (wipeE ρ vs) vs = ρ := by
  refine List.ext_getElem? fun j => ?_
  rw [mergeE_get, wipeE_len]
  by_cases hm : j ∈ vs ∧ j < ρ.length
  · rw [if_pos hm, List.getD_eq_getElem?_getD, List.getElem?_eq_getElem hm.2]; rfl
  · rw [if_neg hm, wipeE_get, if_neg hm]
end
abbrev kNt (n : Nat) : Key := .inl (n : Int)
/-- F: what an item of the outer clause gives -/
def dTss (it0 : TID) (g0 : Tgt) (it1 : TID) (g1 : Tgt) (te : TD) (vs vs1 : List Nat) : TD := fun ρ Q => it0 ρ fun ds f0 ρ1 => slotsOk ρ1 vs = true ∧ ∃ F : D → List Nat,
  (∀ d ∈ ds, ∃ ρ3, setT g0 d f0 (wipeE ρ1 vs) = some ρ3 ∧ it1 ρ3 fun ds1 f1 ρ4 => ρ4 = ρ3 ∧ ∃ e : D → Nat, F d = ds1.map e ∧ ∀ d1 ∈ ds1, ∃ ρ5, setT g1 d1 f1 (wipeE ρ3 vs1) = some ρ5 ∧ te ρ5 fun r ρ6 => ρ6 = ρ5 ∧ (ob ρ6 r).d = .int (e d1 : Nat)) ∧
  (∀ k ∈ ds.flatMap F, k < 4000) ∧ ∀ ns : List Nat, ns.Pairwise (· < ·) → (∀ k, k ∈ ns ↔ k ∈ ds.flatMap F) → Q (.v (.tk (ns.map kNt)) .z) ρ1
theorem natsOf {ms : List Int} {L : List Nat} (hs : ms.Pairwise (· < ·)) (hm : ∀ k : Int, k ∈ ms ↔ k ∈ L.map Int.ofNat) : ∃ ns : List Nat, ms = ns.map Int.ofNat ∧ ns.Pairwise (· < ·) ∧ ∀ k, k ∈ ns ↔ k ∈ L := by
  have e : ms = (ms.map Int.toNat).map Int.ofNat := by
    rw [List.map_map]
    refine (List.map_id ms).symm.trans (List.map_congr_left fun x hx => ?_)
    obtain ⟨n, _, rfl⟩ := List.mem_map.mp ((hm x).mp hx)
    rfl
  refine ⟨ms.map Int.toNat, e, ?_, fun k => ?_⟩
  · rw [e, List.pairwise_map] at hs
    exact hs.imp fun h => by
      have h : (Int.ofNat _) < Int.ofNat _ := h
      exact Int.ofNat_lt.mp h
  · have := hm (Int.ofNat k)
    rw [e, List.mem_map] at this
    constructor
    · intro hk
      obtain ⟨x, hx, ex⟩ := List.mem_map.mp (this.mp ⟨k, hk, rfl⟩)
      exact (Int.ofNat.inj ex) ▸ hx
    · intro hk
      obtain ⟨x, hx, ex⟩ := this.mpr (List.mem_map.mpr ⟨k, hk, rfl⟩)
      exact (Int.ofNat.inj ex) ▸ hx
theorem DI.alls {ι : Type} {X : ι → Cx} {K : PySem.W.Frag} {tg iter : Expr} {t : TID} (h : ∀ i, ∃ wi, PI (X i) tg iter wi ∧ EvI K wi t) : ∃ wi, (∀ i, PI (X i) tg iter wi) ∧ ((∃ _ : ι, True) → EvI K wi t) :=
  ⟨fun σ H R => ∀ i, Classical.choose (h i) σ H R, fun i => ⟨fun pins s σ H R I q => (Classical.choose_spec (h i)).1.run pins s σ H R I (q i)⟩, fun _ B σ H ρ Q Q' k q fin i => (Classical.choose_spec (h i)).2 B σ H ρ Q Q' k q fin⟩
/-- a turn's start -/
structure TsAt (K : PySem.W.Frag) (B : Bx) (M : Addr → Prop) (H1 : Hp) (τ : L2.St) (ρw : En) (H : Hp) : Prop where
  ok : Ok K B H τ ρw
  kp : Keep (fun a => ¬ M a) H1 H
  dm : ∀ a, H1 a ≠ none → H a ≠ none
def setSt (L : List Nat) (S : Int → Bool) (n : Nat) : Prop := S = (fun j => decide (j ∈ L.map Int.ofNat)) ∧ ∃ U : List Nat, U.Nodup ∧ U.length = n ∧ ∀ k, k ∈ U ↔ k ∈ L
theorem few_leD : ∀ (l S : List Nat), l.Nodup → (∀ x ∈ l, x ∈ S) → l.length ≤ S.length
  | [], _, _, _ => Nat.zero_le _
  | x :: l, S, h, hs => by
    have hx := hs x (by simp)
    obtain ⟨h1, h2⟩ := List.nodup_cons.mp h
    have := few_leD l (S.erase x) h2 fun y hy => (List.mem_erase_of_ne (show y ≠ x from fun z => h1 (by rw [← z]; exact hy))).mpr (hs y (by simp [hy]))
    have : 0 < S.length := List.length_pos_of_mem hx
    rw [List.length_erase_of_mem hx] at *
    rw [List.length_cons]
    omega
theorem setSt_few {L : List Nat} {S : Int → Bool} {n N : Nat} (h : setSt L S n) (hN : ∀ k ∈ L, k < N) : n ≤ N := by
  obtain ⟨_, U, h1, rfl, h3⟩ := h
  have := few_leD U (List.range N) h1 fun x hx => List.mem_range.mpr (hN x ((h3 x).mp hx))
  rwa [List.length_range] at this
theorem setSt_add {L : List Nat} {S : Int → Bool} {n k : Nat} (h : setSt L S n) : setSt (L ++ [k]) (fun j => S j || decide (j = (k : Int))) (if S (k : Int) = true then n else n + 1) := by
  obtain ⟨rfl, hl⟩ := h
  refine ⟨?_, ?_⟩
  · funext j
    rw [List.map_append, ← Bool.decide_or]
    simp
  · obtain ⟨U, h1, h2, h3⟩ := hl
    by_cases hk : k ∈ L
    · rw [if_pos (by rw [decide_eq_true_eq]; exact List.mem_map.mpr ⟨k, hk, rfl⟩)]
      refine ⟨U, h1, h2, fun x => ?_⟩
      rw [h3, List.mem_append, List.mem_singleton]
      exact ⟨.inl, fun z => z.elim id fun e => e ▸ hk⟩
    · rw [if_neg (by
        rw [decide_eq_true_eq]
        intro z
        obtain ⟨y, hy, e⟩ := List.mem_map.mp z
        have : y = k := by have : (y : Int) = (k : Int) := e; omega
        exact hk (this ▸ hy))]
      refine ⟨k :: U, List.nodup_cons.mpr ⟨fun z => hk ((h3 k).mp z), h1⟩, by rw [List.length_cons, h2], fun x => ?_⟩
      rw [List.mem_cons, h3, List.mem_append, List.mem_singleton]
      exact ⟨fun z => z.elim .inr .inl, fun z => z.elim .inr .inl⟩
theorem take_snoc {α : Type} {l : List α} {i : Nat} {x : α} (h : l[i]? = some x) : l.take (i + 1) = l.take i ++ [x] := by rw [List.take_add_one, h]; rfl
theorem flat_le {α : Type} {F : α → List Nat} (ds : List α) (i : Nat) : ((ds.take i).flatMap F).length ≤ (ds.flatMap F).length := by
  conv => rhs; rw [← List.take_append_drop i ds, List.flatMap_append, List.length_append]
  omega
theorem ev_sc2 {K : PySem.W.Frag} {w : World} {wi wi1 : TI} {it0 it1 : TID} {g0 g1 : Tgt} {te : TE} {d : TD} {vs vs1 : List Nat} (hi : EvI K wi it0) (hi1 : EvI K wi1 it1) (he : Ev1 K te d) (h0 : ∀ i ∈ g0.ixs, i ∈ vs) (h1 : ∀ i ∈ g1.ixs, i ∈ vs1) (hv : ∀ i ∈ vs1, i ∈ vs) (B : Bx) (σ : L2.St) (H : Hp) (ρ : En) (Q : Rv → En → Prop) (Q' : VK) (k : Ok K B H σ ρ)
    (q : dTss it0 g0 it1 g1 d vs vs1 ρ Q)
    (fin : ∀ (H' : Hp) (ρ' : En) (L : List Nat) (S : Int → Bool) (n : Nat) (D : Addr), Ok K B H' σ ρ' → Stp σ H ρ H' ρ' → Kn ρ ρ' → setSt L S n → H' D = none → (∀ ns : List Nat, ns.Pairwise (· < ·) → (∀ k, k ∈ ns ↔ k ∈ L) → Q (.v (.tk (ns.map kNt)) .z) ρ') → Q' (.ref D) (upd H' D (SetO w D S n))) : tSc2 w wi (gOf K g0) wi1 (gOf K g1) te vs vs1 σ H Q' :=
  hi B σ H ρ _ _ k q fun J H1 ds f0 ρ1 k1 s1 n1 dj ⟨hso, F, hF, hlen, hQ⟩ => by
    have hlt : ∀ i ∈ vs, i < ρ1.length := fun i hm => by
      have := List.all_eq_true.mp hso i hm
      rw [Bool.and_eq_true] at this
      simpa using this.2
    have hvm : ∀ i ∈ vs, ∀ s : Sl, ρ1[i]? = some s → s.isM = false := fun i hm s e => by
      have := List.all_eq_true.mp hso i hm
      rw [Bool.and_eq_true] at this
      have t := this.1
      rw [List.getD_eq_getElem?_getD, e] at t
      simpa using t
    obtain ⟨w1, w2⟩ := k1.wipe vs
    refine ⟨fun i m S n H2 => m = ds.length - i ∧ i ≤ ds.length ∧ setSt ((ds.take i).flatMap F) S n ∧ TsAt K B (mset σ ρ1) H1 (wipe σ vs) (wipeE ρ1 vs) H2, ⟨ds.length, by simp, Nat.zero_le _, ⟨by simp, [], List.nodup_nil, rfl, by simp⟩, w1, Keep.refl, fun _ h => h⟩, ?_⟩
    rintro i m S n H2 ⟨rfl, hil, hS, L⟩
    obtain ⟨d1, d2⟩ := dj H2 L.kp i
    by_cases hlt' : i < ds.length
    · obtain ⟨jg, jy⟩ := d1 hlt'
      refine .inr ⟨jg, fun S' n' H' => setSt ((ds.take (i + 1)).flatMap F) S' n' ∧ TsAt K B (mset σ ρ1) H1 (wipe σ vs) (wipeE ρ1 vs) H', fun S' n' H' w => ⟨ds.length - (i + 1), by omega, rfl, hlt', w⟩, fun x H3 y => ?_⟩
      obtain ⟨al, dd, ed, rd⟩ := jy x H3 y
      obtain ⟨ρ3, e3, q3⟩ := hF dd (List.mem_of_getElem? ed)
      have rd' : R K (GF B (mset (wipe σ vs) (wipeE ρ1 vs)) H f0) H3 dd x := rd.mono Keep.refl fun a ha ⟨g, _⟩ => ⟨fun z => g.1 (w2 a z), g.2⟩
      refine setT_w h0 (L.ok.all al) rd' e3 fun σ4 k4 sub4 w4 => ?_
      rw [wipe_wipe] at w4
      refine ⟨w4, hi1 B σ4 H3 ρ3 _ _ k4 q3 fun J1 H4 ds1 f1 ρ4 k5 s5 n5 dj1 ⟨eρ, e, eF, hE⟩ => ?_⟩
      subst eρ
      obtain ⟨u1, u2⟩ := k5.wipe vs1
      have esum : (ds.take (i + 1)).flatMap F = (ds.take i).flatMap F ++ ds1.map e := by rw [take_snoc ed, List.flatMap_append, List.flatMap_singleton, eF]
      refine ⟨fun j m S n H5 => m = ds1.length - j ∧ j ≤ ds1.length ∧ setSt ((ds.take i).flatMap F ++ (ds1.take j).map e) S n ∧ TsAt K B (mset σ4 ρ4) H4 (wipe σ4 vs1) (wipeE ρ4 vs1) H5, ⟨ds1.length, by simp, Nat.zero_le _, by simpa using hS, u1, Keep.refl, fun _ h => h⟩, ?_⟩
      rintro j m S n H5 ⟨rfl, hjl, hS1, L1⟩
      obtain ⟨d3, d4⟩ := dj1 H5 L1.kp j
      by_cases hj : j < ds1.length
      · obtain ⟨jg1, jy1⟩ := d3 hj
        refine .inr ⟨jg1, fun S' n' H' => setSt ((ds.take i).flatMap F ++ (ds1.take (j + 1)).map e) S' n' ∧ TsAt K B (mset σ4 ρ4) H4 (wipe σ4 vs1) (wipeE ρ4 vs1) H', fun S' n' H' w => ⟨ds1.length - (j + 1), by omega, rfl, hj, w⟩, fun x1 H6 y1 => ?_⟩
        obtain ⟨al6, dd1, ed1, rd1⟩ := jy1 x1 H6 y1
        obtain ⟨ρ5, e5, q5⟩ := hE dd1 (List.mem_of_getElem? ed1)
        have rd1' : R K (GF B (mset (wipe σ4 vs1) (wipeE ρ4 vs1)) H3 f1) H6 dd1 x1 := rd1.mono Keep.refl fun a ha ⟨g, _⟩ => ⟨fun z => g.1 (u2 a z), g.2⟩
        refine setT_w h1 (L1.ok.all al6) rd1' e5 fun σ7 k7 sub7 w7 => ?_
        rw [wipe_wipe] at w7
        refine ⟨w7, he B σ7 H6 ρ5 _ _ k7 q5 fun v H7 r ρ6 k8 s8 n8 e8 ⟨eρ6, er⟩ => ?_⟩
        subst eρ6
        have ro := obR k8 k7.dom e8
        rw [er] at ro
        obtain rfl := ro.int
        have hb : n + 1 ≤ 4001 := by
          have := setSt_few hS1 (N := 4000) fun x hx => by
            refine hlen x ?_
            rw [← List.take_append_drop (i + 1) ds, List.flatMap_append, esum]
            refine List.mem_append_left _ ?_
            rcases List.mem_append.mp hx with hx | hx
            · exact List.mem_append_left _ hx
            · obtain ⟨y, hy, rfl⟩ := List.mem_map.mp hx
              exact List.mem_append_right _ (List.mem_map.mpr ⟨y, List.mem_of_mem_take hy, rfl⟩)
          omega
        refine ⟨_, rfl, Nat.lt_of_le_of_lt hb (by decide), ?_, ?_⟩
        · rw [take_snoc ed1, List.map_append, ← List.append_assoc]
          exact setSt_add hS1
        · obtain ⟨v1, v2⟩ := k8.wipe vs1
          rw [w7, setT_wipeE h1 e5, wipeE_sub fun _ h => h] at v1
          refine ⟨v1, fun a o h g => @fun nt => s8.keep a o (al6 a o (L1.kp a o h g)) (g.imp (fun z w => z (u2 a (sub7 a w))) id), fun a h => s8.dom a (al6.dom (L1.dm a h))⟩
      · have hj : j = ds1.length := by omega
        subst hj
        refine .inl ⟨d4 (Nat.le_refl _), ?_, ?_⟩
        · rw [esum]
          rw [List.take_length] at hS1
          exact hS1
        · obtain ⟨v1, v2⟩ := L1.ok.wipe vs
          rw [wipe_sub hv, wipeE_sub hv, w4, setT_wipeE h0 e3, wipeE_sub fun _ h => h] at v1
          refine ⟨v1, fun a o h g => @fun nt => L1.kp a o (s5.keep a o (al a o (L.kp a o h g)) ?_) ?_, fun a h => L1.dm a (s5.dom a (al.dom (L.dm a h)))⟩
          · exact g.imp (fun z w => z (w2 a (sub4 a w))) id
          · exact g.imp (fun z w => z (w2 a (sub4 a w))) id
    · have e : i = ds.length := by omega
      subst e
      refine .inl ⟨d2 (Nat.le_refl _), fun D hD => ?_⟩
      rw [List.take_length] at hS
      obtain ⟨m1, m2⟩ := k1.merge (B := B) (B1 := B) rfl (fun a _ g => g) hvm L.ok L.kp w2
      rw [merge_wipe hlt] at m1
      exact fin H2 ρ1 _ S n D m1 (s1.trans ⟨L.kp, L.dm, fun _ z => z⟩) n1 hS hD hQ
theorem de_tss {X : Cx} {elt tg iter tg1 iter1 : Expr} {scope : Scope} {own : List (Str × Nat)} {vs1 : List Nat} {g0 g1 : Tgt} {it0 it1 : TID} {d : TD} {p1 p2 pos q1 q2 : Pos} (m_tuple : X.mg "tuple" = none) (m_sorted : X.mg "sorted" = none) (hc : X.calm = true) (hN : X.N.Nodup) (hi : DI X tg iter it0) (ok : BlkOk X.N X.env.scope scope own) (hix0 : ∀ i ∈ g0.ixs, i ∈ own.map (·.2)) (hix1 : ∀ i ∈ g1.ixs, i ∈ vs1) (hv : ∀ i ∈ vs1, i ∈ own.map (·.2))
    (hg : ∀ i, DG (bk X scope i) tg g0) (hi1 : ∀ i, DI (bk X scope i) tg1 iter1 it1) (hg1 : ∀ i, DG (bk X scope i) tg1 g1) (he : ∀ i, DE (bk X scope i) elt d)
    (gt : Gl X "tuple" := by rfl) (gs : Gl X "sorted" := by rfl)
    (hs : ∀ x, foldedSetIterable iter X.env x = pure x := by intro _; rfl) (hs1 : ∀ env x, foldedSetIterable iter1 env x = pure x := by intro _ _; rfl)
    (e1 : starEach [sc2 elt tg iter tg1 iter1 scope pos] X.env = (false, eval (sc2 elt tg iter tg1 iter1 scope pos) X.env) :: starEach [] X.env := by rfl)
    (e2 : starEach [.Call (.Name "sorted" p2) [sc2 elt tg iter tg1 iter1 scope pos] [] q2] X.env = (false, eval (.Call (.Name "sorted" p2) [sc2 elt tg iter tg1 iter1 scope pos] [] q2) X.env) :: starEach [] X.env := by rfl)
    (e3 : (backTo q2 (starEach [] X.env)).any (·.1) = false := by rfl) (e4 : (backTo q1 (starEach [] X.env)).any (·.1) = false := by rfl) :
    DE X (.Call (.Name "tuple" p1) [.Call (.Name "sorted" p2) [sc2 elt tg iter tg1 iter1 scope pos] [] q2] [] q1) (dTss it0 g0 it1 g1 d (own.map (·.2)) vs1) := by
  obtain ⟨wi, pi, ei⟩ := hi
  obtain ⟨te, p1', e1'⟩ := DE.alls (X := bk X scope) (K := X.K) he
  obtain ⟨wi1, pi1, ei1⟩ := DI.alls (X := bk X scope) (K := X.K) hi1
  have w : ∃ _ : Bk, True := ⟨⟨X.s_0, fun _ => none, 0, [], []⟩, True.intro⟩
  have ps := pe_sc2 (g := gOf X.K g0) (g1 := gOf X.K g1) (pos := pos) hc hN pi ok hv (fun s H C cl fp => hg ⟨s, H, C, cl, fp⟩) (fun s H C cl fp => pi1 ⟨s, H, C, cl, fp⟩) (fun s H C cl fp => hg1 ⟨s, H, C, cl, fp⟩) (fun s H C cl fp => p1' ⟨s, H, C, cl, fp⟩) hs hs1
  have pso := pe_callB (cr_sortedW (X := X) hc) gs m_sorted (p := p2) (pos := q2) (by decide +kernel) (pa_cons ps pa_nil e1) (by decide) (by decide) e1 e3
  refine ⟨_, pe_callTy (call_tuple_of (X := X)) gt m_tuple (by decide +kernel) (pa_cons pso pa_nil e2) (by decide) (by decide) e2 e4, fun B σ H ρ Q Q' k q fin => ?_⟩
  unfold tCB
  unfold tCons
  dsimp only
  refine ev_sc2 (w := X.w) ei (ei1 w) (e1' w) hix0 hix1 hv B σ H ρ Q _ k q fun H' ρ' L S n D ok' st kn hS hD hQ => ?_
  obtain ⟨rfl, hn⟩ := hS
  refine ⟨D, _, n, rfl, upd_same, fun ms p hs hm hp => ?_⟩
  obtain ⟨ns, rfl, hp1, hm1⟩ := natsOf (L := L) hs fun k => by rw [hm]; simp
  refine ⟨p, (ns.map Int.ofNat).map V.int, rfl, .inl ⟨SqL.of upd_same, fun l hl => ?_⟩⟩
  have A1 : All H' (upd H' D (SetO X.w D (fun j => decide (j ∈ L.map Int.ofNat)) n)) := All.new hD
  have A2 := All.new (o := .lst ((ns.map Int.ofNat).map V.int)) hp
  have A3 := All.new (o := .tup ((ns.map Int.ofNat).map V.int)) hl
  refine fin (.ref l) _ (.v (.tk (ns.map kNt)) .z) ρ' (((ok'.all A1).all A2).all A3) (((st.trans A1.step).trans A2.step).trans A3.step) kn ?_ (hQ ns hp1 hm1)
  show R X.K (GF B (mset σ ρ') H .z) _ (.tk (ns.map kNt)) (.ref l)
  unfold R
  refine ⟨l, rfl, ?_⟩
  rw [upd_same, List.map_map, List.map_map]; rfl
end DL

namespace DL
open PySem L2
variable [Tabs]
/-! ### for i, x in enumerate(xs) -/
def enD (xs : List D) : List D := xs.mapIdx fun i x => .tup [.int (i : Nat), x]
def dItE (t : TL) : TID := fun ρ Q => t ρ fun rs ρ1 => match stos rs with
  | some ([.lst xs], f) => Q (enD xs) f ρ1
  | _ => False
section
variable {K : PySem.W.Frag}
theorem ev_itE {ta : TA} {t : TL} (h : EvL K ta t) : EvI K (iEnum K ta) (dItE t) := fun B σ H ρ Q R' k q fin =>
  h B σ H ρ _ _ k q fun vs H1 rs ρ1 k1 s1 n1 e1 q1 => by
    have q1 : (match stos rs with | some ([.lst xs], f) => Q (enD xs) f ρ1 | _ => False) := q1
    split at q1
    · rename_i xs f es
      have r := RgL.sto e1 es
      unfold Rs at r
      obtain ⟨u1, r1, rfl, ra, r⟩ := r
      unfold Rs at r
      subst r
      obtain ⟨a, us, rfl, sa, rx⟩ := lst_at ra
      refine ⟨a, us, rfl, sa _ Keep.refl, fin _ H1 _ f ρ1 k1 s1 n1 (fun H2 kp i => ?_) q1⟩
      have hl : (enD xs).length = xs.length := by unfold enD; rw [List.length_mapIdx]
      refine ⟨fun hi => ?_, fun hi => ⟨us, sa H2 kp, by rw [← rx.len, ← hl]; exact hi⟩⟩
      rw [hl] at hi
      obtain ⟨u, eu, ru⟩ := (rx.later kp).get (List.getElem?_eq_getElem hi)
      refine ⟨⟨us, u, sa H2 kp, eu⟩, fun x H' ⟨T, y, e, hT, eH, g⟩ => ?_⟩
      have ey := g us (sa H2 kp)
      rw [eu] at ey
      cases ey
      subst e eH
      refine ⟨All.new hT, .tup [.int (i : Nat), xs[i]], ?_, ?_⟩
      · unfold enD
        rw [List.getElem?_mapIdx, List.getElem?_eq_getElem hi]; rfl
      · unfold R
        exact ⟨T, [.int (i : Nat), u], rfl, SqT.of upd_same, .cons (by unfold R; rfl) (.cons (ru.all (All.new hT)) .nil)⟩
    · exact q1.elim
end
theorem di_enum {X : Cx} {e : Expr} {t : TL} {p pos tpos : Pos} {elts : List Expr} {kk : Nat} (hm : X.mg "enumerate" = none) (ha : DA X [e] t) (hg : Gl X "enumerate" := by rfl) (hs : starEach [e] X.env = [(false, eval e X.env)] := by rfl) : DI X (.Tuple elts kk tpos) (.Call (.Name "enumerate" p) [e] [] pos) (dItE t) :=
  let ⟨_, pa, ev⟩ := ha; ⟨_, pi_enum hg hm pa hs, ev_itE ev⟩
end DL

namespace DL
open PySem L2
variable [Tabs]
/-! ### sorted({e for x in a for y in b}), e an int -/
theorem kNt_inj : ∀ {a b : List Nat}, a.map kNt = b.map kNt → a = b
  | [], [], _ => rfl
  | [], _ :: _, e => by simp at e
  | _ :: _, [], e => by simp at e
  | x :: a, y :: b, e => by
    rw [List.map_cons, List.map_cons] at e
    injection e with e1 e2
    have : (x : Int) = (y : Int) := Sum.inl.inj e1
    rw [kNt_inj e2, show x = y by omega]
abbrev intD (n : Nat) : D := .int (n : Int)
def dSs (it0 : TID) (g0 : Tgt) (it1 : TID) (g1 : Tgt) (te : TD) (vs vs1 : List Nat) : TD := fun ρ Q => dTss it0 g0 it1 g1 te vs vs1 ρ fun r ρ1 => ∀ ns : List Nat, r = .v (.tk (ns.map kNt)) .z → Q (.nl (ns.map intD) .z) ρ1
theorem de_ss {X : Cx} {elt tg iter tg1 iter1 : Expr} {scope : Scope} {own : List (Str × Nat)} {vs1 : List Nat} {g0 g1 : Tgt} {it0 it1 : TID} {d : TD} {p2 pos q2 : Pos} (m_sorted : X.mg "sorted" = none) (hc : X.calm = true) (hN : X.N.Nodup) (hi : DI X tg iter it0) (ok : BlkOk X.N X.env.scope scope own) (hix0 : ∀ i ∈ g0.ixs, i ∈ own.map (·.2)) (hix1 : ∀ i ∈ g1.ixs, i ∈ vs1) (hv : ∀ i ∈ vs1, i ∈ own.map (·.2))
    (hg : ∀ i, DG (bk X scope i) tg g0) (hi1 : ∀ i, DI (bk X scope i) tg1 iter1 it1) (hg1 : ∀ i, DG (bk X scope i) tg1 g1) (he : ∀ i, DE (bk X scope i) elt d) (gs : Gl X "sorted" := by rfl)
    (hs : ∀ x, foldedSetIterable iter X.env x = pure x := by intro _; rfl) (hs1 : ∀ env x, foldedSetIterable iter1 env x = pure x := by intro _ _; rfl)
    (e1 : starEach [sc2 elt tg iter tg1 iter1 scope pos] X.env = (false, eval (sc2 elt tg iter tg1 iter1 scope pos) X.env) :: starEach [] X.env := by rfl) (e3 : (backTo q2 (starEach [] X.env)).any (·.1) = false := by rfl) :
    DE X (.Call (.Name "sorted" p2) [sc2 elt tg iter tg1 iter1 scope pos] [] q2) (dSs it0 g0 it1 g1 d (own.map (·.2)) vs1) := by
  obtain ⟨wi, pi, ei⟩ := hi
  obtain ⟨te, p1', e1'⟩ := DE.alls (X := bk X scope) (K := X.K) he
  obtain ⟨wi1, pi1, ei1⟩ := DI.alls (X := bk X scope) (K := X.K) hi1
  have w : ∃ _ : Bk, True := ⟨⟨X.s_0, fun _ => none, 0, [], []⟩, True.intro⟩
  have ps := pe_sc2 (g := gOf X.K g0) (g1 := gOf X.K g1) (pos := pos) hc hN pi ok hv (fun s H C cl fp => hg ⟨s, H, C, cl, fp⟩) (fun s H C cl fp => pi1 ⟨s, H, C, cl, fp⟩) (fun s H C cl fp => hg1 ⟨s, H, C, cl, fp⟩) (fun s H C cl fp => p1' ⟨s, H, C, cl, fp⟩) hs hs1
  refine ⟨_, pe_callB (cr_sortedW (X := X) hc) gs m_sorted (p := p2) (pos := q2) (by decide +kernel) (pa_cons ps pa_nil e1) (by decide) (by decide) e1 e3, fun B σ H ρ Q Q' k q fin => ?_⟩
  unfold tCB
  unfold tCons
  dsimp only
  refine ev_sc2 (w := X.w) ei (ei1 w) (e1' w) hix0 hix1 hv B σ H ρ _ _ k q fun H' ρ' L S n D ok' st kn hS hD hQ => ?_
  obtain ⟨rfl, hn⟩ := hS
  refine ⟨D, _, n, rfl, upd_same, fun ms p hs hm hp => ?_⟩
  obtain ⟨ns, rfl, hp1, hm1⟩ := natsOf (L := L) hs fun k => by rw [hm]; simp
  have A1 : All H' (upd H' D (SetO X.w D (fun j => decide (j ∈ L.map Int.ofNat)) n)) := All.new hD
  have A2 := All.new (o := .lst ((ns.map Int.ofNat).map V.int)) hp
  obtain ⟨o1, o2⟩ := new_nl (Hs := H) (f := .z) (ds := ns.map intD) (vs := (ns.map Int.ofNat).map V.int) (ok'.all A1) (fun a h => A1.dom (st.dom a h)) hp (by
    have := Rs.ofInts (K := X.K) (G := GF B (mset σ ρ') H .z) (H := upd H' D (SetO X.w D (fun j => decide (j ∈ L.map Int.ofNat)) n)) (ns.map Int.ofNat)
    rw [List.map_map] at this
    exact this)
  exact fin (.ref p) _ (.nl (ns.map intD) .z) ρ' o1 ((st.trans A1.step).trans A2.step) kn o2 (hQ ns hp1 hm1 ns rfl)
/-- y = [..], the value by itself -/
theorem dse_setLc {X : Cx} {elt tg iter : Expr} {ifs : List Expr} {scope : Scope} {own : List (Str × Nat)} {pos spos : Pos} {it : TID} {g : Tgt} {tt : TB} {d : TD} {i : Nat} {y : Str} {py : Pos} (hc : X.calm = true) (hN : X.N.Nodup) (hsw : swapsWith (.ListComp elt [⟨tg, iter, ifs, 0⟩] scope pos) (some (.Name y py)) spos.line X.env = pure true)
    (hi : DI X tg iter it) (ok : BlkOk X.N X.env.scope scope own) (hix : ∀ i ∈ g.ixs, i ∈ own.map (·.2)) (hg : ∀ i, DG (bk X scope i) tg g) (ht : ∀ i, DTs (bk X scope i) ifs tt) (he : ∀ i, DE (bk X scope i) elt d) (hy : X.N[i]? = some y := by rfl) (hyl : X.env.scope.names.lookup y = some .local := by rfl)
    (hs : ∀ x, foldedSetIterable iter X.env x = pure x := by intro _; rfl) : ∃ te, PS X (.Assign [.Name y py] (.ListComp elt [⟨tg, iter, ifs, 0⟩] scope pos) spos) (tAsg te (gName i)) ∧ Ev1 X.K te (dLc it g tt d (own.map (·.2))) := by
  obtain ⟨wi, pi, ei⟩ := hi
  obtain ⟨te, p1, e1⟩ := DE.alls (X := bk X scope) (K := X.K) he
  obtain ⟨ttt, p2, e2⟩ := DTs.alls (X := bk X scope) (K := X.K) ht
  have w : ∃ _ : Bk, True := ⟨⟨X.s_0, fun _ => none, 0, [], []⟩, True.intro⟩
  exact ⟨_, ps_setLc (g := gOf X.K g) hc hN hy hyl hsw pi ok (fun s H C cl fp => hg ⟨s, H, C, cl, fp⟩) (fun s H C cl fp => p2 ⟨s, H, C, cl, fp⟩) (fun s H C cl fp => p1 ⟨s, H, C, cl, fp⟩) hs, ev_lc ei hix (e2 w) (e1 w)⟩
/-! ### a stretch of the hand layer read by this one: all that is known stands at the base -/
/-- a slot as it is read -/
def SlR (K : PySem.W.Frag) (H : Hp) (σ : L2.St) (i : Nat) : Sl → Prop
  | .no => True
  | .val d f => f = .o ∧ ∃ v, σ[i]? = some (some v) ∧ R K (fun _ => True) H d v
  | _ => False
def bxOf (H : Hp) : Bx := ⟨H, [], []⟩
theorem ok_snap {K : PySem.W.Frag} {H : Hp} {σ : L2.St} {ρ : En} (hl : ρ.length = σ.length) (hT : NdefX.TabsN Tabs.T H) (hs : ∀ (i : Nat) (s : Sl), ρ[i]? = some s → SlR K H σ i s) : Ok K (bxOf H) H σ ρ ∧ ∀ a, ¬ mset σ ρ a := by
  have nm : ∀ a, ¬ mset σ ρ a := fun a ⟨i, s, e, m, _⟩ => by
    have := hs i s e
    cases s with
    | no => cases m
    | val d f => cases m
    | _ => exact this
  refine ⟨⟨hl, fun _ h => h, (fun a h => by cases h), fun a o h _ => @fun _ => h, fun i s e => ?_, fun i j s t a e m _ _ _ _ => ?_, hT⟩, nm⟩
  · have := hs i s e
    cases s with
    | no => exact True.intro
    | val d f =>
      obtain ⟨rfl, v, h1, h2⟩ := this
      exact ⟨v, h1, h2.mono Keep.refl fun a _ _ => ⟨nm a, (fun z => by cases z), True.intro, (fun z => by cases z)⟩⟩
    | _ => exact this.elim
  · have := hs i s e
    cases s with
    | no => cases m
    | val d f => cases m
    | _ => exact this.elim
/-- an expression of this layer that gives a new list, read in the hand layer -/
theorem ev_snapL {K : PySem.W.Frag} {te : TE} {t : TD} {H : Hp} {σ : L2.St} {ρ : En} {Q' : VK} (h : Ev1 K te t) (hl : ρ.length = σ.length) (hT : NdefX.TabsN Tabs.T H) (hs : ∀ (i : Nat) (s : Sl), ρ[i]? = some s → SlR K H σ i s)
    (q : t ρ fun r _ => ∃ ds f, r = .nl ds f ∧ (f = .n ∨ f = .h ∨ f = .z) ∧ ∀ p vs H', All H H' → H p = none → H' p = some (.lst vs) → Rs K (fun a => H a = none) H' ds vs → Q' (.ref p) H') : te σ H Q' := by
  obtain ⟨ok, nm⟩ := ok_snap hl hT hs
  refine h (bxOf H) σ H ρ _ Q' ok q fun v H' r ρ' ok' st kn rel ⟨ds, f, er, hf, hq⟩ => ?_
  subst er
  obtain ⟨p, vs, rfl, hp, hn, _, _, _, rs⟩ := rel
  refine hq p vs H' ⟨fun a o e => @fun nt => st.keep a o e (.inl (nm a)), st.dom, fun _ => ok'.tb⟩ hn hp (rs.mono Keep.refl fun a _ g => ?_)
  have b := g.2.2.1
  rcases hf with rfl | rfl | rfl
  · exact b
  · exact b
  · exact b.elim
end DL

namespace DL
open PySem L2
variable [Tabs]
/-! ### {c: i for i, c in enumerate(e)}, e a list of whole numbers: for each the last place -/
def putN (l : List (Nat × Nat)) (c r : Nat) : List (Nat × Nat) := if l.any (fun p => decide (p.1 = c)) = true then l.map (fun p => if p.1 = c then (p.1, r) else p) else l ++ [(c, r)]
def kvN (l : List (Nat × Nat)) : List (Key × V) := l.map fun p => (kNt p.1, V.int (p.2 : Int))
abbrev ksN (l : List (Nat × Nat)) : List Key := l.map fun p => kNt p.1
abbrev dsN (l : List (Nat × Nat)) : List D := l.map fun p => intD p.2
theorem kNt_1 {a b : Nat} (h : kNt a = kNt b) : a = b := by have := Sum.inl.inj h; omega
theorem putN_kv {l : List (Nat × Nat)} {c r : Nat} : putK (kvN l) (kNt c) (.int (r : Int)) = kvN (putN l c r) := by
  unfold putK putN kvN
  have e : ((l.map fun p => (kNt p.1, V.int (p.2 : Int))).any fun kv => decide (kv.1 = kNt c)) = l.any fun p => decide (p.1 = c) := by
    rw [List.any_map]
    congr 1
    funext p
    show decide (kNt p.1 = kNt c) = decide (p.1 = c)
    by_cases h : p.1 = c
    · rw [h]; simp
    · rw [decide_eq_false h, decide_eq_false fun z => h (kNt_1 z)]
  rw [e]
  by_cases h : l.any (fun p => decide (p.1 = c)) = true
  · rw [if_pos h, if_pos h, List.map_map, List.map_map]
    refine List.map_congr_left fun p _ => ?_
    show (if kNt p.1 = kNt c then (kNt p.1, V.int (r : Int)) else (kNt p.1, V.int (p.2 : Int))) = (kNt (if p.1 = c then (p.1, r) else p).1, V.int ((if p.1 = c then (p.1, r) else p).2 : Int))
    by_cases z : p.1 = c
    · rw [if_pos z, if_pos (by rw [z])]
    · rw [if_neg z, if_neg fun y => z (kNt_1 y)]
  · rw [if_neg h, if_neg h, List.map_append]; rfl
def lkN (l : List (Nat × Nat)) (c : Nat) : Option D := lk (ksN l) (dsN l) (kNt c)
theorem lkN_cons {p : Nat × Nat} {l : List (Nat × Nat)} {c : Nat} : lkN (p :: l) c = if p.1 = c then some (intD p.2) else lkN l c := by
  show (if kNt p.1 = kNt c then some (intD p.2) else lk (ksN l) (dsN l) (kNt c)) = _
  by_cases z : p.1 = c
  · rw [if_pos z, if_pos (by rw [z])]
  · rw [if_neg z, if_neg fun y => z (kNt_1 y)]; rfl
theorem lkN_none {c : Nat} : ∀ {l : List (Nat × Nat)}, l.any (fun p => decide (p.1 = c)) = false → lkN l c = none
  | [], _ => rfl
  | p :: l, h => by
    rw [List.any_cons, Bool.or_eq_false_iff] at h
    rw [lkN_cons, if_neg (of_decide_eq_false h.1), lkN_none h.2]
theorem lkN_snoc {c r c' : Nat} : ∀ {l : List (Nat × Nat)}, l.any (fun p => decide (p.1 = c)) = false → lkN (l ++ [(c, r)]) c' = if c = c' then some (intD r) else lkN l c'
  | [], _ => by
    show lkN ((c, r) :: []) c' = _
    rw [lkN_cons]
  | p :: l, h => by
    rw [List.any_cons, Bool.or_eq_false_iff] at h
    show lkN (p :: (l ++ [(c, r)])) c' = _
    rw [lkN_cons, lkN_cons, lkN_snoc h.2]
    by_cases z : p.1 = c'
    · rw [if_pos z, if_pos z, if_neg fun y => of_decide_eq_false h.1 (z.trans y.symm)]
    · rw [if_neg z, if_neg z]
theorem lkN_map {c r c' : Nat} : ∀ {l : List (Nat × Nat)}, lkN (l.map fun p => if p.1 = c then (p.1, r) else p) c' = if c = c' then (if l.any (fun p => decide (p.1 = c)) = true then some (intD r) else none) else lkN l c'
  | [] => by
    show none = _
    split <;> rfl
  | p :: l => by
    rw [List.map_cons, lkN_cons, lkN_cons, lkN_map, List.any_cons]
    by_cases z : p.1 = c
    · rw [if_pos z]
      by_cases y : c = c'
      · rw [if_pos (z.trans y), if_pos y, if_pos (by rw [decide_eq_true z]; rfl)]
      · rw [if_neg fun q => y (z.symm.trans q), if_neg y, if_neg y, if_neg fun q => y (z.symm.trans q)]
    · rw [if_neg z]
      by_cases y : c = c'
      · rw [if_pos y, if_pos y, if_neg fun q => z (q.trans y.symm), decide_eq_false z, Bool.false_or]
      · rw [if_neg y, if_neg y]
theorem lkN_put {l : List (Nat × Nat)} {c r c' : Nat} : lkN (putN l c r) c' = if c = c' then some (intD r) else lkN l c' := by
  unfold putN
  by_cases h : l.any (fun p => decide (p.1 = c)) = true
  · rw [if_pos h, lkN_map, if_pos h]
  · rw [if_neg h, lkN_snoc (by rw [← Bool.not_eq_true]; exact h)]
/-- after i turns -/
def spk (cs : List Nat) : Nat → List (Nat × Nat)
  | 0 => []
  | i + 1 => putN (spk cs i) (cs.getD i 0) i
theorem putN_len {l : List (Nat × Nat)} {c r : Nat} : (putN l c r).length ≤ l.length + 1 := by
  unfold putN
  split
  · rw [List.length_map]; omega
  · rw [List.length_append]; exact Nat.le_refl _
theorem spk_len {cs : List Nat} : ∀ {i : Nat}, (spk cs i).length ≤ i
  | 0 => Nat.le_refl _
  | i + 1 => Nat.le_trans putN_len (Nat.succ_le_succ spk_len)
theorem spk_at {cs : List Nat} : ∀ {i r : Nat}, r < i → ∃ s, s < i ∧ cs.getD s 0 = cs.getD r 0 ∧ lkN (spk cs i) (cs.getD r 0) = some (intD s)
  | 0, r, h => absurd h (Nat.not_lt_zero _)
  | i + 1, r, h => by
    show ∃ s, s < i + 1 ∧ cs.getD s 0 = cs.getD r 0 ∧ lkN (putN (spk cs i) (cs.getD i 0) i) (cs.getD r 0) = some (intD s)
    rw [lkN_put]
    by_cases z : cs.getD i 0 = cs.getD r 0
    · exact ⟨i, Nat.lt_succ_self _, z, by rw [if_pos z]⟩
    · have hr : r < i := by
        rcases Nat.lt_succ_iff_lt_or_eq.mp h with h | h
        · exact h
        · subst h; exact absurd rfl z
      obtain ⟨s, h1, h2, h3⟩ := spk_at (cs := cs) hr
      exact ⟨s, Nat.lt_succ_of_lt h1, h2, by rw [if_neg z]; exact h3⟩
section
variable {X : Cx} {e : Expr} {t : TL} {x y : Str} {scope : Scope} {i j kk : Nat} {p1 p2 p3 p4 p5 p6 pos q1 q2 q3 : Pos}
def dDcEn (i j : Nat) (t : TL) : TD := fun ρ Q => t ρ fun rs ρ1 => ∃ (cs : List Nat) (r : Rv), rs = [r] ∧ (ob ρ1 r).d = .lst (cs.map intD) ∧ i ≠ j ∧ i < ρ1.length ∧ j < ρ1.length ∧ cs.length < sizeLine ∧
  ∀ l : List (Nat × Nat), l.length ≤ cs.length → (∀ r, r < cs.length → ∃ s, s < cs.length ∧ cs.getD s 0 = cs.getD r 0 ∧ lk (ksN l) (dsN l) (kNt (cs.getD r 0)) = some (intD s)) → Q (.nd (ksN l) (dsN l) .z) ρ1
theorem de_dcEn (hc : X.calm = true) (hN : X.N.Nodup) (hm : X.mg "enumerate" = none) (ha : DA X [e] t) (ok : BlkOk X.N X.env.scope scope [(x, i), (y, j)])
    (hgt : ∀ (s : Shared) (H : Hp) (C : Addr) (cl : List (Str × Addr)) (fp : List Addr), PG (X.blk s H scope (compEnvC scope cl C X.env) fp) (.Tuple [.Name x p1, .Name y p2] kk p3) (gTup X.K 2 (gCons (gName i) (gCons (gName j) gNil))))
    (hk : ∀ (s : Shared) (H : Hp) (C : Addr) (cl : List (Str × Addr)) (fp : List Addr), PE (X.blk s H scope (compEnvC scope cl C X.env) fp) (.Name y p4) (tVar j))
    (hv : ∀ (s : Shared) (H : Hp) (C : Addr) (cl : List (Str × Addr)) (fp : List Addr), PE (X.blk s H scope (compEnvC scope cl C X.env) fp) (.Name x p5) (tVar i))
    (hg : Gl X "enumerate" := by rfl) (hs : starEach [e] X.env = [(false, eval e X.env)] := by rfl) (hs1 : ∀ z, foldedSetIterable (.Call (.Name "enumerate" q1) [e] [] q2) X.env z = pure z := by intro _; rfl) :
    DE X (.DictComp (.Name y p4) (.Name x p5) [⟨.Tuple [.Name x p1, .Name y p2] kk p3, .Call (.Name "enumerate" q1) [e] [] q2, [], 0⟩] scope pos) (dDcEn i j t) := by
  obtain ⟨ta, pa, ea⟩ := ha
  refine ⟨_, pe_dc (own := [(x, i), (y, j)]) (g := gTup X.K 2 (gCons (gName i) (gCons (gName j) gNil))) (tt := tYes) (tk := tVar j) (tv := tVar i) hc hN (pi_enum hg hm pa hs) ok hgt (fun _ _ _ _ _ => pts_nil) hk hv hs1, fun B σ H ρ Q Q' k q fin => ?_⟩
  refine ea B σ H ρ _ _ k q fun vs H1 rs ρ1 k1 s1 n1 r1 ⟨cs, r, ers, er, hij, hi, hj, hz, hQ⟩ => ?_
  subst ers
  cases r1 with
  | @cons v _ _ _ rg rt =>
  cases rt with
  | nil =>
  have ro := Rg.ro k1 rg
  rw [er] at ro
  obtain ⟨a, ws, rfl, hH, rs⟩ := ro
  have ew : ws = cs.map fun c : Nat => V.int (c : Int) := by
    have e1 : cs.map intD = (cs.map fun i : Nat => (i : Int)).map D.int := by rw [List.map_map]; rfl
    rw [e1] at rs
    have := Rs.ints rs
    rw [List.map_map] at this
    exact this
  subst ew
  refine ⟨a, _, rfl, SqL.of hH, fun Dc hD => ?_⟩
  have ls : ρ1.length = σ.length := k1.len
  have wi : ∀ (τ : L2.St) (u v : Option V), wipe (((wipe τ [i, j]).set i u).set j v) [i, j] = wipe τ [i, j] := fun τ u v => by
    show ((((((τ.set j none).set i none).set i u).set j v).set j none).set i none) = (τ.set j none).set i none
    rw [List.set_set, List.set_set, List.set_comm u none hij, List.set_set, List.set_set]
  refine ⟨fun m' m H2 => m = cs.length - m' ∧ m' ≤ cs.length ∧ H2 Dc = some (.dK (kvN (spk cs m'))) ∧ ∀ b o, H1 b = some o → H2 b = some o, ⟨cs.length, by simp, Nat.zero_le _, upd_same, fun b o z => by rw [upd_ne (ne_of_none z hD)]; exact z⟩, ?_⟩
  rintro m' m H2 ⟨rfl, hm', hDc, kp⟩
  have sq : SqL X.K H2 a (cs.map fun c : Nat => V.int (c : Int)) := SqL.of (kp _ _ hH)
  by_cases hlt : m' < cs.length
  · refine .inr ⟨?_, fun H' => m' < cs.length ∧ H' Dc = some (.dK (kvN (spk cs (m' + 1)))) ∧ ∀ b o, H1 b = some o → H' b = some o, fun H' ⟨_, w1, w2⟩ => ⟨cs.length - (m' + 1), by omega, rfl, hlt, w1, w2⟩, fun z H' yl => ?_⟩
    · exact (walk_enum (K := X.K) (a := a) (xs := cs.map fun c : Nat => V.int (c : Int))).goes m' H2 (by rw [List.length_map]; exact hlt) sq
    · obtain ⟨T, u1, u2, rfl, nT, rfl, e1, e2⟩ := (walk_enum (K := X.K) (a := a) (xs := cs.map fun c : Nat => V.int (c : Int))).yields m' H2 z H' (by rw [List.length_map]; exact hlt) sq yl
      cases e1
      have e2 : (cs.map fun c : Nat => V.int (c : Int))[m']? = some u2 := e2
      rw [List.getElem?_map, List.getElem?_eq_getElem hlt] at e2
      cases e2
      have ec : cs.getD m' 0 = cs[m'] := by rw [List.getD_eq_getElem?_getD, List.getElem?_eq_getElem hlt]; rfl
      have nDT : Dc ≠ T := ne_of_none hDc nT
      refine ⟨T, [.int (m' : Nat), .int (cs[m'] : Nat)], rfl, .inl (.inl upd_same), rfl, _, _, rfl, _, [], rfl, rfl, ?_⟩
      refine ⟨wi σ _ _, .int (cs[m'] : Nat), ?_, .int (m' : Nat), ?_, kvN (spk cs m'), kNt cs[m'], rfl, by rw [upd_ne nDT]; exact hDc, ?_, hlt, ?_, fun b o z => ?_⟩
      · rw [List.getElem?_set_self]
        rw [List.length_set, wipe_length, ← ls]; exact hj
      · rw [List.getElem?_set_ne (Ne.symm hij), List.getElem?_set_self]
        rw [wipe_length, ← ls]; exact hi
      · have := spk_len (cs := cs) (i := m')
        unfold kvN
        rw [List.length_map]; omega
      · rw [upd_same, putN_kv]
        show _ = some (HO.dK (kvN (putN (spk cs m') (cs.getD m' 0) m')))
        rw [ec]
      · rw [upd_ne (ne_of_none z hD), upd_ne (ne_of_none (kp _ _ z) nT)]
        exact kp _ _ z
  · obtain rfl : m' = cs.length := by omega
    refine .inl ⟨by have := (walk_enum (K := X.K) (a := a) (xs := cs.map fun c : Nat => V.int (c : Int))).stops H2 sq; rwa [List.length_map] at this, ?_⟩
    have q2 := hQ (spk cs cs.length) spk_len (fun r hr => spk_at hr)
    have A1 : All H1 (upd H1 Dc (.dK (kvN (spk cs cs.length)))) := All.new hD
    have A2 : All (upd H1 Dc (.dK (kvN (spk cs cs.length)))) H2 := All.full fun b o z => by
      by_cases y : b = Dc
      · subst y; rw [upd_same] at z; cases z; exact hDc
      · rw [upd_ne y] at z; exact kp b o z
    have A := fun (b : Addr) (o : HO) (z : H1 b = some o) => kp b o z
    have AF : All H1 H2 := All.full A
    have kz : kvN (spk cs cs.length) = (ksN (spk cs cs.length)).zip ((spk cs cs.length).map fun p => V.int (p.2 : Int)) := by
      unfold kvN
      rw [List.zip_map']
    have rsd : ∀ (l : List (Nat × Nat)) (G : Addr → Prop), Rs X.K G H2 (dsN l) (l.map fun p => V.int (p.2 : Int)) := fun l G => by
      have := Rs.ofInts (K := X.K) (G := G) (H := H2) (l.map fun p => (p.2 : Int))
      rw [List.map_map, List.map_map] at this
      exact this
    refine fin (.ref Dc) H2 (.nd (ksN (spk cs cs.length)) (dsN (spk cs cs.length)) .z) ρ1 (k1.all AF) (s1.trans AF.step) n1 ?_ q2
    refine ⟨Dc, _, rfl, by rw [hDc, kz], by rw [List.length_map, List.length_map], none_back s1.dom hD, fun z => k1.mdom z hD, fun z => k1.av Dc z hD, (k1.clear hD).all A2, rsd _ _⟩
end
end DL

namespace DL
open PySem L2
variable [Tabs]
/-! ### list(range(n)) -/
def dListRg (d : TD) : TD := fun ρ Q => d ρ fun r ρ1 => ∃ n : Nat, (ob ρ1 r).d = .int (n : Int) ∧ n ≤ 16777216 ∧ Q (.nl ((List.range n).map intD) .z) ρ1
theorem de_listRg {X : Cx} {e : Expr} {d : TD} {p p2 q pos : Pos} (hc : X.calm = true) (m_list : X.mg "list" = none) (m_range : X.mg "range" = none) (he : DE X e d) (g1 : Gl X "list" := by rfl) (g2 : Gl X "range" := by rfl)
    (na : starEach [e] X.env = (false, eval e X.env) :: starEach [] X.env := by rfl) (nb : starEach [.Call (.Name "range" p2) [e] [] q] X.env = (false, eval (.Call (.Name "range" p2) [e] [] q) X.env) :: starEach [] X.env := by rfl) :
    DE X (.Call (.Name "list" p) [.Call (.Name "range" p2) [e] [] q] [] pos) (dListRg d) := by
  obtain ⟨te, pe, ev⟩ := he
  refine ⟨_, pe_listRg hc g1 m_list (prg_1 g2 m_range pe na) nb, fun B σ H ρ Q Q' k q fin => ?_⟩
  refine ev B σ H ρ _ _ k q fun v H1 r ρ1 k1 s1 n1 r1 ⟨n, en, hn, hq⟩ => ?_
  have ro := obR k1 k.dom r1
  rw [en] at ro
  obtain rfl := ro.int
  refine ⟨n, rfl, RgOk.of_le (Int.le_refl 0) (by omega) (by omega) (by omega), fun x hx => ?_⟩
  have e1 : rgV 0 (n : Int) = ((List.range n).map fun i : Nat => (i : Int)).map V.int := by
    unfold rgV
    rw [List.map_map, Int.sub_zero, Int.toNat_natCast]
    exact List.map_congr_left fun i _ => by show V.int (0 + (i : Int)) = V.int (i : Int); rw [Int.zero_add]
  have A := All.new (o := .lst (rgV 0 (n : Int))) hx
  obtain ⟨o1, o2⟩ := new_nl (Hs := H) (f := .z) (ds := (List.range n).map intD) (vs := rgV 0 (n : Int)) k1 (fun a h => s1.dom a h) hx (by
    rw [e1]
    have := Rs.ofInts (K := X.K) (G := GF B (mset σ ρ1) H .z) (H := H1) ((List.range n).map fun i : Nat => (i : Int))
    rw [List.map_map] at this
    exact this)
  exact fin (.ref x) _ _ ρ1 o1 (s1.trans A.step) n1 o2 hq
end DL

namespace DL
open PySem L2
variable [Tabs]
/-! ### a new dict whose keys will be tuples; its length -/
def dDNewT : TD := fun ρ Q => Q (.nt [] [] .z) ρ
theorem ev_dnewT {K : PySem.W.Frag} : Ev1 K tDNewT dDNewT := fun B σ H ρ Q Q' k q fin => fun p hp => by
  refine fin (.ref p) _ (.nt [] [] .z) ρ (k.all (All.new hp)) (All.new hp).step Kn.refl ?_ q
  exact ⟨p, [], rfl, upd_same, rfl, hp, fun z => k.mdom z hp, fun z => k.av p z hp, k.clear hp, Rs.nil⟩
theorem de_dnewT {X : Cx} {pos : Pos} : DE X (.Dict [] [] pos) dDNewT := ⟨_, pe_dnewT, ev_dnewT⟩
def pLenT : OpN := fun os k => match os with
  | [⟨.dit ks _, _⟩] => k (.v (.int ks.length) .n)
  | _ => False
theorem calls_lenT {K : PySem.W.Frag} : CallS K rLenT pLenT := by
  intro B σ Hs H ρ xs os k Q' ok hd ro h fin
  unfold pLenT at h
  split at h
  · obtain ⟨v, rfl, rv⟩ := ro.one
    rename_i ks ds f
    obtain ⟨a, vs, rfl, ha, hl, _⟩ := rv
    refine ⟨a, _, rfl, ha, ?_⟩
    rw [List.length_zip, hl, Nat.min_self, ← hl]
    exact fin_at ok fin (fun _ => R.i) h
  · exact h.elim
theorem de_lenT {X : Cx} {e : Expr} {t : TL} {p pos : Pos} (hm : X.mg "len" = none) (ha : DA X [e] t) (hg : Gl X "len" := by rfl) (he : starEach [e] X.env = (false, eval e X.env) :: starEach [] X.env := by rfl) (hpl : (backTo pos (starEach [] X.env)).any (·.1) = false := by rfl) : DE X (.Call (.Name "len" p) [e] [] pos) (dCB pLenT t) :=
  de_callB call_len_dT calls_lenT hm PySem.boot_len ha hg (by decide) (by decide) he hpl
end DL

namespace DL
open PySem L2
variable [Tabs]
/-! ### k in d, as a value -/
def dDInV (dk dd : TD) : TD := fun ρ Q => dk ρ fun r1 ρ1 => dd ρ1 fun r2 ρ2 => ∃ dv o, dictOf (ob ρ2 r2).d = some dv ∧ dvLook dv (ob ρ2 r1).d = some o ∧ Q (.v (.bl o.isSome) .n) ρ2
theorem ev_dinV {K : PySem.W.Frag} {tk td : TE} {dk dd : TD} (h1 : Ev1 K tk dk) (h2 : Ev1 K td dd) : Ev1 K (tDIn tk td) (dDInV dk dd) := fun B σ H ρ Q Q' k q fin =>
  h1 B σ H ρ _ _ k q fun y H1 r1 ρ1 k1 s1 n1 e1 q1 => h2 B σ H1 ρ1 _ _ k1 q1 fun x H2 r2 ρ2 k2 s2 n2 e2 ⟨dv, o, e, el, q2⟩ => by
    have hy := (Rg.ro k2 ((e1.rg k.dom).go s2 n2)).all
    obtain ⟨a, w, rfl, hg, _, hm⟩ := ro_dict (obR k2 k1.dom e2) hy e el
    refine ⟨a, w, rfl, hg, ?_⟩
    have : w.isSome = o.isSome := by
      cases o with
      | some d => obtain ⟨v, rfl, _⟩ := hm.1 d rfl; rfl
      | none => rw [hm.2 rfl]; rfl
    rw [this]
    exact fin (.bl o.isSome) H2 (.v (.bl o.isSome) .n) ρ2 k2 (s1.trans s2) (n1.trans n2) rel_b q2
theorem de_din {X : Cx} {e k : Expr} {dk d : TD} {pos : Pos} {j : Nat} (hr : Room j X.A) (ha : DE X k dk) (hb : DE X e d) (hm : behindInMarks .In e = false := by rfl) : DE X (.Compare k [.In] [e] pos) (dDInV dk d) := let ⟨_, p1, e1⟩ := ha; let ⟨_, p2, e2⟩ := hb; ⟨_, pe_cmp (pc_din (hu_of hr) p1 p2) hm, ev_dinV e1 e2⟩
end DL

namespace DL
open PySem L2
variable [Tabs]
/-! ### list + list, the parts known to have no list -/
def pAddG : Op2 := fun a b k => ∃ xs ys g, a.d = .lst xs ∧ b.d = .lst ys ∧ xs.length + ys.length ≤ sizeLine ∧ (g = fmin a.f b.f ∨ (nols (xs ++ ys) = true ∧ g = .z)) ∧ k (.nl (xs ++ ys) g)
theorem ops_addG {K : PySem.W.Frag} : OpS K (rAdd4 K) pAddG := by
  intro B σ Hs H ρ x y a b k Q' ok hd ra rb h fin
  obtain ⟨d, f⟩ := a
  obtain ⟨e, f2⟩ := b
  obtain ⟨xs, ys, g, e1, e2, hl, hg, h⟩ := h
  have e1 : d = .lst xs := e1
  have e2 : e = .lst ys := e2
  subst e1 e2
  obtain ⟨p, vs, rfl, hp, rp⟩ := ra
  obtain ⟨q, ws, rfl, hq, rq⟩ := rb
  have rr : Rs K (GF B (mset σ ρ) Hs (fmin f f2)) H (xs ++ ys) (vs ++ ws) := (rp.mono Keep.refl fun _ _ g => g.minL).append (rq.mono Keep.refl fun _ _ g => g.minR)
  refine .inr (.inr (.inl ⟨p, q, vs, ws, rfl, rfl, hp, hq, by rw [← rp.len, ← rq.len]; exact hl, fun u hu => ?_⟩))
  rcases hg with rfl | ⟨hn, rfl⟩
  · obtain ⟨o1, o2⟩ := new_nl ok hd hu rr
    exact fin _ _ _ o1 (All.new hu).step o2 h
  · obtain ⟨o1, o2⟩ := new_nl (f := .z) ok hd hu (Rs.nol hn rr)
    exact fin _ _ _ o1 (All.new hu).step o2 h
theorem de_addG {X : Cx} {a b : Expr} {da db : TD} {pos : Pos} (ha : DE X a da) (hb : DE X b db) : DE X (.BinOp a .Add b pos) (dOp pAddG da db) := let ⟨_, p1, e1⟩ := ha; let ⟨_, p2, e2⟩ := hb; ⟨_, pe_op op_add4 p1 p2, ev_op ops_addG e1 e2⟩
end DL

namespace M
open PySem L2 DL
variable [Tabs]
theorem var_at {i : Nat} {d : D} {f : Fr} {ρ : En} {Q : Rv → En → Prop} (h : ρ.getD i .no = .val d f) (q : Q (.v d (fdn f)) ρ) : dVar i ρ Q := by
  unfold dVar; rw [h]; exact q
theorem kF {i : Nat} {lit kd : Str} {f : Fr} {ρ : En} {E : ED} {A U : TSD} (h : ρ.getD i .no = .val (.str kd) f) (n : kd ≠ lit) (u : U E ρ) : dSeq (dIf (dTest (dOp (pEq false) (dVar i) (dC (.str lit)))) A dNext) U E ρ := by
  unfold dSeq dIf dTest dOp
  refine var_at h ?_
  refine ⟨rfl, _, rfl, fun z => ?_, fun _ => u⟩
  change (false ^^ eqD (.str kd) (.str lit)) = true at z
  rw [Bool.false_xor, eqD_str] at z
  exact absurd (of_decide_eq_true z) n
theorem kT {i : Nat} {lit : Str} {f : Fr} {ρ : En} {E : ED} {A U : TSD} (h : ρ.getD i .no = .val (.str lit) f) (u : A { E with nx := U E } ρ) : dSeq (dIf (dTest (dOp (pEq false) (dVar i) (dC (.str lit)))) A dNext) U E ρ := by
  unfold dSeq dIf dTest dOp
  refine var_at h ?_
  refine ⟨rfl, _, rfl, fun _ => u, fun z => ?_⟩
  change (false ^^ eqD (.str lit) (.str lit)) = false at z
  rw [Bool.false_xor, eqD_str, decide_eq_true rfl] at z
  cases z
theorem atI_nat {α : Type} {xs : List α} {k : Nat} {x : α} (h : xs[k]? = some x) : atI xs (k : Int) = some x := by
  have hl := (List.getElem?_eq_some_iff.mp h).1
  unfold atI ixN
  rw [if_pos (by omega), if_pos (by omega)]
  exact h
theorem atI_last {α : Type} {l : List α} {x : α} : atI (l ++ [x]) (-1) = some x := by
  unfold atI ixN
  rw [if_neg (by decide), if_pos (by rw [List.length_append]; show -((l.length + 1 : Nat) : Int) ≤ -1; omega)]
  show (l ++ [x])[((-1 : Int) + ((l ++ [x]).length : Nat)).toNat]? = _
  rw [List.length_append, show ((-1 : Int) + ((l.length + [x].length : Nat) : Int)).toNat = l.length by show ((-1 : Int) + ((l.length + 1 : Nat) : Int)).toNat = _; omega, List.getElem?_append_right (Nat.le_refl _), Nat.sub_self]
  rfl
theorem ix_at {i : Nat} {rest : List D} {kd : Str} {f : Fr} {ρ : En} {Q : Rv → En → Prop} (h : ρ.getD i .no = .val (.tup (.str kd :: rest)) f) (q : ∀ g, Q (.v (.str kd) g) ρ) : dOp pIx (dVar i) (dC (.int 0)) ρ Q := by
  unfold dOp
  refine var_at h ?_
  exact ⟨_, 0, .str kd, rfl, rfl, atI_nat (k := 0) rfl, q _⟩
theorem jF {i : Nat} {lit kd : Str} {rest : List D} {f : Fr} {ρ : En} {E : ED} {A U : TSD} (h : ρ.getD i .no = .val (.tup (.str kd :: rest)) f) (n : kd ≠ lit) (u : U E ρ) : dSeq (dIf (dTest (dOp (pEq false) (dOp pIx (dVar i) (dC (.int 0))) (dC (.str lit)))) A dNext) U E ρ := by
  show dOp (pEq false) (dOp pIx (dVar i) (dC (.int 0))) (dC (.str lit)) ρ _
  unfold dOp
  refine ix_at h fun g => ?_
  refine ⟨rfl, _, rfl, fun z => ?_, fun _ => u⟩
  change (false ^^ eqD (.str kd) (.str lit)) = true at z
  rw [Bool.false_xor, eqD_str] at z
  exact absurd (of_decide_eq_true z) n
theorem jT {i : Nat} {lit : Str} {rest : List D} {f : Fr} {ρ : En} {E : ED} {A U : TSD} (h : ρ.getD i .no = .val (.tup (.str lit :: rest)) f) (u : A { E with nx := U E } ρ) : dSeq (dIf (dTest (dOp (pEq false) (dOp pIx (dVar i) (dC (.int 0))) (dC (.str lit)))) A dNext) U E ρ := by
  show dOp (pEq false) (dOp pIx (dVar i) (dC (.int 0))) (dC (.str lit)) ρ _
  unfold dOp
  refine ix_at h fun g => ?_
  refine ⟨rfl, _, rfl, fun _ => u, fun z => ?_⟩
  change (false ^^ eqD (.str lit) (.str lit)) = false at z
  rw [Bool.false_xor, eqD_str, decide_eq_true rfl] at z
  cases z
abbrev scD (ns : List Int) : D := .fz (ns.map D.int)
abbrev tp (n : Nat) : List D := [.int (n : Nat)]
theorem atI_fz {ns : List Int} {k : Nat} (h : k < ns.length) : ∃ x, atI (ns.map D.int) (k : Int) = some (.int x) :=
  ⟨ns[k], atI_nat (by rw [List.getElem?_map, List.getElem?_eq_getElem h]; rfl)⟩
theorem cut_ints {ns : List Int} {lo hi : Option Int} {i : Nat} {d : D} (h : (cutD (ns.map D.int) lo hi)[i]? = some d) : ∃ x, d = .int x := by
  have := List.mem_of_getElem? h
  unfold cutD at this
  have := List.mem_of_mem_drop (List.mem_of_mem_take this)
  obtain ⟨x, _, rfl⟩ := List.mem_map.mp this
  exact ⟨x, rfl⟩
theorem mulL {a b : Int} (h : -18446744073709551616 < a) (h2 : a < 18446744073709551616) : IntMulOk a b := IntMulOk.of_left (PySem.intBits_le_64 h h2)
theorem mulR {a b : Int} (h : -18446744073709551616 < b) (h2 : b < 18446744073709551616) : IntMulOk a b := IntMulOk.of_right (PySem.intBits_le_64 h h2)
theorem mod_nat {x : Int} {m : Nat} (h : 0 < m) : ∃ r : Nat, r < m ∧ x % (m : Int) = (r : Int) := by
  have h1 := Int.emod_nonneg x (b := (m : Int)) (by omega)
  have h2 := Int.emod_lt_of_pos x (b := (m : Int)) (by omega)
  exact ⟨(x % (m : Int)).toNat, by omega, by omega⟩
def sg1 : Str := "0123456789abcdefghijklmnopqrstuvwxyzABCDEFGHIJKLMNOPQRSTUVWXYZ"
def sg2 : Str := "#$&'()*+,-./:;<=>?\x40[]^_{|}~! \"\\`"
theorem sg_len : (sg1 ++ sg2 : Str).cps.toList.length = 94 := by decide +kernel
abbrev chD (l : List Nat) : List D := l.map fun c => .str ⟨#[c]⟩
theorem len_lt {n : Nat} (h : n < 1000) : n < sizeLine := by rw [sizeLine_eq]; omega
theorem upto_at {n i : Nat} {d : D} (h : (upto 0 n)[i]? = some d) : i < n ∧ d = .int (i : Nat) := by
  obtain ⟨h1, h2⟩ := range_map h
  exact ⟨h1, by rw [h2]; congr 1; omega⟩
theorem upto_len (a : Int) (n : Nat) : (upto a n).length = n := by unfold upto; rw [List.length_map, List.length_range]
abbrev chs (l : List Nat) : List Str := l.map fun c => (⟨#[c]⟩ : Str)
theorem chs_str (l : List Nat) : (chs l).map D.str = chD l := by unfold chs chD; rw [List.map_map]; rfl
theorem chs_sum (l : List Nat) (z : Str) : ((chs l).map (·.length)).sum + (chs l).length * z.length = l.length + l.length * z.length := by
  have : ((chs l).map (·.length)).sum = l.length := by
    induction l with
    | nil => rfl
    | cons c r ih =>
      show 1 + ((chs r).map (·.length)).sum = _
      rw [ih, List.length_cons]; omega
  rw [this, List.length_map]
theorem chs_join (l : List Nat) : (Txt.join "" (chs l)).length = l.length := by
  have e : TL.tl (Txt.join "" (chs l)) = l := by
    rw [TL.join_eq, TL.tl_join]
    show TL.joinL [] _ = l
    induction l with
    | nil => rfl
    | cons c r ih =>
      cases r with
      | nil => rfl
      | cons d r =>
        show [c] ++ ([] ++ TL.joinL [] ((chs (d :: r)).map TL.tl)) = _
        rw [ih]; rfl
  have := congrArg List.length e
  simpa [TL.tl, Str.length] using this
theorem str_len (a b : Str) : (a ++ b : Str).length = a.length + b.length := by
  show (a.cps ++ b.cps).size = _
  exact Array.size_append
theorem pick {l : List Str} (h : 0 < l.length) (a : Int) : ∃ x, x ∈ l ∧ atI (l.map D.str) (a % ((l.map D.str).length : Int)) = some (.str x) := by
  obtain ⟨r, hr, er⟩ := mod_nat (x := a) (m := (l.map D.str).length) (by rw [List.length_map]; exact h)
  rw [er]
  have hr2 : r < l.length := by rw [List.length_map] at hr; exact hr
  exact ⟨l[r], List.getElem_mem _, atI_nat (by rw [List.getElem?_map, List.getElem?_eq_getElem hr2]; rfl)⟩
theorem pickc {z : Str} (h : 0 < z.length) (a : Int) : ∃ c, c ∈ z.cps.toList ∧ atI z.cps.toList (a % (z.length : Int)) = some c := by
  obtain ⟨r, hr, er⟩ := mod_nat (x := a) (m := z.length) h
  rw [er]
  have hr2 : r < z.cps.toList.length := by rw [Array.length_toList]; exact hr
  exact ⟨z.cps.toList[r], List.getElem_mem _, atI_nat (List.getElem?_eq_getElem hr2)⟩
theorem neF {x y : D} (e : eqD x y = true) : D.bl (true ^^ eqD x y) = .bl false := congrArg (fun b => D.bl (true ^^ b)) e
theorem neT {x y : D} (e : eqD x y = false) : D.bl (true ^^ eqD x y) = .bl true := congrArg (fun b => D.bl (true ^^ b)) e
theorem eqT {x y : D} (e : eqD x y = true) : D.bl (false ^^ eqD x y) = .bl true := congrArg (fun b => D.bl (false ^^ b)) e
theorem eqF {x y : D} (e : eqD x y = false) : D.bl (false ^^ eqD x y) = .bl false := congrArg (fun b => D.bl (false ^^ b)) e
theorem kit_ss : kitB "str" "str" = some true := by decide +kernel
theorem kit_is : kitB "int" "str" = some false := by decide +kernel
theorem kit_ts : kitB "tuple" "str" = some false := by decide +kernel
theorem kit_bb : kitB "bool" "bool" = some true := by decide +kernel
theorem kit_ib : kitB "int" "bool" = some false := by decide +kernel
theorem kit_ii : kitB "int" "int" = some true := by decide +kernel
theorem kit_tt : kitB "tuple" "tuple" = some true := by decide +kernel
theorem kit_ll : kitB "list" "list" = some true := by decide +kernel
end M

namespace M
open PySem L2 DL
variable [Tabs]
/-! ### machines -/
def natD (i : Nat) : D := .int (i : Int)
def rowD (r : List Nat) : D := .lst (r.map natD)
structure Mc where
  ms : List D
  st : List (List Nat)
  gd : List Bool
def Mc.dt (c : Mc) : D := .tup [.tux c.ms, .lst (c.st.map rowD), .lst (c.gd.map D.bl)]
/-- a mark -/
def mkOk (d : D) : Prop := (∃ s : Str, d = .str s ∧ PyData.strOk s = true ∧ s.length ≤ 1000) ∨ (∃ i : Int, d = .int i) ∨ ∃ (s : Str) (i : Int), d = .tup [.str s, .int i] ∧ PyData.strOk s = true
theorem mkOk.cmp {d : D} (h : mkOk d) : cmpN 1 d := by
  rcases h with ⟨s, rfl, h, _⟩ | ⟨i, rfl⟩ | ⟨s, i, rfl, h⟩
  · exact cmpN_str h
  · exact cmpN_int
  · refine cmpN_tup fun d hd => ?_
    simp at hd
    rcases hd with rfl | rfl
    · exact cmpN_str h
    · exact cmpN_int
theorem mkOk.nol {d : D} (h : mkOk d) : DL.nol d = true := by
  rcases h with ⟨s, rfl, h, _⟩ | ⟨i, rfl⟩ | ⟨s, i, rfl, h⟩ <;> rfl
structure McOk (c : Mc) : Prop where
  n0 : 0 < c.st.length
  n1 : c.st.length ≤ 900
  gl : c.gd.length = c.st.length
  rl : ∀ r ∈ c.st, r.length = c.ms.length
  rb : ∀ r ∈ c.st, ∀ x ∈ r, x < c.st.length
  ml : c.ms.length ≤ 4
  mo : ∀ d ∈ c.ms, mkOk d
theorem natD_cmp {n i : Nat} : cmpN n (natD i) := cmpN_int
theorem rowD_cmp {r : List Nat} : cmpN 1 (rowD r) := cmpN_lst fun d hd => by
  obtain ⟨i, _, rfl⟩ := List.mem_map.mp hd
  exact natD_cmp
theorem steps_cmp {st : List (List Nat)} : cmpN 2 (.lst (st.map rowD)) := cmpN_lst fun d hd => by
  obtain ⟨i, _, rfl⟩ := List.mem_map.mp hd
  exact rowD_cmp
theorem good_cmp {gd : List Bool} : cmpN 1 (.lst (gd.map D.bl)) := cmpN_lst fun d hd => by
  obtain ⟨i, _, rfl⟩ := List.mem_map.mp hd
  exact cmpN_bl
theorem marks_cmp {mk : List D} (h : ∀ d ∈ mk, mkOk d) : cmpN 2 (.tux mk) := cmpN_tux fun d hd => (h d hd).cmp
theorem marksL_cmp {mk : List D} (h : ∀ d ∈ mk, mkOk d) : cmpN 2 (.lst mk) := cmpN_lst fun d hd => (h d hd).cmp
theorem Mc.cmp {c : Mc} (h : ∀ d ∈ c.ms, mkOk d) : cmpN 3 c.dt := cmpN_tup fun d hd => by
  simp at hd
  rcases hd with rfl | rfl | rfl
  · exact (marks_cmp h).le (by decide)
  · exact steps_cmp.le (by decide)
  · exact good_cmp.le (by decide)
/-- the place of the first mark that equals x -/
def fx (mk : List D) (x : D) : Nat := mk.findIdx fun z => eqD z x
theorem fx_lt {mk : List D} {x : D} (h : x ∈ mk) (c : nod x = true) : fx mk x < mk.length := List.findIdx_lt_length_of_exists ⟨x, h, eqD_refl c⟩
theorem fx_first {mk : List D} {x : D} (h : x ∈ mk) (c : nod x = true) : firstAt mk x (fx mk x) := by
  have hl := fx_lt h c
  refine ⟨mk[fx mk x], List.getElem?_eq_getElem hl, List.findIdx_getElem (p := fun z => eqD z x) (w := hl), fun m z' hm e => ?_⟩
  have := List.not_of_lt_findIdx (p := fun z => eqD z x) (i := m) hm
  obtain ⟨h2, e2⟩ := List.getElem?_eq_some_iff.mp e
  rw [e2] at this
  simpa using this
def Mc.go (c : Mc) (room : Nat) (x : D) : Nat := (c.st.getD room []).getD (fx c.ms x) 0
def Mc.walk (c : Mc) (row : List D) : Nat := row.foldl c.go 0
def Mc.lets (c : Mc) (row : List D) : Bool := c.gd.getD (c.walk row) false
theorem getD_mem {α : Type} {l : List α} {i : Nat} {a : α} (h : i < l.length) : l.getD i a ∈ l ∧ l[i]? = some (l.getD i a) := by
  rw [List.getD_eq_getElem?_getD, List.getElem?_eq_getElem h]
  exact ⟨List.getElem_mem h, rfl⟩
section
variable {c : Mc} (ok : McOk c)
theorem Mc.row_at (ok : McOk c) {room : Nat} (h : room < c.st.length) : atI (c.st.map rowD) (room : Int) = some (rowD (c.st.getD room [])) := by
  refine atI_nat ?_
  rw [List.getElem?_map, (getD_mem (a := []) h).2]; rfl
theorem Mc.go_lt (ok : McOk c) {room : Nat} {x : D} (h : room < c.st.length) (hx : x ∈ c.ms) : c.go room x < c.st.length ∧ atI ((c.st.getD room []).map natD) ((fx c.ms x : Nat) : Int) = some (natD (c.go room x)) := by
  have hr := (getD_mem (a := []) h).1
  have hl : fx c.ms x < (c.st.getD room []).length := by rw [ok.rl _ hr]; exact fx_lt hx (ok.mo x hx).cmp.1
  obtain ⟨h1, h2⟩ := getD_mem (a := 0) hl
  refine ⟨ok.rb _ hr _ h1, atI_nat ?_⟩
  rw [List.getElem?_map, h2]; rfl
theorem Mc.good_at (ok : McOk c) {room : Nat} (h : room < c.st.length) : atI (c.gd.map D.bl) (room : Int) = some (.bl (c.gd.getD room false)) := by
  refine atI_nat ?_
  rw [List.getElem?_map, (getD_mem (a := false) (by rw [ok.gl]; exact h)).2]; rfl
theorem Mc.walk_snoc {row : List D} {x : D} : c.walk (row ++ [x]) = c.go (c.walk row) x := by unfold Mc.walk; rw [List.foldl_append]; rfl
theorem Mc.walk_ltA (ok : McOk c) : ∀ {row : List D} {room : Nat}, room < c.st.length → (∀ x ∈ row, x ∈ c.ms) → row.foldl c.go room < c.st.length
  | [], _, h, _ => h
  | x :: r, _, h, hx => Mc.walk_ltA ok (row := r) (Mc.go_lt ok h (hx x (by simp))).1 fun y hy => hx y (by simp [hy])
theorem Mc.walk_lt (ok : McOk c) {row : List D} (h : ∀ x ∈ row, x ∈ c.ms) : c.walk row < c.st.length := Mc.walk_ltA ok ok.n0 h
end
theorem nat_nol {r : List Nat} : nols (r.map natD) = true := nols_all.mpr fun d hd => by
  obtain ⟨i, _, rfl⟩ := List.mem_map.mp hd
  rfl
theorem bls_nol {r : List Bool} : nols (r.map D.bl) = true := nols_all.mpr fun d hd => by
  obtain ⟨i, _, rfl⟩ := List.mem_map.mp hd
  rfl
theorem mks_nol {ms : List D} (h : ∀ d ∈ ms, mkOk d) : nol (.tux ms) = true := by unfold nol; exact nols_all.mpr fun d hd => (h d hd).nol
/-- a new machine may be handed back -/
theorem frMc {ms xs ys : List D} {f : Fr} {d : D} (h : ∀ d ∈ ms, mkOk d) : frOk (fmin (fup f (.tux ms)) (fmin (fup .n (.lst xs)) (fmin (fup .n (.lst ys)) .z))) d = true := by
  unfold fup
  rw [if_pos (mks_nol h), if_neg (by unfold nol; decide), if_neg (by unfold nol; decide)]
  rfl
theorem frMc2 {ms xs ys : List D} {f g h : Fr} {d : D} (q : ∀ d ∈ ms, mkOk d) (hg : g = .h ∨ g = .n) (hh : h = .h ∨ h = .n) : frOk (fmin (fup f (.tux ms)) (fmin (fup g (.lst xs)) (fmin (fup h (.lst ys)) .z))) d = true := by
  unfold fup
  rw [if_pos (mks_nol q), if_neg (by unfold nol; decide), if_neg (by unfold nol; decide)]
  rcases hg with rfl | rfl <;> rcases hh with rfl | rfl <;> rfl
theorem take_at {row : List D} {i : Nat} {d : D} (h : row[i]? = some d) : row.take (i + 1) = row.take i ++ [d] ∧ d ∈ row := by
  refine ⟨?_, List.mem_of_getElem? h⟩
  rw [List.take_add_one, h]; rfl
end M

namespace M
open PySem L2 DL
variable [Tabs]
/-! ### things come to, in their order, with the row by which each was come to -/
structure Ent (α : Type) where
  rm : α
  pa : Option (α × D)
  rw : List D
section
variable {α : Type} [DecidableEq α]
def add (L : List (Ent α)) (e : Ent α) (m : D) (t : α) : List (Ent α) := if L.any (fun x => decide (x.rm = t)) = true then L else L ++ [⟨t, some (e.rm, m), e.rw ++ [m]⟩]
def addP (e : Ent α) (ps : List (D × α)) (L : List (Ent α)) : List (Ent α) := ps.foldl (fun L p => add L e p.1 p.2) L
def W (nx : α → List (D × α)) (s0 : α) : Nat → List (Ent α)
  | 0 => [⟨s0, none, []⟩]
  | k + 1 => match (W nx s0 k)[k]? with
    | none => W nx s0 k
    | some e => addP e (nx e.rm) (W nx s0 k)
theorem addP_snoc {e : Ent α} {ps : List (D × α)} {p : D × α} {L : List (Ent α)} : addP e (ps ++ [p]) L = add (addP e ps L) e p.1 p.2 := by unfold addP; rw [List.foldl_append]; rfl
theorem add_pre {L : List (Ent α)} {e : Ent α} {m : D} {t : α} : L <+: add L e m t := by
  unfold add
  split
  · exact List.prefix_refl _
  · exact List.prefix_append _ _
theorem addP_pre {e : Ent α} : ∀ {ps : List (D × α)} {L : List (Ent α)}, L <+: addP e ps L
  | [], L => List.prefix_refl _
  | p :: ps, L => (add_pre (e := e) (m := p.1) (t := p.2)).trans (addP_pre (ps := ps))
theorem W_pre1 {nx : α → List (D × α)} {s0 : α} {k : Nat} : W nx s0 k <+: W nx s0 (k + 1) := by
  show _ <+: match (W nx s0 k)[k]? with | none => _ | some e => _
  cases (W nx s0 k)[k]? with
  | none => exact List.prefix_refl _
  | some e => exact addP_pre
theorem W_pre {nx : α → List (D × α)} {s0 : α} {k : Nat} : ∀ j, W nx s0 k <+: W nx s0 (k + j)
  | 0 => List.prefix_refl _
  | j + 1 => (W_pre j).trans W_pre1
theorem pre_get {β : Type} {A B : List β} (h : A <+: B) {i : Nat} {x : β} (e : A[i]? = some x) : B[i]? = some x := by
  obtain ⟨C, rfl⟩ := h
  rw [List.getElem?_append_left (List.getElem?_eq_some_iff.mp e).1]
  exact e
theorem W_get {nx : α → List (D × α)} {s0 : α} {k j i : Nat} {e : Ent α} (h : k ≤ j) (g : (W nx s0 k)[i]? = some e) : (W nx s0 j)[i]? = some e := by
  have := pre_get (W_pre (nx := nx) (s0 := s0) (k := k) (j - k)) g
  rwa [show k + (j - k) = j by omega] at this
theorem W_end {nx : α → List (D × α)} {s0 : α} {k : Nat} (h : (W nx s0 k).length ≤ k) : ∀ j, W nx s0 (k + j) = W nx s0 k
  | 0 => rfl
  | j + 1 => by
    show (match (W nx s0 (k + j))[k + j]? with | none => W nx s0 (k + j) | some e => _) = _
    rw [W_end h j, List.getElem?_eq_none (by omega)]
/-- what each entry is -/
structure Good (nx : α → List (D × α)) (s0 : α) (L : List (Ent α)) : Prop where
  ne : 0 < L.length
  nd : (L.map (·.rm)).Nodup
  pa : ∀ (i : Nat) (e : Ent α), L[i]? = some e → (i = 0 ∧ e = ⟨s0, none, []⟩) ∨ ∃ (p : α) (m : D) (j : Nat) (e' : Ent α), e.pa = some (p, m) ∧ j < i ∧ L[j]? = some e' ∧ e'.rm = p ∧ e.rw = e'.rw ++ [m] ∧ (m, e.rm) ∈ nx p
theorem any_mem {L : List (Ent α)} {t : α} : L.any (fun x => decide (x.rm = t)) = true ↔ t ∈ L.map (·.rm) := by
  rw [List.any_eq_true, List.mem_map]
  exact ⟨fun ⟨x, h, e⟩ => ⟨x, h, of_decide_eq_true e⟩, fun ⟨x, h, e⟩ => ⟨x, h, decide_eq_true e⟩⟩
theorem add_good {nx : α → List (D × α)} {s0 : α} {L : List (Ent α)} {e : Ent α} {m : D} {t : α} {k : Nat} (g : Good nx s0 L) (he : L[k]? = some e) (ht : (m, t) ∈ nx e.rm) : Good nx s0 (add L e m t) := by
  unfold add
  by_cases h : L.any (fun x => decide (x.rm = t)) = true
  · rw [if_pos h]; exact g
  · rw [if_neg h]
    rw [any_mem] at h
    refine ⟨by rw [List.length_append]; have := g.ne; omega, ?_, fun i x hx => ?_⟩
    · rw [List.map_append]
      refine List.nodup_append.mpr ⟨g.nd, by simp, fun a ha b hb => ?_⟩
      intro z
      rw [List.map_singleton, List.mem_singleton] at hb
      subst z
      rw [hb] at ha
      exact h ha
    · have hk := (List.getElem?_eq_some_iff.mp he).1
      by_cases hi : i < L.length
      · rw [List.getElem?_append_left hi] at hx
        rcases g.pa i x hx with q | ⟨p, m', j, e', h1, h2, h3, h4⟩
        · exact .inl q
        · exact .inr ⟨p, m', j, e', h1, h2, by rw [List.getElem?_append_left (by omega)]; exact h3, h4⟩
      · rw [List.getElem?_append_right (by omega)] at hx
        have : i - L.length = 0 := by
          have := (List.getElem?_eq_some_iff.mp hx).1
          simp at this
          omega
        rw [this] at hx
        cases hx
        exact .inr ⟨e.rm, m, k, e, rfl, by omega, by rw [List.getElem?_append_left hk]; exact he, rfl, rfl, ht⟩
theorem addP_good {nx : α → List (D × α)} {s0 : α} {e : Ent α} {k : Nat} : ∀ {ps : List (D × α)} {L : List (Ent α)}, Good nx s0 L → L[k]? = some e → (∀ p ∈ ps, p ∈ nx e.rm) → Good nx s0 (addP e ps L)
  | [], L, g, _, _ => g
  | p :: ps, L, g, he, hp => addP_good (ps := ps) (add_good g he (hp p (by simp))) (pre_get add_pre he) fun q hq => hp q (by simp [hq])
theorem W_good {nx : α → List (D × α)} {s0 : α} : ∀ k, Good nx s0 (W nx s0 k)
  | 0 => ⟨Nat.one_pos, by simp [W], fun i e h => by
    cases i with
    | zero => cases h; exact .inl ⟨rfl, rfl⟩
    | succ i => cases h⟩
  | k + 1 => by
    show Good nx s0 (match (W nx s0 k)[k]? with | none => W nx s0 k | some e => addP e (nx e.rm) (W nx s0 k))
    cases h : (W nx s0 k)[k]? with
    | none => exact W_good k
    | some e => exact addP_good (W_good k) h fun p hp => hp
/-- all is in a set that holds the first and what it leads to -/
theorem W_in {nx : α → List (D × α)} {s0 : α} {S : α → Prop} (h0 : S s0) (hs : ∀ x, S x → ∀ p ∈ nx x, S p.2) (k : Nat) : ∀ e ∈ W nx s0 k, S e.rm := by
  have go : ∀ (i : Nat) (e : Ent α), (W nx s0 k)[i]? = some e → S e.rm := fun i => by
    induction i using Nat.strongRecOn with
    | ind i ih =>
      intro e he
      rcases (W_good k).pa i e he with ⟨_, rfl⟩ | ⟨p, m, j, e', h1, h2, h3, h4, _, h6⟩
      · exact h0
      · have := ih j h2 e' h3
        rw [h4] at this
        exact hs p this _ h6
  intro e he
  obtain ⟨i, hi, e1⟩ := List.getElem_of_mem he
  exact go i e (by rw [List.getElem?_eq_getElem hi, e1])
/-! ### the first wanted one -/
def Found (nx : α → List (D × α)) (s0 : α) (w : α → Bool) (e : Ent α) : Prop := ∃ (k i : Nat), (W nx s0 k)[i]? = some e ∧ w e.rm = true ∧ ∀ (j : Nat) (e' : Ent α), j < i → (W nx s0 k)[j]? = some e' → w e'.rm = false
def None' (nx : α → List (D × α)) (s0 : α) (w : α → Bool) : Prop := ∃ (k : Nat), (W nx s0 k).length ≤ k ∧ ∀ e ∈ W nx s0 k, w e.rm = false
theorem found_one {nx : α → List (D × α)} {s0 : α} {w : α → Bool} {e e' : Ent α} (h : Found nx s0 w e) (h' : Found nx s0 w e') : e = e' := by
  obtain ⟨k, i, g, hw, hf⟩ := h
  obtain ⟨k', i', g', hw', hf'⟩ := h'
  have a := W_get (j := max k k') (Nat.le_max_left _ _) g
  have b := W_get (j := max k k') (Nat.le_max_right _ _) g'
  have lt1 : i < (W nx s0 k).length := (List.getElem?_eq_some_iff.mp g).1
  have lt2 : i' < (W nx s0 k').length := (List.getElem?_eq_some_iff.mp g').1
  rcases Nat.lt_trichotomy i i' with h | h | h
  · have c : (W nx s0 k')[i]? = some ((W nx s0 k')[i]) := List.getElem?_eq_getElem (by omega)
    have d := W_get (j := max k k') (Nat.le_max_right _ _) c
    rw [a] at d
    have := hf' i _ h c
    rw [← Option.some.inj d, hw] at this
    cases this
  · subst h
    rw [a] at b
    exact Option.some.inj b
  · have c : (W nx s0 k)[i']? = some ((W nx s0 k)[i']) := List.getElem?_eq_getElem (by omega)
    have d := W_get (j := max k k') (Nat.le_max_left _ _) c
    rw [b] at d
    have := hf i' _ h c
    rw [← Option.some.inj d, hw'] at this
    cases this
theorem W_last {nx : α → List (D × α)} {s0 : α} {k j : Nat} (h : (W nx s0 k).length ≤ k) (h' : (W nx s0 j).length ≤ j) : W nx s0 k = W nx s0 j := by
  rcases Nat.le_total k j with z | z
  · have := W_end h (j - k)
    rw [show k + (j - k) = j by omega] at this
    exact this.symm
  · have := W_end h' (k - j)
    rw [show j + (k - j) = k by omega] at this
    exact this
theorem not_both {nx : α → List (D × α)} {s0 : α} {w : α → Bool} {e : Ent α} (h : Found nx s0 w e) (h' : None' nx s0 w) : False := by
  obtain ⟨k, i, g, hw, hf⟩ := h
  obtain ⟨j, hl, hn⟩ := h'
  have a : e ∈ W nx s0 j := by
    rcases Nat.le_total k j with z | z
    · exact List.mem_of_getElem? (W_get z g)
    · have := W_end hl (k - j)
      rw [show j + (k - j) = k by omega] at this
      rw [this] at g
      exact List.mem_of_getElem? g
  rw [hn e a] at hw
  cases hw
/-- where all is expanded, what is there leads to what is there -/
theorem addP_has {e : Ent α} : ∀ {ps : List (D × α)} {L : List (Ent α)} {p : D × α}, p ∈ ps → p.2 ∈ (addP e ps L).map (·.rm)
  | q :: ps, L, p, h => by
    rcases List.mem_cons.mp h with rfl | h
    · have : p.2 ∈ (add L e p.1 p.2).map (·.rm) := by
        unfold add
        by_cases z : L.any (fun x => decide (x.rm = p.2)) = true
        · rw [if_pos z]; exact any_mem.mp z
        · rw [if_neg z, List.map_append]; simp
      obtain ⟨C, hC⟩ := addP_pre (e := e) (ps := ps) (L := add L e p.1 p.2)
      show p.2 ∈ (addP e ps (add L e p.1 p.2)).map _
      rw [← hC, List.map_append]
      exact List.mem_append_left _ this
    · exact addP_has (ps := ps) (L := add L e q.1 q.2) h
theorem W_closed {nx : α → List (D × α)} {s0 : α} {k : Nat} {e : Ent α} {i : Nat} (hi : i < k) (he : (W nx s0 k)[i]? = some e) {p : D × α} (hp : p ∈ nx e.rm) : p.2 ∈ (W nx s0 k).map (·.rm) := by
  by_cases z : i < (W nx s0 i).length
  · have g : (W nx s0 i)[i]? = some ((W nx s0 i)[i]) := List.getElem?_eq_getElem z
    have g2 := W_get (j := k) (by omega) g
    rw [he] at g2
    have ee := Option.some.inj g2
    have h1 : W nx s0 (i + 1) = addP e (nx e.rm) (W nx s0 i) := by
      show (match (W nx s0 i)[i]? with | none => _ | some e => _) = _
      rw [g, ee]
    have h2 := addP_has (e := e) (L := W nx s0 i) hp
    rw [← h1] at h2
    obtain ⟨C, hC⟩ := W_pre (nx := nx) (s0 := s0) (k := i + 1) (k - (i + 1))
    rw [show i + 1 + (k - (i + 1)) = k by omega] at hC
    rw [← hC, List.map_append]
    exact List.mem_append_left _ h2
  · have := W_end (nx := nx) (s0 := s0) (k := i) (by omega) (k - i)
    rw [show i + (k - i) = k by omega] at this
    rw [this] at he
    have := (List.getElem?_eq_some_iff.mp he).1
    omega
/-- how many at most -/
theorem nodup_le : ∀ {l S : List α}, l.Nodup → (∀ x ∈ l, x ∈ S) → l.length ≤ S.length
  | [], _, _, _ => Nat.zero_le _
  | x :: l, S, h, hs => by
    have hx := hs x (by simp)
    have := nodup_le (l := l) (S := S.erase x) (List.nodup_cons.mp h).2 fun y hy => by
      have ne : y ≠ x := fun z => (List.nodup_cons.mp h).1 (z ▸ hy)
      exact (List.mem_erase_of_ne ne).mpr (hs y (by simp [hy]))
    rw [List.length_erase_of_mem hx] at this
    have : 0 < S.length := List.length_pos_of_mem hx
    rw [List.length_cons]
    omega
theorem W_len {nx : α → List (D × α)} {s0 : α} {S : List α} (h0 : s0 ∈ S) (hs : ∀ x ∈ S, ∀ p ∈ nx x, p.2 ∈ S) (k : Nat) : (W nx s0 k).length ≤ S.length := by
  have := nodup_le (S := S) (W_good (nx := nx) (s0 := s0) k).nd fun x hx => by
    obtain ⟨e, he, rfl⟩ := List.mem_map.mp hx
    exact W_in (S := fun x => x ∈ S) h0 hs k e he
  rwa [List.length_map] at this
end
end M

namespace M
open PySem L2 DL
variable [Tabs]
/-! ### the refusals -/
def three : List Str := ["NoName", "NoLetter", "OtherMarks"]
def em : Em := fun x y => if x ∈ three then (if y ∈ three then some (decide (x = y)) else if y = "SayError" ∨ y = "ValueError" then some true else none) else none
/-- what is asked of a class -/
structure ClsF (K : PySem.W.Frag) (c : Addr) : Prop where
  b : PySem.W.subIn K (.ref c) (.type "BaseException") = some true
  d : PySem.W.hasDictIn K c = true
  t : PySem.W.typeIn K (.ref c) = some (.type "type")
structure ErrC (K : PySem.W.Frag) (mg : Str → Option Value) where
  (cS cN cL cO : Addr)
  gS : mg "SayError" = some (.ref cS)
  gN : mg "NoName" = some (.ref cN)
  gL : mg "NoLetter" = some (.ref cL)
  gO : mg "OtherMarks" = some (.ref cO)
  gV : mg "ValueError" = none
  ek : ErrOk K mg em
  xN : PySem.W.excIn K cN [.type "ValueError", .type "Exception", .type "BaseException", .type "object"] "ValueError.__new__" = true ∧ PySem.W.keepIn K (.ref cN) = true ∧ ClsF K cN
  xL : PySem.W.excIn K cL [.type "ValueError", .type "Exception", .type "BaseException", .type "object"] "ValueError.__new__" = true ∧ PySem.W.keepIn K (.ref cL) = true ∧ ClsF K cL
  xO : PySem.W.excIn K cO [.type "ValueError", .type "Exception", .type "BaseException", .type "object"] "ValueError.__new__" = true ∧ PySem.W.keepIn K (.ref cO) = true ∧ ClsF K cO
section
variable {K : PySem.W.Frag} {mg : Str → Option Value} (C : ErrC K mg)
theorem ErrC.nS : Nam mg "SayError" (.ref C.cS) := .inl ⟨_, rfl, C.gS⟩
theorem ErrC.nN : Nam mg "NoName" (.ref C.cN) := .inl ⟨_, rfl, C.gN⟩
theorem ErrC.nL : Nam mg "NoLetter" (.ref C.cL) := .inl ⟨_, rfl, C.gL⟩
theorem ErrC.nO : Nam mg "OtherMarks" (.ref C.cO) := .inl ⟨_, rfl, C.gO⟩
theorem ErrC.nV {K : PySem.W.Frag} {mg : Str → Option Value} (C : ErrC K mg) : Nam mg "ValueError" (.type "ValueError") := .inr ⟨_, rfl, C.gV, by decide +kernel, by decide⟩
end
/-- the facts of the four classes -/
theorem errOk {K : PySem.W.Frag} {mg : Str → Option Value} {cS cN cL cO : Addr} (gS : mg "SayError" = some (.ref cS)) (gN : mg "NoName" = some (.ref cN)) (gL : mg "NoLetter" = some (.ref cL)) (gO : mg "OtherMarks" = some (.ref cO)) (gV : mg "ValueError" = none)
    (eN : ExcC K cN) (eL : ExcC K cL) (eO : ExcC K cO) (fS : ClsF K cS) (fN : ClsF K cN) (fL : ClsF K cL) (fO : ClsF K cO) (vB : PySem.W.subIn K (.type "ValueError") (.type "BaseException") = some true)
    (NS : PySem.W.subIn K (.ref cN) (.ref cS) = some true) (LS : PySem.W.subIn K (.ref cL) (.ref cS) = some true) (OS : PySem.W.subIn K (.ref cO) (.ref cS) = some true)
    (NV : PySem.W.subIn K (.ref cN) (.type "ValueError") = some true) (LV : PySem.W.subIn K (.ref cL) (.type "ValueError") = some true) (OV : PySem.W.subIn K (.ref cO) (.type "ValueError") = some true)
    (NN : PySem.W.subIn K (.ref cN) (.ref cN) = some true) (LL : PySem.W.subIn K (.ref cL) (.ref cL) = some true) (OO : PySem.W.subIn K (.ref cO) (.ref cO) = some true)
    (NL : PySem.W.subIn K (.ref cN) (.ref cL) = some false) (NO : PySem.W.subIn K (.ref cN) (.ref cO) = some false) (LN : PySem.W.subIn K (.ref cL) (.ref cN) = some false) (LO : PySem.W.subIn K (.ref cL) (.ref cO) = some false) (ON : PySem.W.subIn K (.ref cO) (.ref cN) = some false) (OL : PySem.W.subIn K (.ref cO) (.ref cL) = some false)
    : ErrOk K mg em := by
  have own : ∀ {x c : Addr} {b : Bool}, ClsF K c → PySem.W.subIn K (.ref x) (.ref c) = some b → (x = c → b = true) → PySem.W.exmOne K (.ref x) (.ref c) = some b ∧ PySem.W.kitOne K (.ref x) (.ref c) = some b := fun {x c b} f h he => by
    refine ⟨PySem.W.exm_ref f.b f.d f.t h, ?_⟩
    obtain ⟨cd, hc, _⟩ := PySem.W.any_some f.d
    have e2 : ((PySem.W.clsIn K c).isSome && PySem.W.typeIn K (.ref c) == some (.type "type")) = true := by rw [hc, f.t] <;> rfl
    show (if (Value.ref x == Value.ref c) = true then some true else if ((PySem.W.clsIn K c).isSome && PySem.W.typeIn K (.ref c) == some (.type "type")) = true then PySem.W.subIn K (.ref x) (.ref c) else none) = some b
    by_cases q : (Value.ref x == Value.ref c) = true
    · rw [if_pos q, he (Value.ref.inj (beq_iff_eq.mp q))]
    · rw [if_neg q, if_pos e2, h]
  have km : PySem.W.kitMeta "ValueError" = true := by decide +kernel
  have val : ∀ {x : Addr}, PySem.W.subIn K (.ref x) (.type "ValueError") = some true → PySem.W.exmOne K (.ref x) (.type "ValueError") = some true ∧ PySem.W.kitOne K (.ref x) (.type "ValueError") = some true := fun {x} h => by
    have e1 : (PySem.W.subIn K (.type "ValueError") (.type "BaseException") == some true) = true := by rw [vB] <;> rfl
    refine ⟨?_, ?_⟩
    · show (if (PySem.W.subIn K (.type "ValueError") (.type "BaseException") == some true) = true then (if PySem.W.kitMeta "ValueError" = true then PySem.W.subIn K (.ref x) (.type "ValueError") else none) else none) = some true
      rw [if_pos e1, if_pos km, h]
    · show (if (Value.ref x == Value.type "ValueError") = true then some true else if PySem.W.kitMeta "ValueError" = true then PySem.W.subIn K (.ref x) (.type "ValueError") else none) = some true
      rw [if_neg (by simp), if_pos km, h]
  have nV : Nam mg "ValueError" (.type "ValueError") := .inr ⟨_, rfl, gV, by decide +kernel, by decide⟩
  have ne : ∀ {x y : Addr}, PySem.W.subIn K (.ref x) (.ref y) = some false → PySem.W.subIn K (.ref x) (.ref x) = some true → x = y → (false : Bool) = true := fun {x y} h h2 e => by
    subst e; rw [h] at h2; cases h2
  have tr : ∀ {x y : Addr}, x = y → (true : Bool) = true := fun _ => rfl
  refine ⟨fun x y b h => ?_⟩
  unfold em three at h
  split at h
  · rename_i hx
    simp only [List.mem_cons, List.not_mem_nil, or_false] at hx
    split at h
    · rename_i hy
      simp only [List.mem_cons, List.not_mem_nil, or_false] at hy
      rcases hx with rfl | rfl | rfl <;> rcases hy with rfl | rfl | rfl
      all_goals (cases h)
      · exact ⟨_, _, gN, eN, .inl ⟨_, rfl, gN⟩, own fN NN tr⟩
      · exact ⟨_, _, gN, eN, .inl ⟨_, rfl, gL⟩, own fL NL (ne NL NN)⟩
      · exact ⟨_, _, gN, eN, .inl ⟨_, rfl, gO⟩, own fO NO (ne NO NN)⟩
      · exact ⟨_, _, gL, eL, .inl ⟨_, rfl, gN⟩, own fN LN (ne LN LL)⟩
      · exact ⟨_, _, gL, eL, .inl ⟨_, rfl, gL⟩, own fL LL tr⟩
      · exact ⟨_, _, gL, eL, .inl ⟨_, rfl, gO⟩, own fO LO (ne LO LL)⟩
      · exact ⟨_, _, gO, eO, .inl ⟨_, rfl, gN⟩, own fN ON (ne ON OO)⟩
      · exact ⟨_, _, gO, eO, .inl ⟨_, rfl, gL⟩, own fL OL (ne OL OO)⟩
      · exact ⟨_, _, gO, eO, .inl ⟨_, rfl, gO⟩, own fO OO tr⟩
    · split at h
      · rename_i hy
        cases h
        rcases hy with rfl | rfl
        · rcases hx with rfl | rfl | rfl
          · exact ⟨_, _, gN, eN, .inl ⟨_, rfl, gS⟩, own fS NS tr⟩
          · exact ⟨_, _, gL, eL, .inl ⟨_, rfl, gS⟩, own fS LS tr⟩
          · exact ⟨_, _, gO, eO, .inl ⟨_, rfl, gS⟩, own fS OS tr⟩
        · rcases hx with rfl | rfl | rfl
          · exact ⟨_, _, gN, eN, nV, val NV⟩
          · exact ⟨_, _, gL, eL, nV, val LV⟩
          · exact ⟨_, _, gO, eO, nV, val OV⟩
      · cases h
  · cases h
end M

namespace M
open PySem L2 DL
variable [Tabs]
/-! ### by_coming, the things tuples of whole numbers and texts -/
section
variable {α : Type} [DecidableEq α]
def ixW (L : List (Ent α)) (t : α) : Nat := (L.map (·.rm)).idxOf t
def rowW (nx : α → List (D × α)) (L : List (Ent α)) (r : α) : List Nat := (nx r).map fun p => ixW L p.2
def rowsW (nx : α → List (D × α)) (L : List (Ent α)) : List (List Nat) := L.map fun e => rowW nx L e.rm
theorem ixW_pre {A B : List (Ent α)} {t : α} (h : A <+: B) (ht : t ∈ A.map (·.rm)) : ixW B t = ixW A t := by
  obtain ⟨C, rfl⟩ := h
  unfold ixW
  rw [List.map_append, List.idxOf_append, if_pos ht]
theorem ixW_lt {L : List (Ent α)} {t : α} (h : t ∈ L.map (·.rm)) : ixW L t < L.length := by
  have := List.idxOf_lt_length_of_mem h
  rwa [List.length_map] at this
theorem ixW_at {L : List (Ent α)} {i : Nat} {e : Ent α} (nd : (L.map (·.rm)).Nodup) (h : L[i]? = some e) : ixW L e.rm = i := by
  have h2 : (L.map (·.rm))[i]? = some e.rm := by rw [List.getElem?_map, h]; rfl
  obtain ⟨hl, he⟩ := List.getElem?_eq_some_iff.mp h2
  unfold ixW
  rw [← he]
  exact List.Nodup.idxOf_getElem nd i hl
theorem ixW_get {L : List (Ent α)} {t : α} (h : t ∈ L.map (·.rm)) : (L.map (·.rm))[ixW L t]? = some t := by
  have hl := List.idxOf_lt_length_of_mem h
  unfold ixW
  rw [List.getElem?_eq_getElem hl, List.getElem_idxOf hl]
theorem rowW_pre {nx : α → List (D × α)} {A B : List (Ent α)} {r : α} (h : A <+: B) (ht : ∀ p ∈ nx r, p.2 ∈ A.map (·.rm)) : rowW nx B r = rowW nx A r := by
  unfold rowW
  exact List.map_congr_left fun p hp => ixW_pre h (ht p hp)
theorem W_nextG {nx : α → List (D × α)} {s0 : α} {k : Nat} {e : Ent α} (h : (W nx s0 k)[k]? = some e) : W nx s0 (k + 1) = addP e (nx e.rm) (W nx s0 k) := by
  show (match (W nx s0 k)[k]? with | none => _ | some e => _) = _
  rw [h]
/-- the rows of the first k, whose things all lead to what is there -/
theorem rows_next {nx : α → List (D × α)} {s0 : α} {k : Nat} {e : Ent α} (h : (W nx s0 k)[k]? = some e) :
    ((W nx s0 (k + 1)).take (k + 1)).map (fun e => rowW nx (W nx s0 (k + 1)) e.rm) = ((W nx s0 k).take k).map (fun e => rowW nx (W nx s0 k) e.rm) ++ [rowW nx (W nx s0 (k + 1)) e.rm] := by
  have h1 : (W nx s0 (k + 1))[k]? = some e := W_get (Nat.le_succ k) h
  have hk := (List.getElem?_eq_some_iff.mp h).1
  rw [List.take_add_one, h1, List.map_append]
  refine congrArg (· ++ [rowW nx (W nx s0 (k + 1)) e.rm]) ?_
  have ht : (W nx s0 (k + 1)).take k = (W nx s0 k).take k := by
    obtain ⟨C, hC⟩ := W_pre1 (nx := nx) (s0 := s0) (k := k)
    rw [← hC, List.take_append_of_le_length (by omega)]
  rw [ht]
  refine List.map_congr_left fun x hx => ?_
  obtain ⟨i, hi, ei⟩ := List.getElem_of_mem hx
  rw [List.length_take] at hi
  rw [List.getElem_take] at ei
  exact rowW_pre W_pre1 fun p hp => W_closed (i := i) (by omega) (by rw [List.getElem?_eq_getElem (by omega), ei]) hp
theorem add_casesG {L : List (Ent α)} {e : Ent α} {m : D} {t : α} : (t ∈ L.map (·.rm) ∧ add L e m t = L) ∨ (t ∉ L.map (·.rm) ∧ add L e m t = L ++ [⟨t, some (e.rm, m), e.rw ++ [m]⟩]) := by
  unfold add
  by_cases h : L.any (fun x => decide (x.rm = t)) = true
  · exact .inl ⟨any_mem.mp h, if_pos h⟩
  · exact .inr ⟨fun z => h (any_mem.mpr z), if_neg h⟩
theorem addP_lenG {e : Ent α} : ∀ {ps : List (D × α)} {L : List (Ent α)}, (addP e ps L).length ≤ L.length + ps.length
  | [], L => Nat.le_refl _
  | p :: ps, L => by
    have h1 := addP_lenG (e := e) (ps := ps) (L := add L e p.1 p.2)
    have h2 : (add L e p.1 p.2).length ≤ L.length + 1 := by
      rcases add_casesG (L := L) (e := e) (m := p.1) (t := p.2) with ⟨_, h⟩ | ⟨_, h⟩ <;> rw [h]
      · omega
      · rw [List.length_append]; exact Nat.le_refl _
    show (addP e ps (add L e p.1 p.2)).length ≤ _
    rw [List.length_cons]
    omega
theorem add_has {L : List (Ent α)} {e : Ent α} {m : D} {t : α} : t ∈ (add L e m t).map (·.rm) := by
  rcases add_casesG (L := L) (e := e) (m := m) (t := t) with ⟨h, h2⟩ | ⟨h, h2⟩ <;> rw [h2]
  · exact h
  · rw [List.map_append]; simp
/-! the numbers, as a dict -/
variable (cd : α → List Key)
abbrev kxG (L : List (Ent α)) : List (List Key) := L.map fun e => cd e.rm
abbrev vxG (L : List (Ent α)) : List D := (List.range L.length).map natD
abbrev txG (L : List (Ent α)) : List D := L.map fun e => .tk (cd e.rm)
variable {cd}
theorem lkG {β : Type} (inj : ∀ a b, cd a = cd b → a = b) : ∀ {L : List (Ent α)} {vs : List β} {t : α}, L.length = vs.length → lk (kxG cd L) vs (cd t) = if t ∈ L.map (·.rm) then vs[ixW L t]? else none
  | [], [], t, _ => by rw [if_neg (by simp)]; rfl
  | [], _ :: _, t, h => by cases h
  | _ :: _, [], t, h => by cases h
  | e :: L, v :: vs, t, h => by
    show (if cd e.rm = cd t then some v else lk (kxG cd L) vs (cd t)) = _
    by_cases z : e.rm = t
    · subst z
      rw [if_pos rfl, if_pos (by simp)]
      unfold ixW
      rw [List.map_cons, List.idxOf_cons_self]; rfl
    · have ih := lkG (L := L) (vs := vs) (t := t) inj (Nat.succ.inj h)
      rw [if_neg fun q => z (inj _ _ q), ih]
      by_cases m : t ∈ L.map (·.rm)
      · rw [if_pos m, if_pos (by rw [List.map_cons]; exact List.mem_cons_of_mem _ m)]
        unfold ixW
        rw [List.map_cons, List.idxOf_cons, show (e.rm == t) = false from beq_false_of_ne z]
        rfl
      · rw [if_neg m, if_neg (by rw [List.map_cons, List.mem_cons, not_or]; exact ⟨fun q => z q.symm, m⟩)]
theorem lk_in (inj : ∀ a b, cd a = cd b → a = b) {L : List (Ent α)} {t : α} (m : t ∈ L.map (·.rm)) : lk (kxG cd L) (vxG L) (cd t) = some (natD (ixW L t)) := by
  rw [lkG inj (by rw [List.length_map, List.length_range]), if_pos m, List.getElem?_map, List.getElem?_range (ixW_lt m)]; rfl
theorem lk_out (inj : ∀ a b, cd a = cd b → a = b) {L : List (Ent α)} {t : α} (m : t ∉ L.map (·.rm)) : lk (kxG cd L) (vxG L) (cd t) = none := by
  rw [lkG inj (by rw [List.length_map, List.length_range]), if_neg m]
theorem pk_add (inj : ∀ a b, cd a = cd b → a = b) {L : List (Ent α)} {x : Ent α} (m : x.rm ∉ L.map (·.rm)) : pk (kxG cd L) (cd x.rm) = kxG cd (L ++ [x]) ∧ pd (kxG cd L) (vxG L) (cd x.rm) (natD L.length) = vxG (L ++ [x]) := by
  have h : (kxG cd L).any (fun k => decide (k = cd x.rm)) = false := by
    rw [List.any_eq_false]
    intro k hk z
    obtain ⟨e, he, rfl⟩ := List.mem_map.mp hk
    exact m (List.mem_map.mpr ⟨e, he, inj _ _ (of_decide_eq_true z)⟩)
  unfold pk pd
  rw [if_neg (by rw [h]; exact Bool.false_ne_true), if_neg (by rw [h]; exact Bool.false_ne_true)]
  refine ⟨by unfold kxG; rw [List.map_append]; rfl, ?_⟩
  unfold vxG
  rw [List.length_append, List.length_singleton, List.range_succ, List.map_append]; rfl
end
theorem big_lt {n : Nat} (h : n ≤ 1000000) : n < sizeLine := by rw [sizeLine_eq]; omega
end M

namespace M
/-! ### classes of rooms, and how one is cut into pieces -/
abbrev gC (cs : List Nat) (r : Nat) : Nat := cs.getD r 0
abbrev gM (ms : List (List Nat)) (k : Nat) : List Nat := ms.getD k []
structure Mo (n : Nat) (cs : List Nat) (ms : List (List Nat)) : Prop where
  len : cs.length = n
  lt : ∀ r, r < n → gC cs r < ms.length
  nd : ∀ k, k < ms.length → (gM ms k).Nodup
  mem : ∀ k, k < ms.length → ∀ r, r ∈ gM ms k ↔ r < n ∧ gC cs r = k
/-- all of these get that number -/
def setAll (cs : List Nat) (q : List Nat) (k : Nat) : List Nat := q.foldl (fun c r => c.set r k) cs
theorem setAll_len {k : Nat} : ∀ {q cs : List Nat}, (setAll cs q k).length = cs.length
  | [], _ => rfl
  | x :: q, cs => by
    show (setAll (cs.set x k) q k).length = _
    rw [setAll_len, List.length_set]
theorem setAll_at {k r : Nat} : ∀ {q cs : List Nat}, r < cs.length → gC (setAll cs q k) r = if r ∈ q then k else gC cs r
  | [], _, _ => by simp [setAll]
  | x :: q, cs, h => by
    show gC (setAll (cs.set x k) q k) r = _
    rw [setAll_at (by rw [List.length_set]; exact h)]
    by_cases h1 : r ∈ q
    · rw [if_pos h1, if_pos (List.mem_cons_of_mem _ h1)]
    · rw [if_neg h1]
      by_cases h2 : r = x
      · subst h2
        rw [if_pos List.mem_cons_self]
        show (cs.set r k).getD r 0 = k
        rw [List.getD_eq_getElem?_getD, List.getElem?_set_self h]; rfl
      · rw [if_neg (by rw [List.mem_cons, not_or]; exact ⟨h2, h1⟩)]
        show (cs.set x k).getD r 0 = cs.getD r 0
        rw [List.getD_eq_getElem?_getD, List.getElem?_set_ne (Ne.symm h2), ← List.getD_eq_getElem?_getD]
def numb : List (List Nat) → List Nat → List (List Nat) → List Nat × List (List Nat)
  | [], cs, ms => (cs, ms)
  | q :: qs, cs, ms => numb qs (setAll cs q ms.length) (if q = [] then ms else ms ++ [q])
structure Pre (n : Nat) (cs : List Nat) (ms qs : List (List Nat)) : Prop where
  len : cs.length = n
  nd : ∀ k, k < ms.length → (gM ms k).Nodup
  mem : ∀ k, k < ms.length → ∀ r, r ∈ gM ms k ↔ r < n ∧ gC cs r = k ∧ r ∉ qs.flatten
  fl : qs.flatten.Nodup
  fb : ∀ r ∈ qs.flatten, r < n
  lt : ∀ r, r < n → r ∉ qs.flatten → gC cs r < ms.length
structure Pst (n : Nat) (cs : List Nat) (ms qs : List (List Nat)) (cs' : List Nat) (ms' : List (List Nat)) : Prop where
  mo : Mo n cs' ms'
  out : ∀ r, r < n → r ∉ qs.flatten → gC cs' r = gC cs r
  inn : ∀ r, r ∈ qs.flatten → ms.length ≤ gC cs' r
  eq : ∀ r r', r ∈ qs.flatten → r' ∈ qs.flatten → (gC cs' r = gC cs' r' ↔ ∀ q ∈ qs, (r ∈ q ↔ r' ∈ q))
  le : ms.length ≤ ms'.length
  pre : ∀ k, k < ms.length → gM ms' k = gM ms k
  new : ∀ k, ms.length ≤ k → k < ms'.length → gM ms' k ≠ []
  more : qs.flatten ≠ [] → ms.length < ms'.length
theorem gM_snocL {ms : List (List Nat)} {q : List Nat} {k : Nat} (h : k < ms.length) : gM (ms ++ [q]) k = gM ms k := by
  show (ms ++ [q]).getD k [] = ms.getD k []
  rw [List.getD_eq_getElem?_getD, List.getElem?_append_left h, ← List.getD_eq_getElem?_getD]
theorem gM_snocR {ms : List (List Nat)} {q : List Nat} : gM (ms ++ [q]) ms.length = q := by
  show (ms ++ [q]).getD _ [] = q
  rw [List.getD_eq_getElem?_getD, List.getElem?_concat_length]; rfl
theorem numb_ok {n : Nat} : ∀ {qs : List (List Nat)} {cs : List Nat} {ms : List (List Nat)}, Pre n cs ms qs → Pst n cs ms qs (numb qs cs ms).1 (numb qs cs ms).2
  | [], cs, ms, h => by
    show Pst n cs ms [] cs ms
    exact ⟨⟨h.len, fun r hr => h.lt r hr (by simp), h.nd, fun k hk r => by rw [h.mem k hk r]; simp⟩, fun _ _ _ => rfl, fun r hr => by simp at hr, fun r r' hr => by simp at hr, Nat.le_refl _, fun _ _ => rfl, fun k h1 h2 => by omega, fun z => by simp at z⟩
  | q :: qs, cs, ms, h => by
    show Pst n cs ms (q :: qs) (numb qs (setAll cs q ms.length) (if q = [] then ms else ms ++ [q])).1 (numb qs (setAll cs q ms.length) (if q = [] then ms else ms ++ [q])).2
    have fl := h.fl
    rw [List.flatten_cons, List.nodup_append] at fl
    obtain ⟨fq, fr, fd⟩ := fl
    have inq : ∀ {r}, r ∈ q → r < n ∧ r ∉ qs.flatten := fun {r} hr => ⟨h.fb r (by rw [List.flatten_cons]; exact List.mem_append_left _ hr), fun z => fd r hr r z rfl⟩
    have at' : ∀ {r}, r < n → gC (setAll cs q ms.length) r = if r ∈ q then ms.length else gC cs r := fun {r} hr => setAll_at (by rw [h.len]; exact hr)
    by_cases hq : q = []
    · subst hq
      rw [if_pos rfl]
      have e : setAll cs [] ms.length = cs := rfl
      rw [e]
      have p : Pre n cs ms qs := ⟨h.len, h.nd, fun k hk r => by rw [h.mem k hk r]; simp, fr, fun r hr => h.fb r (by simpa using hr), fun r hr hn => h.lt r hr (by simpa using hn)⟩
      have ih := numb_ok p
      exact ⟨ih.mo, fun r hr hn => ih.out r hr (by simpa using hn), fun r hr => ih.inn r (by simpa using hr), fun r r' hr hr' => by
        rw [ih.eq r r' (by simpa using hr) (by simpa using hr')]
        simp, ih.le, ih.pre, ih.new, fun z => ih.more (by simpa using z)⟩
    · rw [if_neg hq]
      have p : Pre n (setAll cs q ms.length) (ms ++ [q]) qs := by
        refine ⟨by rw [setAll_len]; exact h.len, fun k hk => ?_, fun k hk r => ?_, fr, fun r hr => h.fb r (by rw [List.flatten_cons]; exact List.mem_append_right _ hr), fun r hr hn => ?_⟩
        · rw [List.length_append, List.length_singleton] at hk
          by_cases hk2 : k < ms.length
          · rw [gM_snocL hk2]; exact h.nd k hk2
          · obtain rfl : k = ms.length := by omega
            rw [gM_snocR]; exact fq
        · rw [List.length_append, List.length_singleton] at hk
          by_cases hk2 : k < ms.length
          · rw [gM_snocL hk2, h.mem k hk2 r, List.flatten_cons, List.mem_append, not_or]
            constructor
            · rintro ⟨a, b, c, d⟩
              refine ⟨a, ?_, d⟩
              rw [at' a, if_neg c]; exact b
            · rintro ⟨a, b, d⟩
              rw [at' a] at b
              by_cases hr : r ∈ q
              · rw [if_pos hr] at b; omega
              · rw [if_neg hr] at b; exact ⟨a, b, hr, d⟩
          · obtain rfl : k = ms.length := by omega
            rw [gM_snocR]
            constructor
            · intro hr
              obtain ⟨a, b⟩ := inq hr
              refine ⟨a, ?_, b⟩
              rw [at' a, if_pos hr]
            · rintro ⟨a, b, d⟩
              rw [at' a] at b
              by_cases hr : r ∈ q
              · exact hr
              · rw [if_neg hr] at b
                have := h.lt r a (by rw [List.flatten_cons, List.mem_append, not_or]; exact ⟨hr, d⟩)
                omega
        · rw [List.length_append, List.length_singleton, at' hr]
          by_cases hrq : r ∈ q
          · rw [if_pos hrq]; omega
          · rw [if_neg hrq]
            have := h.lt r hr (by rw [List.flatten_cons, List.mem_append, not_or]; exact ⟨hrq, hn⟩)
            omega
      have ih := numb_ok p
      have le : ms.length + 1 ≤ (numb qs (setAll cs q ms.length) (ms ++ [q])).2.length := by
        have := ih.le
        rw [List.length_append, List.length_singleton] at this
        exact this
      have vq : ∀ {r}, r ∈ q → gC (numb qs (setAll cs q ms.length) (ms ++ [q])).1 r = ms.length := fun {r} hr => by
        obtain ⟨a, b⟩ := inq hr
        rw [ih.out r a b, at' a, if_pos hr]
      refine ⟨ih.mo, fun r hr hn => ?_, fun r hr => ?_, fun r r' hr hr' => ?_, by omega, fun k hk => ?_, fun k h1 h2 => ?_, fun _ => by omega⟩
      · rw [List.flatten_cons, List.mem_append, not_or] at hn
        rw [ih.out r hr hn.2, at' hr, if_neg hn.1]
      · rw [List.flatten_cons, List.mem_append] at hr
        rcases hr with hr | hr
        · rw [vq hr]; exact Nat.le_refl _
        · have := ih.inn r hr
          rw [List.length_append, List.length_singleton] at this
          omega
      · rw [List.flatten_cons, List.mem_append] at hr hr'
        have big : ∀ {r}, r ∈ qs.flatten → ms.length < gC (numb qs (setAll cs q ms.length) (ms ++ [q])).1 r := fun {r} hr => by
          have := ih.inn r hr
          rw [List.length_append, List.length_singleton] at this
          omega
        rcases hr with hr | hr <;> rcases hr' with hr' | hr'
        · rw [vq hr, vq hr']
          refine ⟨fun _ x hx => ?_, fun _ => rfl⟩
          rcases List.mem_cons.mp hx with rfl | hx
          · exact ⟨fun _ => hr', fun _ => hr⟩
          · exact ⟨fun z => absurd (List.mem_flatten.mpr ⟨x, hx, z⟩) (inq hr).2, fun z => absurd (List.mem_flatten.mpr ⟨x, hx, z⟩) (inq hr').2⟩
        · have := big hr'
          rw [vq hr]
          refine ⟨fun z => by omega, fun z => ?_⟩
          exact absurd ((z q List.mem_cons_self).mp hr) fun y => (inq y).2 hr'
        · have := big hr
          rw [vq hr']
          refine ⟨fun z => by omega, fun z => ?_⟩
          exact absurd ((z q List.mem_cons_self).mpr hr') fun y => (inq y).2 hr
        · rw [ih.eq r r' hr hr']
          refine ⟨fun z x hx => ?_, fun z x hx => z x (List.mem_cons_of_mem _ hx)⟩
          rcases List.mem_cons.mp hx with rfl | hx
          · exact ⟨fun y => absurd hr (inq y).2, fun y => absurd hr' (inq y).2⟩
          · exact z x hx
      · rw [ih.pre k (by rw [List.length_append]; omega), gM_snocL hk]
      · by_cases hk : k = ms.length
        · subst hk
          rw [ih.pre _ (by rw [List.length_append, List.length_singleton]; omega), gM_snocR]; exact hq
        · exact ih.new k (by rw [List.length_append, List.length_singleton]; omega) h2
end M

namespace M
structure Cut (n num : Nat) (ps : List (List Nat)) (cs : List Nat) (ms : List (List Nat)) (cs' : List Nat) (ms' : List (List Nat)) (ren : List Nat) : Prop where
  mo : Mo n cs' ms'
  eq : ∀ r r', r < n → r' < n → (gC cs' r = gC cs' r' ↔ gC cs r = gC cs r' ∧ ∀ p ∈ ps, (r ∈ p ↔ r' ∈ p))
  rn : ∀ r, r ∈ ren ↔ r < n ∧ ms.length ≤ gC cs' r
  nd : ren.Nodup
  cl : ∀ r ∈ ren, gC cs r = num
  st : ∀ r, r < n → r ∉ ren → gC cs' r = gC cs r
  le : ms.length ≤ ms'.length
  more : ren ≠ [] → ms.length < ms'.length
  oth : ∀ k, k < ms.length → k ≠ num → gM ms' k = gM ms k
  ne : (∀ k, 1 ≤ k → k < ms.length → gM ms k ≠ []) → (num = 0 ∨ ∀ p ∈ ps, p ≠ []) → ∀ k, 1 ≤ k → k < ms'.length → gM ms' k ≠ []
def restOf (ms : List (List Nat)) (num : Nat) (ps : List (List Nat)) : List Nat := (gM ms num).filter fun r => decide (r ∉ ps.flatten)
theorem gM_set {ms : List (List Nat)} {num k : Nat} {q : List Nat} (h : num < ms.length) : gM (ms.set num q) k = if k = num then q else gM ms k := by
  show (ms.set num q).getD k [] = _
  by_cases e : k = num
  · subst e
    rw [if_pos rfl, List.getD_eq_getElem?_getD, List.getElem?_set_self h]; rfl
  · rw [if_neg e, List.getD_eq_getElem?_getD, List.getElem?_set_ne (Ne.symm e), ← List.getD_eq_getElem?_getD]
theorem cut_ok {n num : Nat} {ps : List (List Nat)} {cs : List Nat} {ms : List (List Nat)} {keep : List Nat} {qs : List (List Nat)} (mo : Mo n cs ms) (hn : num < ms.length) (nd : ps.flatten.Nodup) (sub : ∀ r ∈ ps.flatten, r ∈ gM ms num)
    (pm : (keep :: qs).Perm (restOf ms num ps :: ps)) (kn : (∀ p ∈ ps, p ≠ []) → keep ≠ []) : Cut n num ps cs ms (numb qs cs (ms.set num keep)).1 (numb qs cs (ms.set num keep)).2 qs.flatten := by
  have pf := pm.flatten
  rw [List.flatten_cons, List.flatten_cons] at pf
  have ndr : (restOf ms num ps ++ ps.flatten).Nodup := by
    rw [List.nodup_append]
    refine ⟨(mo.nd num hn).filter _, nd, fun a ha b hb e => ?_⟩
    subst e
    have := of_decide_eq_true (List.mem_filter.mp ha).2
    exact this hb
  have ndk := (pf.nodup_iff).mpr ndr
  rw [List.nodup_append] at ndk
  obtain ⟨nk, nq, nkq⟩ := ndk
  have mem : ∀ r, (r ∈ keep ∨ r ∈ qs.flatten) ↔ r < n ∧ gC cs r = num := fun r => by
    rw [← List.mem_append, pf.mem_iff, List.mem_append, ← mo.mem num hn r]
    constructor
    · rintro (h | h)
      · exact (List.mem_filter.mp h).1
      · exact sub r h
    · intro h
      by_cases hp : r ∈ ps.flatten
      · exact .inr hp
      · exact .inl (List.mem_filter.mpr ⟨h, decide_eq_true hp⟩)
  have pre : Pre n cs (ms.set num keep) qs := by
    refine ⟨mo.len, fun k hk => ?_, fun k hk r => ?_, nq, fun r hr => ((mem r).mp (.inr hr)).1, fun r hr _ => by rw [List.length_set]; exact mo.lt r hr⟩
    · rw [List.length_set] at hk
      rw [gM_set hn]
      by_cases e : k = num
      · rw [if_pos e]; exact nk
      · rw [if_neg e]; exact mo.nd k hk
    · rw [List.length_set] at hk
      rw [gM_set hn]
      by_cases e : k = num
      · subst e
        rw [if_pos rfl]
        constructor
        · intro h
          obtain ⟨a, b⟩ := (mem r).mp (.inl h)
          exact ⟨a, b, fun z => nkq r h r z rfl⟩
        · rintro ⟨a, b, c⟩
          exact ((mem r).mpr ⟨a, b⟩).elim id fun z => absurd z c
      · rw [if_neg e, mo.mem k hk r]
        refine ⟨fun ⟨a, b⟩ => ⟨a, b, fun z => e ?_⟩, fun ⟨a, b, _⟩ => ⟨a, b⟩⟩
        have := ((mem r).mp (.inr z)).2
        omega
  have P := numb_ok pre
  have hl : (ms.set num keep).length = ms.length := List.length_set
  have inn : ∀ r, r ∈ qs.flatten → ms.length ≤ gC (numb qs cs (ms.set num keep)).1 r := fun r hr => by have := P.inn r hr; rw [hl] at this; exact this
  -- alike by the pieces, alike by the new ones
  have to : ∀ r r', gC cs r = num → r < n → gC cs r' = num → r' < n → (∀ p ∈ ps, (r ∈ p ↔ r' ∈ p)) → ∀ x ∈ keep :: qs, (r ∈ x ↔ r' ∈ x) := fun r r' h1 h2 h3 h4 h x hx => by
    have hx := pm.mem_iff.mp hx
    rcases List.mem_cons.mp hx with rfl | hx
    · have hf : r ∈ ps.flatten ↔ r' ∈ ps.flatten := by
        rw [List.mem_flatten, List.mem_flatten]
        exact ⟨fun ⟨p, a, b⟩ => ⟨p, a, (h p a).mp b⟩, fun ⟨p, a, b⟩ => ⟨p, a, (h p a).mpr b⟩⟩
      unfold restOf
      rw [List.mem_filter, List.mem_filter, mo.mem num hn, mo.mem num hn]
      simp only [decide_eq_true_eq, hf, h1, h2, h3, h4]
    · exact h x hx
  refine ⟨P.mo, fun r r' hr hr' => ?_, fun r => ?_, nq, fun r hr => ((mem r).mp (.inr hr)).2, fun r hr h => P.out r hr h, by have := P.le; rw [hl] at this; exact this, fun h => by have := P.more h; rw [hl] at this; exact this, fun k hk e => ?_, fun h0 h1 k k1 k2 => ?_⟩
  · by_cases a : r ∈ qs.flatten <;> by_cases b : r' ∈ qs.flatten
    · obtain ⟨a1, a2⟩ := (mem r).mp (.inr a)
      obtain ⟨b1, b2⟩ := (mem r').mp (.inr b)
      rw [P.eq r r' a b]
      constructor
      · intro h
        refine ⟨by rw [a2, b2], fun p hp => ?_⟩
        have hp := pm.mem_iff.mpr (List.mem_cons_of_mem _ hp)
        rcases List.mem_cons.mp hp with rfl | hp
        · exact ⟨fun z => absurd rfl (nkq r z r a), fun z => absurd rfl (nkq r' z r' b)⟩
        · exact h p hp
      · exact fun h q hq => to r r' a2 a1 b2 b1 h.2 q (List.mem_cons_of_mem _ hq)
    · obtain ⟨a1, a2⟩ := (mem r).mp (.inr a)
      have i := inn r a
      have o := P.out r' hr' b
      have l := mo.lt r' hr'
      refine ⟨fun z => by omega, fun ⟨z1, z2⟩ => ?_⟩
      obtain ⟨q, hq, hrq⟩ := List.mem_flatten.mp a
      have := (to r r' a2 a1 (by rw [← z1]; exact a2) hr' z2 q (List.mem_cons_of_mem _ hq)).mp hrq
      exact absurd (List.mem_flatten.mpr ⟨q, hq, this⟩) b
    · obtain ⟨b1, b2⟩ := (mem r').mp (.inr b)
      have i := inn r' b
      have o := P.out r hr a
      have l := mo.lt r hr
      refine ⟨fun z => by omega, fun ⟨z1, z2⟩ => ?_⟩
      obtain ⟨q, hq, hrq⟩ := List.mem_flatten.mp b
      have := (to r r' (by rw [z1]; exact b2) hr b2 b1 z2 q (List.mem_cons_of_mem _ hq)).mpr hrq
      exact absurd (List.mem_flatten.mpr ⟨q, hq, this⟩) a
    · rw [P.out r hr a, P.out r' hr' b]
      refine ⟨fun z => ⟨z, fun p hp => ?_⟩, fun z => z.1⟩
      by_cases e : gC cs r = num
      · have ek := ((mem r).mpr ⟨hr, e⟩).elim id fun z => absurd z a
        have ek' := ((mem r').mpr ⟨hr', by rw [← z]; exact e⟩).elim id fun z => absurd z b
        have hp := pm.mem_iff.mpr (List.mem_cons_of_mem _ hp)
        rcases List.mem_cons.mp hp with rfl | hp
        · exact ⟨fun _ => ek', fun _ => ek⟩
        · exact ⟨fun z => absurd (List.mem_flatten.mpr ⟨p, hp, z⟩) a, fun z => absurd (List.mem_flatten.mpr ⟨p, hp, z⟩) b⟩
      · have no : ∀ {x}, gC cs x ≠ num → x ∉ p := fun {x} hx z => hx ((mo.mem num hn x).mp (sub x (List.mem_flatten.mpr ⟨p, hp, z⟩))).2
        exact ⟨fun y => absurd y (no e), fun y => absurd y (no (by rw [← z]; exact e))⟩
  · constructor
    · exact fun h => ⟨((mem r).mp (.inr h)).1, inn r h⟩
    · rintro ⟨h1, h2⟩
      by_cases a : r ∈ qs.flatten
      · exact a
      · have o := P.out r h1 a
        have l := mo.lt r h1
        omega
  · rw [P.pre k (by rw [hl]; exact hk), gM_set hn, if_neg e]
  · by_cases hk : k < ms.length
    · rw [P.pre k (by rw [hl]; exact hk), gM_set hn]
      by_cases e : k = num
      · rw [if_pos e]
        rcases h1 with h1 | h1
        · omega
        · exact kn h1
      · rw [if_neg e]; exact h0 k k1 hk
    · exact P.new k (by rw [hl]; omega) k2
end M

namespace M
/-! ### one round over all classes -/
/-- an item of what was sorted out: a class, its pieces -/
abbrev Itm := Nat × List (List Nat)
structure Srt1 (n : Nat) (cs : List Nat) (T : Nat → Prop) (row : Nat → List Nat) (e : Itm) : Prop where
  ne : e.2 ≠ []
  nn : ∀ p ∈ e.2, p ≠ []
  nd : e.2.flatten.Nodup
  inn : ∀ r ∈ e.2.flatten, r < n ∧ gC cs r = e.1
  eq : ∀ r r', r < n → r' < n → gC cs r = e.1 → gC cs r' = e.1 → ((∀ p ∈ e.2, (r ∈ p ↔ r' ∈ p)) ↔ (T r ↔ T r') ∧ (T r → row r = row r'))
structure Srt (n : Nat) (cs : List Nat) (T : Nat → Prop) (row : Nat → List Nat) (es : List Itm) : Prop where
  each : ∀ e ∈ es, Srt1 n cs T row e
  keys : (es.map (·.1)).Nodup
  cov : ∀ r, r < n → T r → gC cs r ∈ es.map (·.1)
def NeM (ms : List (List Nat)) : Prop := ∀ k, 1 ≤ k → k < ms.length → gM ms k ≠ []
structure Rnd (n : Nat) (cs : List Nat) (ms : List (List Nat)) (T : Nat → Prop) (row : Nat → List Nat) (ks : List Nat) (cs' : List Nat) (ms' : List (List Nat)) (ren : List Nat) : Prop where
  mo : Mo n cs' ms'
  eq : ∀ r r', r < n → r' < n → (gC cs' r = gC cs' r' ↔ gC cs r = gC cs r' ∧ (gC cs r ∈ ks → (T r ↔ T r') ∧ (T r → row r = row r')))
  rn : ∀ r, r ∈ ren ↔ r < n ∧ ms.length ≤ gC cs' r
  nd : ren.Nodup
  st : ∀ r, r < n → r ∉ ren → gC cs' r = gC cs r
  le : ms.length ≤ ms'.length
  more : ren ≠ [] → ms.length < ms'.length
  oth : ∀ k, k < ms.length → k ∉ ks → gM ms' k = gM ms k
  ne : NeM ms'
theorem Rnd.start {n : Nat} {cs : List Nat} {ms : List (List Nat)} {T : Nat → Prop} {row : Nat → List Nat} (mo : Mo n cs ms) (ne : NeM ms) : Rnd n cs ms T row [] cs ms [] := by
  refine ⟨mo, fun r r' _ _ => by simp, fun r => ?_, List.nodup_nil, fun _ _ _ => rfl, Nat.le_refl _, fun z => absurd rfl z, fun _ _ _ => rfl, ne⟩
  constructor
  · intro h; cases h
  · rintro ⟨a, b⟩
    have := mo.lt r a
    omega
theorem Rnd.step {n : Nat} {cs : List Nat} {ms : List (List Nat)} {T : Nat → Prop} {row : Nat → List Nat} {ks : List Nat} {cs' : List Nat} {ms' : List (List Nat)} {ren : List Nat} {e : Itm} {cs2 : List Nat} {ms2 : List (List Nat)} {ren2 : List Nat}
    (h : Rnd n cs ms T row ks cs' ms' ren) (s : Srt1 n cs T row e) (he : e.1 < ms.length) (hk : e.1 ∉ ks) (c : Cut n e.1 e.2 cs' ms' cs2 ms2 ren2) : Rnd n cs ms T row (ks ++ [e.1]) cs2 ms2 (ren ++ ren2) := by
  refine ⟨c.mo, fun r r' hr hr' => ?_, fun r => ?_, ?_, fun r hr hn => ?_, Nat.le_trans h.le c.le, fun z => ?_, fun k k1 k2 => ?_, c.ne h.ne (.inr s.nn)⟩
  · rw [c.eq r r' hr hr', h.eq r r' hr hr']
    have no : ∀ x, x < n → gC cs x ≠ e.1 → ∀ p ∈ e.2, x ∉ p := fun x hx hc p hp z => hc (s.inn x (List.mem_flatten.mpr ⟨p, hp, z⟩)).2
    constructor
    · rintro ⟨⟨a, b⟩, d⟩
      refine ⟨a, fun hm => ?_⟩
      rcases List.mem_append.mp hm with hm | hm
      · exact b hm
      · have hm := List.mem_singleton.mp hm
        exact (s.eq r r' hr hr' hm (by rw [← a]; exact hm)).mp d
    · rintro ⟨a, b⟩
      refine ⟨⟨a, fun hm => b (List.mem_append_left _ hm)⟩, ?_⟩
      by_cases hc : gC cs r = e.1
      · exact (s.eq r r' hr hr' hc (by rw [← a]; exact hc)).mpr (b (List.mem_append_right _ (List.mem_singleton.mpr hc)))
      · exact fun p hp => ⟨fun z => absurd z (no r hr hc p hp), fun z => absurd z (no r' hr' (by rw [← a]; exact hc) p hp)⟩
  · rw [List.mem_append]
    constructor
    · rintro (z | z)
      · obtain ⟨a, b⟩ := (h.rn r).mp z
        refine ⟨a, ?_⟩
        by_cases q : r ∈ ren2
        · have := ((c.rn r).mp q).2
          have := h.le
          omega
        · rw [c.st r a q]; exact b
      · obtain ⟨a, b⟩ := (c.rn r).mp z
        have := h.le
        exact ⟨a, by omega⟩
    · rintro ⟨a, b⟩
      by_cases q : r ∈ ren2
      · exact .inr q
      · rw [c.st r a q] at b
        exact .inl ((h.rn r).mpr ⟨a, b⟩)
  · rw [List.nodup_append]
    refine ⟨h.nd, c.nd, fun a ha b hb z => ?_⟩
    subst z
    have := c.cl a hb
    have := ((h.rn a).mp ha).2
    omega
  · rw [List.mem_append, not_or] at hn
    rw [c.st r hr hn.2, h.st r hr hn.1]
  · by_cases q : ren2 = []
    · rw [q, List.append_nil] at z
      exact Nat.lt_of_lt_of_le (h.more z) c.le
    · exact Nat.lt_of_le_of_lt h.le (c.more q)
  · rw [List.mem_append, not_or, List.mem_singleton] at k2
    rw [c.oth k (Nat.lt_of_lt_of_le k1 h.le) k2.2, h.oth k k1 k2.1]
/-- all classes are through -/
theorem Rnd.whole {n : Nat} {cs : List Nat} {ms : List (List Nat)} {T : Nat → Prop} {row : Nat → List Nat} {es : List Itm} {cs' : List Nat} {ms' : List (List Nat)} {ren : List Nat} (h : Rnd n cs ms T row (es.map (·.1)) cs' ms' ren) (s : Srt n cs T row es) :
    ∀ r r', r < n → r' < n → (gC cs' r = gC cs' r' ↔ gC cs r = gC cs r' ∧ (T r ↔ T r') ∧ (T r → row r = row r')) := fun r r' hr hr' => by
  rw [h.eq r r' hr hr']
  constructor
  · rintro ⟨a, b⟩
    refine ⟨a, ?_⟩
    by_cases hc : gC cs r ∈ es.map (·.1)
    · exact b hc
    · have n1 : ¬ T r := fun z => hc (s.cov r hr z)
      have n2 : ¬ T r' := fun z => hc (by rw [a]; exact s.cov r' hr' z)
      exact ⟨⟨fun z => absurd z n1, fun z => absurd z n2⟩, fun z => absurd z n1⟩
  · rintro ⟨a, b⟩
    exact ⟨a, fun _ => b⟩
/-! ### rooms that no row tells apart -/
abbrev dl (st : List (List Nat)) (r k : Nat) : Nat := (st.getD r []).getD k 0
def walkR (st : List (List Nat)) (r : Nat) (w : List Nat) : Nat := w.foldl (dl st) r
abbrev gG (gd : List Bool) (r : Nat) : Bool := gd.getD r false
/-- no row of marks tells r from r' -/
def Eqv (m : Nat) (st : List (List Nat)) (gd : List Bool) (r r' : Nat) : Prop := ∀ w : List Nat, (∀ k ∈ w, k < m) → gG gd (walkR st r w) = gG gd (walkR st r' w)
structure StOk (n m : Nat) (st : List (List Nat)) : Prop where
  len : st.length = n
  rl : ∀ r, r < n → (st.getD r []).length = m
  rb : ∀ r k, r < n → k < m → dl st r k < n
theorem Eqv.step {m : Nat} {st : List (List Nat)} {gd : List Bool} {r r' k : Nat} (h : Eqv m st gd r r') (hk : k < m) : Eqv m st gd (dl st r k) (dl st r' k) := fun w hw => h (k :: w) fun x hx => by
  rcases List.mem_cons.mp hx with rfl | hx
  · exact hk
  · exact hw x hx
theorem Eqv.good {m : Nat} {st : List (List Nat)} {gd : List Bool} {r r' : Nat} (h : Eqv m st gd r r') : gG gd r = gG gd r' := h [] (fun _ z => by cases z)
theorem eqv_of {n m : Nat} {st : List (List Nat)} {gd : List Bool} (S : Nat → Nat → Prop) (hs : ∀ r r', S r r' → gG gd r = gG gd r' ∧ ∀ k, k < m → S (dl st r k) (dl st r' k)) : ∀ {r r'}, S r r' → Eqv m st gd r r' := by
  intro r r' h w
  induction w generalizing r r' with
  | nil => exact fun _ => (hs r r' h).1
  | cons k w ih => exact fun hw => ih ((hs r r' h).2 k (hw k List.mem_cons_self)) fun x hx => hw x (List.mem_cons_of_mem _ hx)
/-- the rooms' rows of classes -/
def rowC (st : List (List Nat)) (cs : List Nat) (r : Nat) : List Nat := (st.getD r []).map (gC cs)
theorem rowC_eq {n m : Nat} {st : List (List Nat)} {cs : List Nat} (ok : StOk n m st) {r r' : Nat} (hr : r < n) (hr' : r' < n) : rowC st cs r = rowC st cs r' ↔ ∀ k, k < m → gC cs (dl st r k) = gC cs (dl st r' k) := by
  have l1 := ok.rl r hr
  have l2 := ok.rl r' hr'
  unfold rowC
  constructor
  · intro h k hk
    have := congrArg (fun l => l[k]?) h
    simp only [List.getElem?_map] at this
    rw [List.getElem?_eq_getElem (by omega), List.getElem?_eq_getElem (by omega)] at this
    have e := Option.some.inj this
    show gC cs ((st.getD r []).getD k 0) = gC cs ((st.getD r' []).getD k 0)
    rw [List.getD_eq_getElem?_getD (l := st.getD r []), List.getD_eq_getElem?_getD (l := st.getD r' []), List.getElem?_eq_getElem (by omega), List.getElem?_eq_getElem (by omega)]
    exact e
  · intro h
    refine List.ext_getElem (by rw [List.length_map, List.length_map]; omega) fun k h1 h2 => ?_
    rw [List.length_map] at h1 h2
    rw [List.getElem_map, List.getElem_map]
    have := h k (by omega)
    rw [show dl st r k = (st.getD r [])[k] by show (st.getD r []).getD k 0 = _; rw [List.getD_eq_getElem?_getD, List.getElem?_eq_getElem h1]; rfl,
      show dl st r' k = (st.getD r' [])[k] by show (st.getD r' []).getD k 0 = _; rw [List.getD_eq_getElem?_getD, List.getElem?_eq_getElem h2]; rfl] at this
    exact this
/-- what holds ahead of each round -/
structure Wh (n m : Nat) (st : List (List Nat)) (gd : List Bool) (cs : List Nat) (ms : List (List Nat)) (ren : List Nat) : Prop where
  mo : Mo n cs ms
  ne : NeM ms
  nd : ren.Nodup
  fine : ∀ r r', r < n → r' < n → Eqv m st gd r r' → gC cs r = gC cs r'
  prev : ∃ cs0 : List Nat, ∃ N : Nat, (∀ r r', r < n → r' < n → gC cs r = gC cs r' → gG gd r = gG gd r' ∧ ∀ k, k < m → gC cs0 (dl st r k) = gC cs0 (dl st r' k)) ∧
    (∀ r, r ∈ ren ↔ r < n ∧ N ≤ gC cs r) ∧ ∀ r, r < n → r ∉ ren → gC cs r = gC cs0 r
/-- a step leads to one of these -/
def Leads (m : Nat) (st : List (List Nat)) (ren : List Nat) (r : Nat) : Prop := ∃ k, k < m ∧ dl st r k ∈ ren
theorem Wh.round {n m : Nat} {st : List (List Nat)} {gd : List Bool} {cs : List Nat} {ms : List (List Nat)} {ren : List Nat} {es : List Itm} {cs' : List Nat} {ms' : List (List Nat)} {ren' : List Nat} (ok : StOk n m st) (h : Wh n m st gd cs ms ren)
    (s : Srt n cs (Leads m st ren) (rowC st cs) es) (q : Rnd n cs ms (Leads m st ren) (rowC st cs) (es.map (·.1)) cs' ms' ren') : Wh n m st gd cs' ms' ren' := by
  have w := q.whole s
  obtain ⟨cs0, N, p1, p2, p3⟩ := h.prev
  refine ⟨q.mo, q.ne, q.nd, fun r r' hr hr' e => ?_, cs, ms.length, fun r r' hr hr' e => ?_, q.rn, q.st⟩
  · rw [w r r' hr hr']
    have go : ∀ k, k < m → gC cs (dl st r k) = gC cs (dl st r' k) := fun k hk => h.fine _ _ (ok.rb r k hr hk) (ok.rb r' k hr' hk) (e.step hk)
    have tt : Leads m st ren r ↔ Leads m st ren r' := by
      constructor
      · rintro ⟨k, hk, hd⟩
        refine ⟨k, hk, (p2 _).mpr ⟨ok.rb r' k hr' hk, ?_⟩⟩
        rw [← go k hk]; exact ((p2 _).mp hd).2
      · rintro ⟨k, hk, hd⟩
        refine ⟨k, hk, (p2 _).mpr ⟨ok.rb r k hr hk, ?_⟩⟩
        rw [go k hk]; exact ((p2 _).mp hd).2
    exact ⟨h.fine r r' hr hr' e, tt, fun _ => (rowC_eq ok hr hr').mpr go⟩
  · obtain ⟨a, b, c⟩ := (w r r' hr hr').mp e
    obtain ⟨g, d⟩ := p1 r r' hr hr' a
    refine ⟨g, ?_⟩
    by_cases t : Leads m st ren r
    · exact (rowC_eq ok hr hr').mp (c t)
    · have t' : ¬ Leads m st ren r' := fun z => t (b.mpr z)
      intro k hk
      rw [p3 _ (ok.rb r k hr hk) fun z => t ⟨k, hk, z⟩, p3 _ (ok.rb r' k hr' hk) fun z => t' ⟨k, hk, z⟩]
      exact d k hk
/-- nothing more to be cut -/
theorem Wh.done {n m : Nat} {st : List (List Nat)} {gd : List Bool} {cs : List Nat} {ms : List (List Nat)} (ok : StOk n m st) (h : Wh n m st gd cs ms []) : ∀ r r', r < n → r' < n → (gC cs r = gC cs r' ↔ Eqv m st gd r r') := fun r r' hr hr' => by
  obtain ⟨cs0, N, p1, p2, p3⟩ := h.prev
  refine ⟨fun e => ?_, h.fine r r' hr hr'⟩
  refine eqv_of (n := n) (fun x y => x < n ∧ y < n ∧ gC cs x = gC cs y) (fun x y ⟨hx, hy, e⟩ => ?_) ⟨hr, hr', e⟩
  obtain ⟨a, b⟩ := p1 x y hx hy e
  refine ⟨a, fun k hk => ⟨ok.rb x k hx hk, ok.rb y k hy hk, ?_⟩⟩
  rw [p3 _ (ok.rb x k hx hk) (by simp), p3 _ (ok.rb y k hy hk) (by simp)]
  exact b k hk
/-- the start: by good alone -/
theorem Wh.start {n m : Nat} {st : List (List Nat)} {gd : List Bool} {ps : List (List Nat)} {cs' : List Nat} {ms' : List (List Nat)} {ren : List Nat} (ok : StOk n m st) (c : Cut n 0 ps (List.replicate n 0) [List.range n] cs' ms' ren) (hp : ∀ r r', r < n → r' < n → ((∀ p ∈ ps, (r ∈ p ↔ r' ∈ p)) ↔ gG gd r = gG gd r')) : Wh n m st gd cs' ms' ren := by
  have z0 : ∀ r, gC (List.replicate n 0) r = 0 := fun r => by
    show (List.replicate n 0).getD r 0 = 0
    rw [List.getD_eq_getElem?_getD, List.getElem?_replicate]
    split <;> rfl
  refine ⟨c.mo, c.ne (fun k h1 h2 => by simp at h2; omega) (.inl rfl), c.nd, fun r r' hr hr' e => ?_, List.replicate n 0, 1, fun r r' hr hr' e => ?_, c.rn, fun r hr h => c.st r hr h⟩
  · rw [c.eq r r' hr hr']
    exact ⟨by rw [z0, z0], (hp r r' hr hr').mpr e.good⟩
  · exact ⟨(hp r r' hr hr').mp ((c.eq r r' hr hr').mp e).2, fun k hk => by rw [z0, z0]⟩
theorem Mo.start {n : Nat} : Mo n (List.replicate n 0) [List.range n] := by
  have z0 : ∀ r, gC (List.replicate n 0) r = 0 := fun r => by
    show (List.replicate n 0).getD r 0 = 0
    rw [List.getD_eq_getElem?_getD, List.getElem?_replicate]
    split <;> rfl
  refine ⟨List.length_replicate, fun r hr => by rw [z0]; exact Nat.zero_lt_one, fun k hk => ?_, fun k hk r => ?_⟩
  · obtain rfl : k = 0 := by simp at hk; omega
    exact List.nodup_range
  · obtain rfl : k = 0 := by simp at hk; omega
    show r ∈ List.range n ↔ _
    rw [List.mem_range, z0]; simp
theorem few_le : ∀ (l S : List Nat), l.Nodup → (∀ x ∈ l, x ∈ S) → l.length ≤ S.length
  | [], _, _, _ => Nat.zero_le _
  | x :: l, S, h, hs => by
    have hx := hs x (by simp)
    obtain ⟨h1, h2⟩ := List.nodup_cons.mp h
    have := few_le l (S.erase x) h2 fun y hy => (List.mem_erase_of_ne (show y ≠ x from fun z => h1 (by rw [← z]; exact hy))).mpr (hs y (by simp [hy]))
    have : 0 < S.length := List.length_pos_of_mem hx
    rw [List.length_erase_of_mem hx] at *
    rw [List.length_cons]
    omega
/-- there are few classes -/
theorem Mo.few {n : Nat} {cs : List Nat} {ms : List (List Nat)} (mo : Mo n cs ms) (ne : NeM ms) : ms.length ≤ n + 1 := by
  have nd : ∀ j, ((List.range j).map fun k => (gM ms (k + 1)).headD 0).Nodup ∨ ¬ j + 1 ≤ ms.length := fun j => by
    by_cases hj : j + 1 ≤ ms.length
    · refine .inl ?_
      rw [List.Nodup, List.pairwise_map]
      refine List.Pairwise.imp_of_mem ?_ (List.nodup_range (n := j))
      intro a b ha hb hab e
      rw [List.mem_range] at ha hb
      have hd : ∀ k, k < j → gC cs ((gM ms (k + 1)).headD 0) = k + 1 := fun k hk => by
        have q := ne (k + 1) (by omega) (by omega)
        cases e : gM ms (k + 1) with
        | nil => exact absurd e q
        | cons x l => exact ((mo.mem (k + 1) (by omega) x).mp (by rw [e]; exact List.mem_cons_self)).2
      have h1 := hd a ha
      have h2 := hd b hb
      rw [e, h2] at h1
      omega
    · exact .inr hj
  by_cases h0 : ms.length = 0
  · omega
  · rcases nd (ms.length - 1) with h | h
    · have sub : ∀ x ∈ (List.range (ms.length - 1)).map (fun k => (gM ms (k + 1)).headD 0), x ∈ List.range n := fun x hx => by
        obtain ⟨k, hk, rfl⟩ := List.mem_map.mp hx
        rw [List.mem_range] at hk ⊢
        have q := ne (k + 1) (by omega) (by omega)
        cases e : gM ms (k + 1) with
        | nil => exact absurd e q
        | cons x l => exact ((mo.mem (k + 1) (by omega) x).mp (by rw [e]; exact List.mem_cons_self)).1
      have := few_le _ _ h sub
      rw [List.length_map, List.length_range, List.length_range] at this
      omega
    · omega
end M

namespace M
open PySem L2 DL
variable [Tabs]
/-! ### two goings-through side by side -/
section
variable {α β : Type} [DecidableEq α] [DecidableEq β] {R : α → β → Prop}
structure SimL (R : α → β → Prop) (L : List (Ent α)) (M : List (Ent β)) : Prop where
  len : L.length = M.length
  at_ : ∀ (i : Nat) (x : Ent α) (y : Ent β), L[i]? = some x → M[i]? = some y → R x.rm y.rm
theorem simAdd (bi : ∀ a b a' b', R a b → R a' b' → (a = a' ↔ b = b')) {L : List (Ent α)} {N : List (Ent β)} {e : Ent α} {e' : Ent β} {m m' : D} {t : α} {t' : β} (h : SimL R L N) (r : R t t') : SimL R (add L e m t) (add N e' m' t') := by
  have iff : t ∈ L.map (·.rm) ↔ t' ∈ N.map (·.rm) := by
    constructor
    · intro z
      obtain ⟨x, hx, rfl⟩ := List.mem_map.mp z
      obtain ⟨i, hi, ei⟩ := List.getElem_of_mem hx
      have hi' : i < N.length := by rw [← h.len]; exact hi
      have q := h.at_ i x N[i] (by rw [List.getElem?_eq_getElem hi, ei]) (List.getElem?_eq_getElem hi')
      exact List.mem_map.mpr ⟨N[i], List.getElem_mem hi', (bi _ _ _ _ q r).mp rfl⟩
    · intro z
      obtain ⟨y, hy, rfl⟩ := List.mem_map.mp z
      obtain ⟨i, hi, ei⟩ := List.getElem_of_mem hy
      have hi' : i < L.length := by rw [h.len]; exact hi
      have q := h.at_ i L[i] y (List.getElem?_eq_getElem hi') (by rw [List.getElem?_eq_getElem hi, ei])
      exact List.mem_map.mpr ⟨L[i], List.getElem_mem hi', (bi _ _ _ _ q r).mpr rfl⟩
  rcases add_casesG (L := L) (e := e) (m := m) (t := t) with ⟨h1, h2⟩ | ⟨h1, h2⟩ <;> rcases add_casesG (L := N) (e := e') (m := m') (t := t') with ⟨g1, g2⟩ | ⟨g1, g2⟩
  · rw [h2, g2]; exact h
  · exact absurd (iff.mp h1) g1
  · exact absurd (iff.mpr g1) h1
  · rw [h2, g2]
    refine ⟨by rw [List.length_append, List.length_append, h.len]; rfl, fun i x y ex ey => ?_⟩
    by_cases hi : i < L.length
    · rw [List.getElem?_append_left hi] at ex
      rw [List.getElem?_append_left (by rw [← h.len]; exact hi)] at ey
      exact h.at_ i x y ex ey
    · have := (List.getElem?_eq_some_iff.mp ex).1
      rw [List.length_append, List.length_singleton] at this
      obtain rfl : i = L.length := by omega
      rw [List.getElem?_concat_length] at ex
      rw [h.len, List.getElem?_concat_length] at ey
      cases ex; cases ey
      exact r
theorem simAddP (bi : ∀ a b a' b', R a b → R a' b' → (a = a' ↔ b = b')) {e : Ent α} {e' : Ent β} : ∀ {ps : List (D × α)} {qs : List (D × β)} {L : List (Ent α)} {N : List (Ent β)}, SimL R L N → ps.length = qs.length → (∀ (i : Nat) (p : D × α) (q : D × β), ps[i]? = some p → qs[i]? = some q → R p.2 q.2) → SimL R (addP e ps L) (addP e' qs N)
  | [], [], _, _, h, _, _ => h
  | [], _ :: _, _, _, _, l, _ => by cases l
  | _ :: _, [], _, _, _, l, _ => by cases l
  | p :: ps, q :: qs, L, N, h, l, r => simAddP bi (ps := ps) (qs := qs) (simAdd bi h (r 0 p q rfl rfl)) (Nat.succ.inj l) fun i a b ea eb => r (i + 1) a b ea eb
theorem simW {nx : α → List (D × α)} {nx' : β → List (D × β)} {s0 : α} {t0 : β} (bi : ∀ a b a' b', R a b → R a' b' → (a = a' ↔ b = b')) (h0 : R s0 t0)
    (hs : ∀ a b, R a b → (nx a).length = (nx' b).length ∧ ∀ (i : Nat) (p : D × α) (q : D × β), (nx a)[i]? = some p → (nx' b)[i]? = some q → R p.2 q.2) : ∀ k, SimL R (W nx s0 k) (W nx' t0 k)
  | 0 => ⟨rfl, fun i x y ex ey => by
    cases i with
    | zero => cases ex; cases ey; exact h0
    | succ i => cases ex⟩
  | k + 1 => by
    have ih := simW bi h0 hs k
    cases h : (W nx s0 k)[k]? with
    | none =>
      have h' : (W nx' t0 k)[k]? = none := by
        rw [List.getElem?_eq_none_iff] at h ⊢
        rw [← ih.len]; exact h
      show SimL R (match (W nx s0 k)[k]? with | none => W nx s0 k | some e => addP e (nx e.rm) (W nx s0 k)) (match (W nx' t0 k)[k]? with | none => W nx' t0 k | some e => addP e (nx' e.rm) (W nx' t0 k))
      rw [h, h']; exact ih
    | some e =>
      have hk := (List.getElem?_eq_some_iff.mp h).1
      have h' : (W nx' t0 k)[k]? = some ((W nx' t0 k)[k]'(by rw [← ih.len]; exact hk)) := List.getElem?_eq_getElem _
      have r := ih.at_ k _ _ h h'
      obtain ⟨l, q⟩ := hs _ _ r
      rw [W_nextG h, W_nextG h']
      exact simAddP bi ih l q
end
/-! ### a machine's own rooms, by coming -/
def nxS (st : List (List Nat)) (r : Nat) : List (D × Nat) := (st.getD r []).map fun t => (D.non, t)
def ByC (n : Nat) (st : List (List Nat)) : Prop := ∀ k, n ≤ k → (W (nxS st) 0 k).map (·.rm) = List.range n
/-- numbered by coming, and no two rooms alike -/
structure Canon (n m : Nat) (st : List (List Nat)) (gd : List Bool) : Prop where
  ok : StOk n m st
  n0 : 0 < n
  gl : gd.length = n
  by_ : ByC n st
  red : ∀ i j, i < n → j < n → Eqv m st gd i j → i = j
theorem dl_at {n m : Nat} {st : List (List Nat)} (ok : StOk n m st) {r k : Nat} (hr : r < n) (hk : k < m) : (st.getD r [])[k]? = some (dl st r k) := by
  have : k < (st.getD r []).length := by rw [ok.rl r hr]; exact hk
  show _ = some ((st.getD r []).getD k 0)
  rw [List.getD_eq_getElem?_getD (l := st.getD r []), List.getElem?_eq_getElem this]; rfl
theorem nxS_at {n m : Nat} {st : List (List Nat)} (ok : StOk n m st) {r : Nat} (hr : r < n) : (nxS st r).length = m ∧ ∀ (i : Nat) (p : D × Nat), (nxS st r)[i]? = some p → i < m ∧ p.2 = dl st r i := by
  unfold nxS
  refine ⟨by rw [List.length_map]; exact ok.rl r hr, fun i p e => ?_⟩
  have hi := (List.getElem?_eq_some_iff.mp e).1
  rw [List.length_map, ok.rl r hr] at hi
  rw [List.getElem?_map, dl_at ok hr hi] at e
  cases e
  exact ⟨hi, rfl⟩
/-- there is one alone -/
theorem canon_one {n1 n2 m : Nat} {st1 st2 : List (List Nat)} {gd1 gd2 : List Bool} (c1 : Canon n1 m st1 gd1) (c2 : Canon n2 m st2 gd2) (h : ∀ w : List Nat, (∀ k ∈ w, k < m) → gG gd1 (walkR st1 0 w) = gG gd2 (walkR st2 0 w)) : st1 = st2 ∧ gd1 = gd2 := by
  have step : ∀ {a b k : Nat}, k < m → (∀ w : List Nat, (∀ k ∈ w, k < m) → gG gd1 (walkR st1 a w) = gG gd2 (walkR st2 b w)) → ∀ w : List Nat, (∀ k ∈ w, k < m) → gG gd1 (walkR st1 (dl st1 a k) w) = gG gd2 (walkR st2 (dl st2 b k) w) := fun {a b k} hk h w hw => h (k :: w) fun x hx => by
    rcases List.mem_cons.mp hx with rfl | hx
    · exact hk
    · exact hw x hx
  have sim := simW (R := fun a b => a < n1 ∧ b < n2 ∧ ∀ w : List Nat, (∀ k ∈ w, k < m) → gG gd1 (walkR st1 a w) = gG gd2 (walkR st2 b w)) (nx := nxS st1) (nx' := nxS st2) (s0 := 0) (t0 := 0) (fun a b a' b' ⟨h1, h2, h3⟩ ⟨g1, g2, g3⟩ => ⟨fun z => ?_, fun z => ?_⟩) ⟨c1.n0, c2.n0, h⟩ (fun a b ⟨h1, h2, h3⟩ => ?_)
  · have s := sim (max n1 n2)
    have l1 := c1.by_ (max n1 n2) (Nat.le_max_left _ _)
    have l2 := c2.by_ (max n1 n2) (Nat.le_max_right _ _)
    have e1 := congrArg List.length l1
    have e2 := congrArg List.length l2
    rw [List.length_map, List.length_range] at e1 e2
    have en : n1 = n2 := by have := s.len; omega
    subst en
    have at1 : ∀ {st : List (List Nat)} {i : Nat}, (W (nxS st) 0 (max n1 n1)).map (·.rm) = List.range n1 → i < n1 → ∃ e, (W (nxS st) 0 (max n1 n1))[i]? = some e ∧ e.rm = i := fun {st i} l hi => by
      have q := congrArg (fun l => l[i]?) l
      simp only [List.getElem?_map] at q
      rw [List.getElem?_range hi] at q
      obtain ⟨e, h1, h2⟩ := Option.map_eq_some_iff.mp q
      exact ⟨e, h1, h2⟩
    have rel : ∀ i, i < n1 → ∀ w : List Nat, (∀ k ∈ w, k < m) → gG gd1 (walkR st1 i w) = gG gd2 (walkR st2 i w) := fun i hi => by
      obtain ⟨x, x1, x2⟩ := at1 l1 hi
      obtain ⟨y, y1, y2⟩ := at1 l2 hi
      have := (s.at_ i x y x1 y1).2.2
      rw [x2, y2] at this
      exact this
    constructor
    · refine List.ext_getElem (by rw [c1.ok.len, c2.ok.len]) fun i h1 h2 => ?_
      rw [c1.ok.len] at h1
      have r1 : st1[i] = st1.getD i [] := by rw [List.getD_eq_getElem?_getD, List.getElem?_eq_getElem (by rw [c1.ok.len]; exact h1)]; rfl
      have r2 : st2[i] = st2.getD i [] := by rw [List.getD_eq_getElem?_getD, List.getElem?_eq_getElem (by rw [c2.ok.len]; exact h1)]; rfl
      rw [r1, r2]
      refine List.ext_getElem? fun k => ?_
      by_cases hk : k < m
      · rw [dl_at c1.ok h1 hk, dl_at c2.ok h1 hk]
        have q := step hk (rel i h1)
        have b1 := c1.ok.rb i k h1 hk
        have b2 := c2.ok.rb i k h1 hk
        have q2 := rel _ b1
        refine congrArg some (c2.red _ _ b1 b2 fun w hw => ?_)
        rw [← q2 w hw, q w hw]
      · rw [List.getElem?_eq_none (by rw [c1.ok.rl i h1]; omega), List.getElem?_eq_none (by rw [c2.ok.rl i h1]; omega)]
    · refine List.ext_getElem (by rw [c1.gl, c2.gl]) fun i h1 h2 => ?_
      rw [c1.gl] at h1
      have := rel i h1 [] (fun _ z => by cases z)
      have e1 : gG gd1 (walkR st1 i []) = gd1[i] := by show gd1.getD i false = _; rw [List.getD_eq_getElem?_getD, List.getElem?_eq_getElem (by rw [c1.gl]; exact h1)]; rfl
      have e2 : gG gd2 (walkR st2 i []) = gd2[i] := by show gd2.getD i false = _; rw [List.getD_eq_getElem?_getD, List.getElem?_eq_getElem (by rw [c2.gl]; exact h1)]; rfl
      rw [← e1, ← e2]; exact this
  · subst z
    exact c2.red b b' h2 g2 fun w hw => by rw [← h3 w hw, ← g3 w hw]
  · subst z
    exact c1.red a a' h1 g1 fun w hw => by rw [h3 w hw, g3 w hw]
  · obtain ⟨x1, x2⟩ := nxS_at c1.ok h1
    obtain ⟨y1, y2⟩ := nxS_at c2.ok h2
    refine ⟨by rw [x1, y1], fun i p q ep eq => ?_⟩
    obtain ⟨i1, p1⟩ := x2 i p ep
    obtain ⟨_, q1⟩ := y2 i q eq
    rw [p1, q1]
    exact ⟨c1.ok.rb a i h1 i1, c2.ok.rb b i h2 i1, step i1 h3⟩
/-! ### the machine of what came -/
section
variable {α : Type} [DecidableEq α]
/-- where the k-th mark leads -/
def goW (nx : α → List (D × α)) (a : α) (k : Nat) : α := ((nx a)[k]?.map (·.2)).getD a
theorem coming_at {nx : α → List (D × α)} {s0 : α} {S : List α} {m K : Nat} (h0 : s0 ∈ S) (hs : ∀ x ∈ S, (nx x).length = m ∧ ∀ p ∈ nx x, p.2 ∈ S) (hK : (W nx s0 K).length ≤ K) :
    StOk (W nx s0 K).length m (rowsW nx (W nx s0 K)) ∧ (∀ (i : Nat) (e : Ent α) (k : Nat), (W nx s0 K)[i]? = some e → k < m → ∃ e', (W nx s0 K)[dl (rowsW nx (W nx s0 K)) i k]? = some e' ∧ e'.rm = goW nx e.rm k) ∧ ByC (W nx s0 K).length (rowsW nx (W nx s0 K)) := by
  have hin := W_in (S := fun x => x ∈ S) (nx := nx) (s0 := s0) h0 (fun x hx p hp => (hs x hx).2 p hp)
  have hg := W_good (nx := nx) (s0 := s0) K
  have clo : ∀ (i : Nat) (e : Ent α), (W nx s0 K)[i]? = some e → ∀ p ∈ nx e.rm, p.2 ∈ (W nx s0 K).map (·.rm) := fun i e he p hp => W_closed (by have := (List.getElem?_eq_some_iff.mp he).1; omega) he hp
  have row : ∀ (i : Nat) (e : Ent α), (W nx s0 K)[i]? = some e → (rowsW nx (W nx s0 K)).getD i [] = rowW nx (W nx s0 K) e.rm := fun i e he => by
    unfold rowsW
    rw [List.getD_eq_getElem?_getD, List.getElem?_map, he]; rfl
  have ent : ∀ i, i < (W nx s0 K).length → ∃ e, (W nx s0 K)[i]? = some e ∧ e.rm ∈ S := fun i hi => ⟨_, List.getElem?_eq_getElem hi, hin K _ (List.getElem_mem hi)⟩
  have dlx : ∀ (i : Nat) (e : Ent α) (k : Nat), (W nx s0 K)[i]? = some e → k < m → ∃ p, (nx e.rm)[k]? = some p ∧ dl (rowsW nx (W nx s0 K)) i k = ixW (W nx s0 K) p.2 ∧ p.2 ∈ (W nx s0 K).map (·.rm) := fun i e k he hk => by
    have hS := hin K e (List.mem_of_getElem? he)
    have hl : k < (nx e.rm).length := by rw [(hs _ hS).1]; exact hk
    refine ⟨(nx e.rm)[k], List.getElem?_eq_getElem hl, ?_, clo i e he _ (List.getElem_mem hl)⟩
    show ((rowsW nx (W nx s0 K)).getD i []).getD k 0 = _
    rw [row i e he]
    unfold rowW
    rw [List.getD_eq_getElem?_getD, List.getElem?_map, List.getElem?_eq_getElem hl]; rfl
  have ok : StOk (W nx s0 K).length m (rowsW nx (W nx s0 K)) := by
    refine ⟨by unfold rowsW; rw [List.length_map], fun r hr => ?_, fun r k hr hk => ?_⟩
    · obtain ⟨e, he, hS⟩ := ent r hr
      rw [row r e he]
      unfold rowW
      rw [List.length_map, (hs _ hS).1]
    · obtain ⟨e, he, hS⟩ := ent r hr
      obtain ⟨p, _, h2, h3⟩ := dlx r e k he hk
      rw [h2]; exact ixW_lt h3
  refine ⟨ok, fun i e k he hk => ?_, fun k hk => ?_⟩
  · obtain ⟨p, h1, h2, h3⟩ := dlx i e k he hk
    rw [h2]
    have q := ixW_get h3
    rw [List.getElem?_map] at q
    obtain ⟨e', q1, q2⟩ := Option.map_eq_some_iff.mp q
    refine ⟨e', q1, ?_⟩
    unfold goW
    rw [h1, q2]; rfl
  · have sim := simW (R := fun (a : α) (b : Nat) => a ∈ (W nx s0 K).map (·.rm) ∧ b = ixW (W nx s0 K) a) (nx := nx) (nx' := nxS (rowsW nx (W nx s0 K))) (s0 := s0) (t0 := 0) (fun a b a' b' ⟨h1, h2⟩ ⟨g1, g2⟩ => ⟨fun z => by rw [h2, g2, z], fun z => ?_⟩) ⟨?_, ?_⟩ (fun a b ⟨h1, h2⟩ => ?_)
    · have s := sim (max k K)
      have eW : W nx s0 (max k K) = W nx s0 K := W_last (by
        have := W_last (nx := nx) (s0 := s0) hK hK
        have := W_end hK (max k K - K)
        rw [show K + (max k K - K) = max k K by omega] at this
        rw [this]; omega) hK
      -- at k already all have come
      have sk := sim k
      have pre := W_pre (nx := nxS (rowsW nx (W nx s0 K))) (s0 := 0) (k := k) (max k K - k)
      have hlen : (W (nxS (rowsW nx (W nx s0 K))) 0 k).length = (W nx s0 K).length := by
        rw [← sk.len]
        by_cases z : K ≤ k
        · have := W_end hK (k - K)
          rw [show K + (k - K) = k by omega] at this
          rw [this]
        · have p2 := W_pre (nx := nx) (s0 := s0) (k := k) (K - k)
          rw [show k + (K - k) = K by omega] at p2
          have l1 : (W nx s0 k).length ≤ k := by
            obtain ⟨C, hC⟩ := p2
            have := congrArg List.length hC
            rw [List.length_append] at this
            omega
          have := W_last hK l1
          rw [this]
      refine List.ext_getElem? fun i => ?_
      by_cases hi : i < (W nx s0 K).length
      · rw [List.getElem?_range hi, List.getElem?_map]
        have hi2 : i < (W (nxS (rowsW nx (W nx s0 K))) 0 k).length := by rw [hlen]; exact hi
        have hi3 : i < (W nx s0 k).length := by rw [sk.len]; exact hi2
        obtain ⟨e, he⟩ : ∃ e, (W nx s0 k)[i]? = some e := ⟨_, List.getElem?_eq_getElem hi3⟩
        have q := sk.at_ i e _ he (List.getElem?_eq_getElem hi2)
        rw [List.getElem?_eq_getElem hi2]
        have he2 : (W nx s0 K)[i]? = some e := by
          have a := W_get (j := max k K) (Nat.le_max_left _ _) he
          rwa [eW] at a
        exact congrArg some (q.2.trans (ixW_at hg.nd he2))
      · rw [List.getElem?_eq_none (by rw [List.length_map, hlen]; omega), List.getElem?_eq_none (by rw [List.length_range]; omega)]
    · rw [h2, g2] at z
      have q1 := ixW_get h1
      have q2 := ixW_get g1
      rw [z, q2] at q1
      exact (Option.some.inj q1).symm
    · obtain ⟨i, hi⟩ := List.exists_mem_of_ne_nil _ (List.ne_nil_of_length_pos hg.ne)
      have h0' : (W nx s0 K)[0]? = some ⟨s0, none, []⟩ := W_get (Nat.zero_le K) (show (W nx s0 0)[0]? = _ from rfl)
      exact List.mem_map.mpr ⟨_, List.mem_of_getElem? h0', rfl⟩
    · have h0' : (W nx s0 K)[0]? = some ⟨s0, none, []⟩ := W_get (Nat.zero_le K) (show (W nx s0 0)[0]? = _ from rfl)
      exact (ixW_at hg.nd h0').symm
    · obtain ⟨e, he, rfl⟩ := List.mem_map.mp h1
      obtain ⟨i, hi, ei⟩ := List.getElem_of_mem he
      have he' : (W nx s0 K)[i]? = some e := by rw [List.getElem?_eq_getElem hi, ei]
      have eb : b = i := by rw [h2, ixW_at hg.nd he']
      subst eb
      obtain ⟨y1, y2⟩ := nxS_at ok hi
      have hS := hin K e he
      refine ⟨by rw [y1, (hs _ hS).1], fun j p q ep eq => ?_⟩
      obtain ⟨j1, j2⟩ := y2 j q eq
      obtain ⟨p', z1, z2, z3⟩ := dlx _ e j he' j1
      rw [ep] at z1
      cases z1
      exact ⟨z3, by rw [j2, z2]⟩
/-- walking in it is walking in the things -/
theorem coming_walk {nx : α → List (D × α)} {s0 : α} {S : List α} {m K : Nat} (h0 : s0 ∈ S) (hs : ∀ x ∈ S, (nx x).length = m ∧ ∀ p ∈ nx x, p.2 ∈ S) (hK : (W nx s0 K).length ≤ K) :
    ∀ (w : List Nat) (i : Nat) (e : Ent α), (∀ k ∈ w, k < m) → (W nx s0 K)[i]? = some e → ∃ e', (W nx s0 K)[walkR (rowsW nx (W nx s0 K)) i w]? = some e' ∧ e'.rm = w.foldl (goW nx) e.rm
  | [], i, e, _, he => ⟨e, he, rfl⟩
  | k :: w, i, e, hw, he => by
    obtain ⟨e', h1, h2⟩ := (coming_at h0 hs hK).2.1 i e k he (hw k List.mem_cons_self)
    obtain ⟨e2, g1, g2⟩ := coming_walk h0 hs hK w _ e' (fun x hx => hw x (List.mem_cons_of_mem _ hx)) h1
    exact ⟨e2, g1, by rw [g2, h2]; rfl⟩
theorem coming_first {nx : α → List (D × α)} {s0 : α} (K : Nat) : (W nx s0 K)[0]? = some ⟨s0, none, []⟩ := W_get (Nat.zero_le K) (show (W nx s0 0)[0]? = _ from rfl)
end
/-! ### the machine of the classes -/
def nxL (st : List (List Nat)) (cs : List Nat) (sp : Nat → Nat) (c : Nat) : List (D × Nat) := (st.getD (sp c) []).map fun t => (D.non, gC cs t)
def gdL (gd : List Bool) (sp : Nat → Nat) (L : List (Ent Nat)) : List Bool := L.map fun e => gG gd (sp e.rm)
theorem walkR_lt {n m : Nat} {st : List (List Nat)} (ok : StOk n m st) : ∀ {w : List Nat} {r : Nat}, r < n → (∀ k ∈ w, k < m) → walkR st r w < n
  | [], _, h, _ => h
  | k :: w, _, h, hw => walkR_lt ok (w := w) (ok.rb _ k h (hw k List.mem_cons_self)) fun x hx => hw x (List.mem_cons_of_mem _ hx)
theorem least_math {n m K : Nat} {st : List (List Nat)} {gd : List Bool} {cs : List Nat} {sp : Nat → Nat} (ok : StOk n m st) (n0 : 0 < n) (hce : ∀ r r', r < n → r' < n → (gC cs r = gC cs r' ↔ Eqv m st gd r r')) (hsp : ∀ r, r < n → sp (gC cs r) < n ∧ gC cs (sp (gC cs r)) = gC cs r)
    (hK : (W (nxL st cs sp) (gC cs 0) K).length ≤ K) : Canon (W (nxL st cs sp) (gC cs 0) K).length m (rowsW (nxL st cs sp) (W (nxL st cs sp) (gC cs 0) K)) (gdL gd sp (W (nxL st cs sp) (gC cs 0) K)) ∧
      (∀ w : List Nat, (∀ k ∈ w, k < m) → gG (gdL gd sp (W (nxL st cs sp) (gC cs 0) K)) (walkR (rowsW (nxL st cs sp) (W (nxL st cs sp) (gC cs 0) K)) 0 w) = gG gd (walkR st 0 w)) := by
  have h0 : gC cs 0 ∈ (List.range n).map (gC cs) := List.mem_map.mpr ⟨0, List.mem_range.mpr n0, rfl⟩
  have hs : ∀ x ∈ (List.range n).map (gC cs), (nxL st cs sp x).length = m ∧ ∀ p ∈ nxL st cs sp x, p.2 ∈ (List.range n).map (gC cs) := fun x hx => by
    obtain ⟨r, hr, rfl⟩ := List.mem_map.mp hx
    have hr := List.mem_range.mp hr
    obtain ⟨s1, s2⟩ := hsp r hr
    unfold nxL
    refine ⟨by rw [List.length_map]; exact ok.rl _ s1, fun p hp => ?_⟩
    obtain ⟨t, ht, rfl⟩ := List.mem_map.mp hp
    obtain ⟨k, hk, e⟩ := List.getElem_of_mem ht
    rw [ok.rl _ s1] at hk
    have := dl_at ok s1 hk
    rw [List.getElem?_eq_getElem (by rw [ok.rl _ s1]; exact hk), e] at this
    exact List.mem_map.mpr ⟨t, List.mem_range.mpr (by rw [Option.some.inj this]; exact ok.rb _ k s1 hk), rfl⟩
  obtain ⟨c1, c2, c3⟩ := coming_at (K := K) h0 hs hK
  have hin := W_in (S := fun x => x ∈ (List.range n).map (gC cs)) (nx := nxL st cs sp) (s0 := gC cs 0) h0 (fun x hx p hp => (hs x hx).2 p hp) K
  have eqsp : ∀ x, x < n → Eqv m st gd (sp (gC cs x)) x := fun x hx => by
    obtain ⟨s1, s2⟩ := hsp x hx
    exact (hce _ _ s1 hx).mp s2
  have goc : ∀ {x k : Nat}, x < n → k < m → goW (nxL st cs sp) (gC cs x) k = gC cs (dl st (sp (gC cs x)) k) := fun {x k} hx hk => by
    obtain ⟨s1, _⟩ := hsp x hx
    unfold goW nxL
    rw [List.getElem?_map, dl_at ok s1 hk]; rfl
  have gof : ∀ (w : List Nat) (x : Nat), x < n → (∀ k ∈ w, k < m) → w.foldl (goW (nxL st cs sp)) (gC cs x) = gC cs (walkR st x w) := fun w => by
    induction w with
    | nil => intro x _ _; rfl
    | cons k w ih =>
      intro x hx hw
      have hk := hw k List.mem_cons_self
      obtain ⟨s1, _⟩ := hsp x hx
      have b1 := ok.rb _ k s1 hk
      have b2 := ok.rb _ k hx hk
      show w.foldl (goW (nxL st cs sp)) (goW (nxL st cs sp) (gC cs x) k) = gC cs (walkR st (dl st x k) w)
      rw [goc hx hk, ← ih _ b2 fun y hy => hw y (List.mem_cons_of_mem _ hy)]
      rw [(hce _ _ b1 b2).mpr ((eqsp x hx).step hk)]
  have gdx : ∀ (i : Nat) (e : Ent Nat), (W (nxL st cs sp) (gC cs 0) K)[i]? = some e → gG (gdL gd sp (W (nxL st cs sp) (gC cs 0) K)) i = gG gd (sp e.rm) := fun i e he => by
    show (gdL gd sp _).getD i false = _
    unfold gdL
    rw [List.getD_eq_getElem?_getD, List.getElem?_map, he]; rfl
  have key : ∀ (w : List Nat) (i : Nat) (e : Ent Nat) (x : Nat), (∀ k ∈ w, k < m) → (W (nxL st cs sp) (gC cs 0) K)[i]? = some e → x < n → e.rm = gC cs x → gG (gdL gd sp (W (nxL st cs sp) (gC cs 0) K)) (walkR (rowsW (nxL st cs sp) (W (nxL st cs sp) (gC cs 0) K)) i w) = gG gd (walkR st x w) := fun w i e x hw he hx ex => by
    obtain ⟨e', h1, h2⟩ := coming_walk (K := K) h0 hs hK w i e hw he
    rw [gdx _ e' h1, h2, ex, gof w x hx hw]
    exact (eqsp _ (walkR_lt ok hx hw)).good
  have ent : ∀ i, i < (W (nxL st cs sp) (gC cs 0) K).length → ∃ e x, (W (nxL st cs sp) (gC cs 0) K)[i]? = some e ∧ x < n ∧ e.rm = gC cs x := fun i hi => by
    obtain ⟨x, hx, ex⟩ := List.mem_map.mp (hin _ (List.getElem_mem hi))
    exact ⟨_, x, List.getElem?_eq_getElem hi, List.mem_range.mp hx, ex.symm⟩
  refine ⟨⟨c1, (W_good K).ne, by unfold gdL; rw [List.length_map], c3, fun i j hi hj he => ?_⟩, fun w hw => key w 0 _ 0 hw (coming_first K) n0 rfl⟩
  obtain ⟨e1, x1, p1, p2, p3⟩ := ent i hi
  obtain ⟨e2, x2, q1, q2, q3⟩ := ent j hj
  have : Eqv m st gd x1 x2 := fun w hw => by
    rw [← key w i e1 x1 hw p1 p2 p3, ← key w j e2 x2 hw q1 q2 q3]
    exact he w hw
  have ec := (hce _ _ p2 q2).mpr this
  rw [← p3, ← q3] at ec
  have nd := (W_good (nx := nxL st cs sp) (s0 := gC cs 0) K).nd
  rw [← ixW_at nd p1, ← ixW_at nd q1, ec]
end M

namespace M
open PySem L2 DL
variable [Tabs]
/-! ### rooms that are told apart, pair by pair -/
def allT (n : Nat) : List (Nat × Nat) := (List.range n).flatMap fun b => (List.range b).map fun a => (a, b)
theorem mem_allT {n : Nat} {p : Nat × Nat} : p ∈ allT n ↔ p.1 < p.2 ∧ p.2 < n := by
  obtain ⟨a, b⟩ := p
  unfold allT
  simp only [List.mem_flatMap, List.mem_range, List.mem_map, Prod.mk.injEq]
  constructor
  · rintro ⟨x, hx, y, hy, rfl, rfl⟩; exact ⟨hy, hx⟩
  · rintro ⟨h1, h2⟩; exact ⟨b, h2, a, h1, rfl, rfl⟩
theorem allT_succ {n : Nat} : allT (n + 1) = allT n ++ (List.range n).map fun a => (a, n) := by
  unfold allT
  rw [List.range_succ, List.flatMap_append, List.flatMap_singleton]
theorem allT_len : ∀ {n : Nat}, (allT n).length + n * (n - 1) / 2 = 2 * (n * (n - 1) / 2) ∧ 2 * (allT n).length = n * (n - 1)
  | 0 => by simp [allT]
  | n + 1 => by
    obtain ⟨_, ih⟩ := allT_len (n := n)
    have h : 2 * (allT (n + 1)).length = (n + 1) * (n + 1 - 1) := by
      rw [allT_succ, List.length_append, List.length_map, List.length_range, Nat.mul_add, ih, Nat.add_sub_cancel]
      cases n with
      | zero => rfl
      | succ m =>
        rw [Nat.add_sub_cancel, Nat.add_mul (m + 1) 1 (m + 1), Nat.mul_add (m + 1) m 1]
        omega
    refine ⟨?_, h⟩
    rw [← h]; omega
theorem allT_nd : ∀ {n : Nat}, (allT n).Nodup
  | 0 => List.nodup_nil
  | n + 1 => by
    rw [allT_succ, List.nodup_append]
    refine ⟨allT_nd, ?_, ?_⟩
    · rw [List.nodup_iff_pairwise_ne, List.pairwise_map]
      exact (List.nodup_iff_pairwise_ne.mp List.nodup_range).imp fun h e => h (congrArg Prod.fst e)
    · intro x hx y hy e
      subst e
      obtain ⟨a, _, rfl⟩ := List.mem_map.mp hy
      have := (mem_allT.mp hx).2
      omega
theorem fewP : ∀ (l S : List (Nat × Nat)), l.Nodup → (∀ x ∈ l, x ∈ S) → l.length ≤ S.length
  | [], _, _, _ => Nat.zero_le _
  | x :: l, S, nd, h => by
    obtain ⟨n1, n2⟩ := List.nodup_cons.mp nd
    have hx : x ∈ S := h x (List.mem_cons_self ..)
    have ih := fewP l (S.erase x) n2 fun y hy => by
      have hne : y ≠ x := fun e => by subst e; exact n1 hy
      exact (List.mem_erase_of_ne hne).mpr (h y (List.mem_cons_of_mem _ hy))
    rw [List.length_erase_of_mem hx] at ih
    have : 0 < S.length := List.length_pos_of_mem hx
    rw [List.length_cons]; omega
structure Tl (n : Nat) (T : List (Nat × Nat)) : Prop where
  nd : T.Nodup
  inn : ∀ p ∈ T, p.1 < p.2 ∧ p.2 < n
theorem Tl.len {n : Nat} {T : List (Nat × Nat)} (h : Tl n T) : T.length ≤ (allT n).length := fewP T (allT n) h.nd fun p hp => mem_allT.mpr (h.inn p hp)
def prT (st : List (List Nat)) (a b k : Nat) : Nat × Nat := (min (dl st b k) (dl st a k), max (dl st b k) (dl st a k))
def Unl (m : Nat) (st : List (List Nat)) (gd : List Bool) (T : List (Nat × Nat)) (a b : Nat) : Prop := gG gd b ≠ gG gd a ∨ ∃ k, k < m ∧ prT st a b k ∈ T
theorem told_done {n m : Nat} {st : List (List Nat)} {gd : List Bool} {T : List (Nat × Nat)} (ok : StOk n m st) (red : ∀ i j, i < n → j < n → Eqv m st gd i j → i = j) (tl : Tl n T)
    (cl : ∀ a b, a < b → b < n → Unl m st gd T a b → (a, b) ∈ T) : T.length = (allT n).length := by
  refine Nat.le_antisymm tl.len (fewP (allT n) T allT_nd fun p hp => ?_)
  obtain ⟨a, b⟩ := p
  obtain ⟨h1, h2⟩ := mem_allT.mp hp
  refine Classical.byContradiction fun hno => ?_
  have e : a = b := red a b (by omega) h2 (eqv_of (n := n) (fun r r' => r < n ∧ r' < n ∧ (min r r', max r r') ∉ T) (fun r r' ⟨q1, q2, q3⟩ => ?_) ⟨by omega, h2, by rw [Nat.min_eq_left (by omega), Nat.max_eq_right (by omega)]; exact hno⟩)
  · omega
  · by_cases hrr : r = r'
    · subst hrr
      refine ⟨rfl, fun k hk => ⟨ok.rb r k q1 hk, ok.rb r k q1 hk, fun z => ?_⟩⟩
      have := (tl.inn _ z).1
      rw [Nat.min_self, Nat.max_self] at this
      omega
    · by_cases hlt : r < r'
      · rw [Nat.min_eq_left (by omega), Nat.max_eq_right (by omega)] at q3
        have hu : ¬ Unl m st gd T r r' := fun u => q3 (cl r r' hlt q2 u)
        refine ⟨Classical.byContradiction fun z => hu (.inl fun e => z e.symm), fun k hk => ⟨ok.rb r k q1 hk, ok.rb r' k q2 hk, fun z => hu (.inr ⟨k, hk, ?_⟩)⟩⟩
        unfold prT
        rw [Nat.min_comm, Nat.max_comm]; exact z
      · have hlt : r' < r := by omega
        rw [Nat.min_eq_right (by omega), Nat.max_eq_left (by omega)] at q3
        have hu : ¬ Unl m st gd T r' r := fun u => q3 (cl r' r hlt q1 u)
        exact ⟨Classical.byContradiction fun z => hu (.inl z), fun k hk => ⟨ok.rb r k q1 hk, ok.rb r' k q2 hk, fun z => hu (.inr ⟨k, hk, z⟩)⟩⟩
def putT (T : List (Nat × Nat)) (p : Nat × Nat) : List (Nat × Nat) := if p ∈ T then T else T ++ [p]
/-- how far one going-through has come -/
structure InvP (n m : Nat) (st : List (List Nat)) (gd : List Bool) (T0 T : List (Nat × Nat)) (C : Nat → Nat → Prop) : Prop where
  pre : T0 <+: T
  tl : Tl n T
  ck : T.length = T0.length → ∀ a b, a < b → b < n → C a b → Unl m st gd T0 a b → (a, b) ∈ T0
theorem InvP.start {n m : Nat} {st : List (List Nat)} {gd : List Bool} {T : List (Nat × Nat)} {C : Nat → Nat → Prop} (h : Tl n T) (hC : ∀ a b, a < b → ¬ C a b) : InvP n m st gd T T C := ⟨List.prefix_refl _, h, fun _ a b h1 _ c _ => absurd c (hC a b h1)⟩
theorem InvP.step {n m : Nat} {st : List (List Nat)} {gd : List Bool} {T0 T : List (Nat × Nat)} {C C' : Nat → Nat → Prop} {a b : Nat} {u : Bool} (h : InvP n m st gd T0 T C) (hu : u = true ↔ Unl m st gd T a b) (h1 : a < b) (h2 : b < n)
    (hC : ∀ x y, C' x y → C x y ∨ (x = a ∧ y = b)) : InvP n m st gd T0 (if u = true then putT T (a, b) else T) C' := by
  have keep : ((u = true → (a, b) ∈ T)) → InvP n m st gd T0 T C' := fun hm => ⟨h.pre, h.tl, fun e x y q1 q2 c un => by
    have et : T0 = T := h.pre.eq_of_length e.symm
    rcases hC x y c with c | ⟨rfl, rfl⟩
    · exact h.ck e x y q1 q2 c un
    · rw [et]
      exact hm (hu.mpr (et ▸ un))⟩
  by_cases hu1 : u = true
  · rw [if_pos hu1]
    unfold putT
    by_cases hm : (a, b) ∈ T
    · rw [if_pos hm]; exact keep fun _ => hm
    · rw [if_neg hm]
      refine ⟨h.pre.trans (List.prefix_append _ _), ⟨?_, fun p hp => ?_⟩, fun e => ?_⟩
      · rw [List.nodup_append]
        refine ⟨h.tl.nd, by simp, fun x hx y hy e => ?_⟩
        rw [List.mem_singleton] at hy
        exact hm (by rw [← hy, ← e]; exact hx)
      · rcases List.mem_append.mp hp with hp | hp
        · exact h.tl.inn p hp
        · rw [List.mem_singleton.mp hp]; exact ⟨h1, h2⟩
      · have := h.pre.length_le
        rw [List.length_append, List.length_singleton] at e
        omega
  · rw [if_neg hu1]; exact keep fun z => absurd z hu1
theorem InvP.imp {n m : Nat} {st : List (List Nat)} {gd : List Bool} {T0 T : List (Nat × Nat)} {C C' : Nat → Nat → Prop} (h : InvP n m st gd T0 T C) (hC : ∀ x y, x < y → y < n → C' x y → C x y) : InvP n m st gd T0 T C' := ⟨h.pre, h.tl, fun e x y q1 q2 c un => h.ck e x y q1 q2 (hC x y q1 q2 c) un⟩
/-! the pairs, as a dict -/
def kNat (t : Nat) : Key := .inl (t : Int)
def cdP (p : Nat × Nat) : List Key := [kNat p.1, kNat p.2]
theorem cdP_inj (a b : Nat × Nat) (h : cdP a = cdP b) : a = b := by
  obtain ⟨a1, a2⟩ := a
  obtain ⟨b1, b2⟩ := b
  unfold cdP kNat at h
  injection h with h1 h2
  injection h2 with h2 _
  injection h1 with h1
  injection h2 with h2
  have e1 : a1 = b1 := by omega
  have e2 : a2 = b2 := by omega
  rw [e1, e2]
def tkT (T : List (Nat × Nat)) : List (List Key) := T.map cdP
def tdT (T : List (Nat × Nat)) : List D := T.map fun _ => D.bl true
theorem lk_T {p : Nat × Nat} : ∀ {T : List (Nat × Nat)}, (lk (tkT T) (tdT T) (cdP p)).isSome = decide (p ∈ T)
  | [] => rfl
  | q :: T => by
    show (if cdP q = cdP p then some (D.bl true) else lk (tkT T) (tdT T) (cdP p)).isSome = _
    by_cases h : q = p
    · subst h; rw [if_pos rfl]; simp
    · have h2 : ¬ p = q := fun e => h e.symm
      rw [if_neg fun e => h (cdP_inj _ _ e), lk_T]
      simp [h2]
theorem pk_T {T : List (Nat × Nat)} {p : Nat × Nat} : pk (tkT T) (cdP p) = tkT (putT T p) ∧ pd (tkT T) (tdT T) (cdP p) (D.bl true) = tdT (putT T p) := by
  have h : (tkT T).any (fun k => decide (k = cdP p)) = decide (p ∈ T) := by
    rw [Bool.eq_iff_iff, List.any_eq_true, decide_eq_true_eq]
    constructor
    · rintro ⟨k, hk, e⟩
      obtain ⟨q, hq, rfl⟩ := List.mem_map.mp hk
      have := cdP_inj _ _ (of_decide_eq_true e)
      exact this ▸ hq
    · intro hp
      exact ⟨cdP p, List.mem_map.mpr ⟨p, hp, rfl⟩, decide_eq_true rfl⟩
  unfold pk pd
  rw [h]
  unfold putT
  by_cases hp : p ∈ T
  · rw [if_pos (decide_eq_true hp), if_pos (decide_eq_true hp), if_pos hp]
    refine ⟨rfl, ?_⟩
    clear h hp
    induction T with
    | nil => rfl
    | cons q T ih =>
      show (if cdP q = cdP p then D.bl true else D.bl true) :: List.zipWith _ (tkT T) (tdT T) = _
      rw [ih]
      by_cases z : cdP q = cdP p
      · rw [if_pos z]; rfl
      · rw [if_neg z]; rfl
  · have e : ¬ decide (p ∈ T) = true := by simpa using hp
    rw [if_neg e, if_neg e, if_neg hp]
    exact ⟨by unfold tkT; rw [List.map_append]; rfl, by unfold tdT; rw [List.map_append]; rfl⟩
theorem min_int {x y : Nat} : (if (y : Int) < (x : Int) then (y : Int) else (x : Int)) = ((min x y : Nat) : Int) := by
  by_cases h : y < x
  · rw [if_pos (by omega), Nat.min_eq_right (by omega)]
  · rw [if_neg (by omega), Nat.min_eq_left (by omega)]
theorem max_int {x y : Nat} : (if (y : Int) > (x : Int) then (y : Int) else (x : Int)) = ((max x y : Nat) : Int) := by
  by_cases h : y > x
  · rw [if_pos (by omega), Nat.max_eq_right (by omega)]
  · rw [if_neg (by omega), Nat.max_eq_left (by omega)]
end M

namespace M
open PySem L2 DL
def top (i : Nat) : Stmt := PySem.Challenge.pw_placesay_k05_whole_least.main.body.getD i (.Pass ⟨0, 0, 0, 0⟩)
end M

namespace M
open PySem L2 DL
variable [Tabs]
section
variable {P : Program} {w : World} {K : PySem.W.Frag} {mg : Str → Option Value} {base : Heap} {f : Addr} {fd : FuncData}
/- _law_draw: 0 _law_script, 1 _law_tape, 2 _law_many, 3 _law_seed, 4 _law_cell -/
abbrev s_l_draw : Stmt := top 9
abbrev N_l_draw : List Str := ["_law_script", "_law_tape", "_law_many", "_law_seed", "_law_cell"]
theorem sc_l_draw : FnScope N_l_draw ["_law_script", "_law_tape", "_law_many"] (defScope s_l_draw) := ⟨rfl, rfl, rfl, by decide +kernel, rfl, by decide +kernel, by decide +kernel⟩
/-- any number below many -/
def spDraw : SpT := fun ds es P => ∃ (ns : List Int) (n m : Nat), ds = [scD ns, .int (m : Nat)] ∧ es = tp n ∧ n < 1000000 ∧ 0 < m ∧ ns.length ≤ 63 ∧ ∀ r : Nat, r < m → P (.int (r : Nat)) (tp (n + 1))
theorem ok_draw (F : Fun K "_law_draw" "_law_draw" s_l_draw f fd) (m_len : mg "len" = none) : FnOk P w K mg base CX0 1 f fd ["_law_script", "_law_tape", "_law_many"] (spT K 1 spDraw) := by
  refine dfnT (N := N_l_draw) F sc_l_draw (by decide) (by decide) (fun ds es Q ⟨_, _, _, e, _⟩ => by rw [e]; rfl) (fun cdv A outer s H E hr => (dss_cons (ds_setI (m := 1) (de_add (de_ix (de_name 1) de_int) de_int) de_int)
  (dss_cons (ds_if (dt_le (de_ix (de_name 1) de_int) (de_len m_len (da_cons (de_name 0) da_nil)))
  (dss_one (ds_ret (de_mod (de_ix (de_name 0) (de_sub (de_ix (de_name 1) de_int) de_int)) (de_name 2))))
  dss_nil)
  (dss_cons (ds_set (i := 3) (de_len m_len (da_cons (de_name 0) da_nil)) sc_l_draw.nd)
  (dss_cons (ds_for (di_list (de_slice (de_name 0) do_none (do_some de_int))) (dg_name (i := 4) sc_l_draw.nd)
  (dss_one (ds_set (i := 3) (de_mod (de_add (de_mul (de_name 3) de_int) (de_name 4)) de_int) sc_l_draw.nd)) (fun hg hi hb => ps_for PassesOwn.never rfl hi hg hb))
  (dss_one (ds_ret (de_mod (de_mod (de_mul (de_add (de_name 3) de_int) (de_add (de_mul (de_ix (de_name 1) de_int) (de_ix (de_name 1) de_int)) de_int)) de_int) (de_name 2))))))))) ?_
  rintro ds es Q ⟨ns, n, m, rfl, rfl, hn, hm, hl, hQ⟩
  have e1 : (n : Int) + 1 = ((n + 1 : Nat) : Int) := by omega
  refine ⟨_, 0, .int (n : Nat), rfl, rfl, rfl, ?_⟩
  refine ⟨rfl, _, rfl, 0, rfl, 0, rfl, rfl, ?_⟩
  rw [e1]
  refine ⟨_, 0, .int (n + 1 : Nat), rfl, rfl, rfl, ns.map D.int, rfl, True.intro, _, rfl, fun z => ?_, fun z => ?_⟩
  · have z : n + 1 ≤ ns.length := by have := of_decide_eq_true z; rw [List.length_map] at this; omega
    obtain ⟨x, hx⟩ := atI_fz (ns := ns) (k := n) (by omega)
    refine ⟨_, 0, .int (n + 1 : Nat), rfl, rfl, rfl, True.intro, ns.map D.int, ((n + 1 : Nat) : Int) - 1, .int x, rfl, rfl, ?_, ?_⟩
    · rw [show ((n + 1 : Nat) : Int) - 1 = (n : Int) by omega]; exact hx
    · refine ⟨by omega, _, rfl, by simp [frOk, DL.nol], _, rfl, ?_⟩
      obtain ⟨r, hr, er⟩ := mod_nat (x := x) hm
      show Q (.int (x % (m : Int))) _
      rw [er]
      exact hQ r hr
  · refine ⟨ns.map D.int, rfl, by simp [iniT], ?_⟩
    refine ⟨4, rfl, ?_⟩
    refine ⟨fun i ρ => ∃ (sd : Int) (fx : Fr) (b : Sl), ρ = [.val (scD ns) .p, .mp 0 (tp (n + 1)), .val (.int m) .p, .val (.int sd) fx, b] ∧ 0 ≤ sd ∧ sd < 1000003, ⟨_, _, .no, rfl, by omega, by rw [List.length_map]; omega⟩, ?_, ?_⟩
    · rintro i d ρ hd ⟨sd, fx, b, rfl, h1, h2⟩
      obtain ⟨x, rfl⟩ := cut_ints hd
      refine ⟨_, rfl, ?_⟩
      refine ⟨mulR (by decide) (by decide), (show (0 : Int) < 1000003 by decide), by simp, _, _, _, rfl, Int.emod_nonneg _ (by decide), Int.emod_lt_of_pos _ (by decide)⟩
    · rintro ρ ⟨sd, fx, b, rfl, h1, h2⟩
      refine ⟨_, 0, .int (n + 1 : Nat), rfl, rfl, rfl, _, 0, .int (n + 1 : Nat), rfl, rfl, rfl, mulL (by omega) (by omega), mulL (by omega) (by omega), (show (0 : Int) < 1000003 by decide), by omega, _, rfl, by simp [frOk, DL.nol], _, rfl, ?_⟩
      obtain ⟨r, hr, er⟩ := mod_nat (x := (sd + 7) * (((n + 1 : Nat) : Int) * ((n + 1 : Nat) : Int) + 48271) % 1000003) hm
      show Q (.int ((sd + 7) * (((n + 1 : Nat) : Int) * ((n + 1 : Nat) : Int) + 48271) % 1000003 % (m : Int))) _
      rw [er]
      exact hQ r hr
end
end M

namespace M
open PySem L2 DL
variable [Tabs]
section
variable {P : Program} {w : World} {K : PySem.W.Frag} {mg : Str → Option Value} {base : Heap} {f : Addr} {fd : FuncData}
theorem sg_small : ∀ c ∈ (sg1 ++ sg2 : Str).cps.toList, c < 128 := by decide +kernel
/- _law_marks: 0 _law_script, 1 _law_tape, 2 _law_many, 3 _law_signs, 4 _law_at, 5 _law_step, 6 _law_k -/
abbrev s_l_marks : Stmt := top 10
abbrev N_l_marks : List Str := ["_law_script", "_law_tape", "_law_many", "_law_signs", "_law_at", "_law_step", "_law_k"]
theorem sc_l_marks : FnScope N_l_marks ["_law_script", "_law_tape", "_law_many"] (defScope s_l_marks) := ⟨rfl, rfl, rfl, by decide +kernel, rfl, by decide +kernel, by decide +kernel⟩
/-- any signs, many of them -/
def spMarks : SpT := fun ds es P => ∃ (ns : List Int) (n m : Nat), ds = [scD ns, .int (m : Nat)] ∧ es = tp n ∧ n < 999900 ∧ m ≤ 900 ∧ ns.length ≤ 63 ∧ ∀ l : List Nat, l.length = m → (∀ c ∈ l, c < 128) → P (.lst (chD l)) (tp (n + 2))
theorem ok_marks (F : Fun K "_law_marks" "_law_marks" s_l_marks f fd) (m_range : mg "range" = none) (C_l_draw : Cal P w K mg base "_law_draw" 1 (spT K 1 spDraw)) : FnOk P w K mg base CX0 2 f fd ["_law_script", "_law_tape", "_law_many"] (spT K 1 spMarks) := by
  refine dfnT (N := N_l_marks) F sc_l_marks (by decide) (by decide) (fun ds es Q ⟨_, _, _, e, _⟩ => by rw [e]; rfl) (fun cdv A outer s H E hr => (dss_cons (ds_set (i := 3) de_str sc_l_marks.nd)
  (dss_cons (ds_set (i := 3) (de_add (de_name 3) de_str) sc_l_marks.nd)
  (dss_cons (ds_set (i := 4) (de_callT C_l_draw hr (by omega) (da_cons (de_name 0) (da_cons (de_name 1) (da_cons de_int da_nil)))) sc_l_marks.nd)
  (dss_cons (ds_set (i := 5) (de_add de_int (de_callT C_l_draw hr (by omega) (da_cons (de_name 0) (da_cons (de_name 1) (da_cons de_int da_nil))))) sc_l_marks.nd)
  (dss_one (ds_ret (de_lc rfl sc_l_marks.nd (di_range1 m_range (da_cons (de_name 2) da_nil)) (blkOk_by (own := [("_law_k", 6)]) (N := N_l_marks) (sc := defScope s_l_marks) (by decide +kernel)) (g := (.one 6)) (by decide) (fun _ => (dg_name (i := 6) sc_l_marks.nd)) (fun _ => dts_nil) (fun _ => (de_ix (de_name 3) (de_mod (de_add (de_name 4) (de_mul (de_name 5) (de_name 6))) de_int))))))))))) ?_
  rintro ds es Q ⟨ns, n, m, rfl, rfl, hn, hm, hl, hQ⟩
  refine ⟨by simp [iniT], ?_⟩
  refine ⟨(by rw [sizeLine_eq]; decide +kernel), by simp [iniT], ?_⟩
  refine ⟨rfl, ns, n, 94, rfl, rfl, by omega, by omega, hl, fun a ha => ⟨by simp [iniT], ?_⟩⟩
  refine ⟨rfl, ns, n + 1, 23, rfl, rfl, by omega, by omega, hl, fun b hb => ⟨by simp [iniT], ?_⟩⟩
  refine ⟨m, rfl, ⟨by omega, by omega⟩, rfl, .n, fun i acc ρ => ∃ l : List Nat, l.length = i ∧ (∀ c ∈ l, c < 128) ∧ acc = chD l ∧ ρ = [.val (scD ns) .p, .mp 0 (tp (n + 2)), .val (.int m) .p, .val (.str (sg1 ++ sg2)) .n, .val (.int a) .n, .val (.int (1 + b)) .n, .no], ⟨[], rfl, (fun c hc => nomatch hc), rfl, rfl⟩, ?_, ?_⟩
  · rintro i d acc ρ hd ⟨l, rfl, hs, rfl, rfl⟩
    obtain ⟨hi, rfl⟩ := upto_at hd
    rw [Int.toNat_natCast] at hi
    refine ⟨_, rfl, fun _ => ?_, fun h => by cases h⟩
    obtain ⟨r, hr, er⟩ := mod_nat (x := (a : Int) + (1 + b) * (l.length : Nat)) (m := 94) (by decide)
    have hc : r < (sg1 ++ sg2 : Str).cps.toList.length := by rw [sg_len]; exact hr
    refine ⟨mulL (by omega) (by omega), (show (0 : Int) < 94 by decide), ((a : Int) + (1 + b) * (l.length : Nat)) % 94, (sg1 ++ sg2 : Str).cps.toList[r], rfl, (by rw [sizeLine_eq]; decide +kernel), ?_, _, rfl, rfl, ?_, l ++ [(sg1 ++ sg2 : Str).cps.toList[r]], by simp, ?_, by simp, rfl⟩
    · rw [show (94 : Int) = ((94 : Nat) : Int) from rfl, er]
      exact atI_nat (List.getElem?_eq_getElem hc)
    · exact len_lt (by rw [List.length_map]; omega)
    · intro c h
      rcases List.mem_append.mp h with h | h
      · exact hs c h
      · rw [List.mem_singleton.mp h]; exact sg_small _ (List.getElem_mem hc)
  · rintro acc ρ ⟨l, hl, hs, rfl, rfl⟩
    rw [upto_len, Int.toNat_natCast] at hl
    exact ⟨_, rfl, rfl, _, rfl, hQ l hl hs⟩
theorem strOk_one {c : Nat} (h : c < 128) : PyData.strOk ⟨#[c]⟩ = true := by
  unfold PyData.strOk
  simp; omega
theorem foldl_all {p : Nat → Bool} (xs : Array Nat) (h : xs.all p = true) : ∀ (k : Nat) (acc : Array Nat), acc.all p = true → ((List.replicate k xs).foldl (· ++ ·) acc).all p = true
  | 0, acc, ha => ha
  | k + 1, acc, ha => by
    rw [List.replicate_succ, List.foldl_cons]
    exact foldl_all xs h k _ (by rw [Array.all_append, ha, h]; rfl)
theorem strRep_ok {x : Str} {n : Int} (h : PyData.strOk x = true) : PyData.strOk (strRep x n) = true := by
  unfold strRep
  split
  · show (#[] : Array Nat).all _ = true; simp
  · split
    · exact h
    · unfold PyData.strOk at h ⊢
      exact foldl_all _ h _ _ (by simp)
theorem strRep_len {x : Str} {n : Int} (h : x.length ≤ 1) : (strRep x n).length ≤ n.toNat + 1 := by
  unfold strRep
  split
  · exact Nat.zero_le _
  · split
    · omega
    · show ((List.replicate n.toNat x.cps).foldl (· ++ ·) #[]).size ≤ _
      rw [foldl_size]
      have e3 : x.cps.size ≤ 1 := h
      have := Nat.mul_le_mul_left n.toNat e3
      show 0 + _ ≤ _
      omega
/- _law_things: 0 _law_script, 1 _law_tape, 2 _law_many, 3 _law_signs, 4 _law_way, 5 _law_k -/
abbrev s_l_things : Stmt := top 11
abbrev N_l_things : List Str := ["_law_script", "_law_tape", "_law_many", "_law_signs", "_law_way", "_law_k"]
theorem sc_l_things : FnScope N_l_things ["_law_script", "_law_tape", "_law_many"] (defScope s_l_things) := ⟨rfl, rfl, rfl, by decide +kernel, rfl, by decide +kernel, by decide +kernel⟩
def spThings : SpT := fun ds es P => ∃ (ns : List Int) (n m : Nat), ds = [scD ns, .int (m : Nat)] ∧ es = tp n ∧ n < 999800 ∧ 0 < m ∧ m ≤ 4 ∧ ns.length ≤ 63 ∧ ∀ l : List D, l.length = m → (∀ d ∈ l, mkOk d) → P (.lst l) (tp (n + 3))
theorem ok_things (F : Fun K "_law_things" "_law_things" s_l_things f fd) (m_range : mg "range" = none) (C_l_draw : Cal P w K mg base "_law_draw" 1 (spT K 1 spDraw)) (C_l_marks : Cal P w K mg base "_law_marks" 2 (spT K 1 spMarks)) : FnOk P w K mg base CX0 3 f fd ["_law_script", "_law_tape", "_law_many"] (spT K 1 spThings) := by
  refine dfnT (N := N_l_things) F sc_l_things (by decide) (by decide) (fun ds es Q ⟨_, _, _, e, _⟩ => by rw [e]; rfl) (fun cdv A outer s H E hr => (dss_cons (ds_set (i := 3) (de_callT C_l_marks hr (by omega) (da_cons (de_name 0) (da_cons (de_name 1) (da_cons (de_name 2) da_nil)))) sc_l_things.nd)
  (dss_cons (ds_set (i := 4) (de_callT C_l_draw hr (by omega) (da_cons (de_name 0) (da_cons (de_name 1) (da_cons de_int da_nil)))) sc_l_things.nd)
  (dss_cons (ds_if (dt_eq hr (de_name 4) de_int)
  (dss_one (ds_ret (de_lc rfl sc_l_things.nd (di_range1 m_range (da_cons (de_name 2) da_nil)) (blkOk_by (own := [("_law_k", 5)]) (N := N_l_things) (sc := defScope s_l_things) (by decide +kernel)) (g := (.one 5)) (by decide) (fun _ => (dg_name (i := 5) sc_l_things.nd)) (fun _ => dts_nil) (fun _ => (de_tup (da_cons (de_ix (de_name 3) de_int) (da_cons (de_nameF 5) da_nil)))))))
  dss_nil)
  (dss_cons (ds_if (dt_eq hr (de_name 4) de_int)
  (dss_one (ds_ret (de_lc rfl sc_l_things.nd (di_range1 m_range (da_cons (de_name 2) da_nil)) (blkOk_by (own := [("_law_k", 5)]) (N := N_l_things) (sc := defScope s_l_things) (by decide +kernel)) (g := (.one 5)) (by decide) (fun _ => (dg_name (i := 5) sc_l_things.nd)) (fun _ => dts_nil) (fun _ => (de_mul (de_ix (de_name 3) de_int) (de_add (de_name 5) de_int))))))
  dss_nil)
  (dss_cons (ds_if (dt_eq hr (de_name 4) de_int)
  (dss_one (ds_ret (de_lc rfl sc_l_things.nd (di_range1 m_range (da_cons (de_name 2) da_nil)) (blkOk_by (own := [("_law_k", 5)]) (N := N_l_things) (sc := defScope s_l_things) (by decide +kernel)) (g := (.one 5)) (by decide) (fun _ => (dg_name (i := 5) sc_l_things.nd)) (fun _ => dts_nil) (fun _ => (de_mul de_int (de_name 5))))))
  dss_nil)
  (dss_one (ds_ret (de_nameF 3))))))))) ?_
  rintro ds es Q ⟨ns, n, m, rfl, rfl, hn, hm0, hm, hl, hQ⟩
  refine ⟨rfl, ns, n, m, rfl, rfl, by omega, by omega, hl, fun l hl4 hs => ⟨by simp [iniT], ?_⟩⟩
  refine ⟨rfl, ns, n + 2, 6, rfl, rfl, by omega, by omega, hl, fun a ha => ⟨by simp [iniT], ?_⟩⟩
  obtain ⟨c0, l', rfl⟩ : ∃ c0 l', l = c0 :: l' := by cases l with | nil => simp at hl4; omega | cons c l => exact ⟨c, l, rfl⟩
  have h0 : c0 < 128 := hs c0 (by simp)
  have e0 : ∀ i : Int, i = 0 → atI (chD (c0 :: l')) i = some (.str ⟨#[c0]⟩) := fun i e => by rw [e]; exact atI_nat (k := 0) rfl
  show dSeq _ _ _ [.val (scD ns) .p, .mp 0 (tp (n + 3)), .val (.int (m : Nat)) .p, .val (.lst (chD (c0 :: l'))) .n, .val (.int (a : Nat)) .n, .no]
  refine ⟨rfl, _, rfl, fun _ => ?_, fun _ => ?_⟩
  · refine ⟨m, rfl, ⟨by omega, by omega⟩, rfl, .z, fun i acc ρ => acc.length = i ∧ (∀ d ∈ acc, mkOk d) ∧ ρ = [.val (scD ns) .p, .mp 0 (tp (n + 3)), .val (.int m) .p, .val (.lst (chD (c0 :: l'))) .n, .val (.int a) .n, .no], ⟨rfl, (fun c hc => nomatch hc), rfl⟩, ?_, ?_⟩
    · rintro i d acc ρ hd ⟨rfl, hs, rfl⟩
      obtain ⟨hi, rfl⟩ := upto_at hd
      rw [Int.toNat_natCast] at hi
      refine ⟨_, rfl, fun _ => ?_, fun h => by cases h⟩
      refine ⟨_, _, _, rfl, rfl, e0 0 rfl, _, rfl, rfl, len_lt (by omega), by simp, ?_, rfl⟩
      intro d h
      rcases List.mem_append.mp h with h | h
      · exact hs d h
      · rw [List.mem_singleton.mp h]; exact .inr (.inr ⟨_, _, rfl, strOk_one h0⟩)
    · rintro acc ρ ⟨hl, hs, rfl⟩
      rw [upto_len, Int.toNat_natCast] at hl
      exact ⟨_, rfl, rfl, _, rfl, hQ acc hl hs⟩
  refine ⟨rfl, _, rfl, fun _ => ?_, fun _ => ?_⟩
  · refine ⟨m, rfl, ⟨by omega, by omega⟩, rfl, .n, fun i acc ρ => acc.length = i ∧ (∀ d ∈ acc, mkOk d) ∧ ρ = [.val (scD ns) .p, .mp 0 (tp (n + 3)), .val (.int m) .p, .val (.lst (chD (c0 :: l'))) .n, .val (.int a) .n, .no], ⟨rfl, (fun c hc => nomatch hc), rfl⟩, ?_, ?_⟩
    · rintro i d acc ρ hd ⟨rfl, hs, rfl⟩
      obtain ⟨hi, rfl⟩ := upto_at hd
      rw [Int.toNat_natCast] at hi
      refine ⟨_, rfl, fun _ => ?_, fun h => by cases h⟩
      refine ⟨_, _, _, rfl, rfl, e0 0 rfl, by omega, by omega, ?_, _, rfl, rfl, len_lt (by omega), by simp, ?_, rfl⟩
      · show (1 : Int) * _ ≤ _; omega
      intro d h
      rcases List.mem_append.mp h with h | h
      · exact hs d h
      · rw [List.mem_singleton.mp h]
        refine .inl ⟨_, rfl, strRep_ok (strOk_one h0), Nat.le_trans (strRep_len (Nat.le_refl _)) ?_⟩
        omega
    · rintro acc ρ ⟨hl, hs, rfl⟩
      rw [upto_len, Int.toNat_natCast] at hl
      exact ⟨_, rfl, rfl, _, rfl, hQ acc hl hs⟩
  refine ⟨rfl, _, rfl, fun _ => ?_, fun _ => ?_⟩
  · refine ⟨m, rfl, ⟨by omega, by omega⟩, rfl, .n, fun i acc ρ => acc.length = i ∧ (∀ d ∈ acc, mkOk d) ∧ ρ = [.val (scD ns) .p, .mp 0 (tp (n + 3)), .val (.int m) .p, .val (.lst (chD (c0 :: l'))) .n, .val (.int a) .n, .no], ⟨rfl, (fun c hc => nomatch hc), rfl⟩, ?_, ?_⟩
    · rintro i d acc ρ hd ⟨rfl, hs, rfl⟩
      obtain ⟨hi, rfl⟩ := upto_at hd
      rw [Int.toNat_natCast] at hi
      refine ⟨_, rfl, fun _ => ?_, fun h => by cases h⟩
      refine ⟨mulL (by omega) (by omega), _, rfl, rfl, len_lt (by omega), by simp, ?_, rfl⟩
      intro d h
      rcases List.mem_append.mp h with h | h
      · exact hs d h
      · rw [List.mem_singleton.mp h]
        exact .inr (.inl ⟨_, rfl⟩)
    · rintro acc ρ ⟨hl, hs, rfl⟩
      rw [upto_len, Int.toNat_natCast] at hl
      exact ⟨_, rfl, rfl, _, rfl, hQ acc hl hs⟩
  refine ⟨_, rfl, rfl, _, rfl, hQ _ (by rw [List.length_map]; exact hl4) fun d hd => ?_⟩
  obtain ⟨c, hc, rfl⟩ := List.mem_map.mp hd
  exact .inl ⟨_, rfl, strOk_one (hs c hc), by show 1 ≤ 1000; decide⟩
end
end M

namespace M
open PySem L2 DL
variable [Tabs]
section
variable {P : Program} {w : World} {K : PySem.W.Frag} {mg : Str → Option Value} {base : Heap} {f : Addr} {fd : FuncData}
theorem int_refl {i j : Int} (h : i = j) : eqD (.int i) (.int j) = true := by rw [eqD_int]; exact decide_eq_true h
/- _law_whole: 0 _law_found -/
abbrev s_l_whole : Stmt := top 15
abbrev N_l_whole : List Str := ["_law_found"]
theorem sc_l_whole : FnScope N_l_whole ["_law_found"] (defScope s_l_whole) := ⟨rfl, rfl, rfl, by decide +kernel, rfl, by decide +kernel, by decide +kernel⟩
def spWhole : SpD := fun ds P => ∃ i : Int, ds = [.int i] ∧ P (.bl true)
theorem ok_whole (F : Fun K "_law_whole" "_law_whole" s_l_whole f fd) (m_isinstance : mg "isinstance" = none) (m_int : mg "int" = none) (m_bool : mg "bool" = none) : FnOk P w K mg base CX0 1 f fd ["_law_found"] (spP K spWhole) := by
  refine dfn (N := N_l_whole) F sc_l_whole (by decide) (fun ds Q ⟨_, e, _⟩ => by rw [e]; rfl) (fun cdv A outer s H E hr => (dss_one (ds_ret (de_andV (de_isi (T := "int") m_isinstance m_int (by decide +kernel) (de_name 0)) (de_one (de_not (de_isi (T := "bool") m_isinstance m_bool (by decide +kernel) (de_name 0)))))))) ?_
  rintro ds Q ⟨i, rfl, hQ⟩
  exact ⟨true, kit_ii, true, rfl, fun _ => ⟨false, kit_ib, false, rfl, _, rfl, rfl, hQ⟩, fun h => Bool.noConfusion h⟩
/- _law_is_machine: 0 _law_found, 1 _law_marks_here, 2 _law_row, 3 _law_room, 4 _law_one -/
abbrev s_l_is_machine : Stmt := top 16
abbrev N_l_is_machine : List Str := ["_law_found", "_law_marks_here", "_law_row", "_law_room", "_law_one"]
theorem sc_l_is_machine : FnScope N_l_is_machine ["_law_found", "_law_marks_here"] (defScope s_l_is_machine) := ⟨rfl, rfl, rfl, by decide +kernel, rfl, by decide +kernel, by decide +kernel⟩
def spIsM : SpD := fun ds P => ∃ c : Mc, ds = [c.dt, .tux c.ms] ∧ McOk c ∧ 0 < c.ms.length ∧ P (.bl true)
theorem ok_is_machine (F : Fun K "_law_is_machine" "_law_is_machine" s_l_is_machine f fd) (m_isinstance : mg "isinstance" = none) (m_tuple : mg "tuple" = none) (m_list : mg "list" = none) (m_bool : mg "bool" = none) (m_len : mg "len" = none) (m_all : mg "all" = none) (m_min : mg "min" = none) (m_max : mg "max" = none)
    (C_l_whole : Cal P w K mg base "_law_whole" 1 (spP K spWhole)) : FnOk P w K mg base CX0 2 f fd ["_law_found", "_law_marks_here"] (spP K spIsM) := by
  refine dfn (N := N_l_is_machine) F sc_l_is_machine (by decide) (fun ds Q ⟨_, e, _⟩ => by rw [e]; rfl) (fun cdv A outer s H E hr => (dss_cons (ds_if (dt_w (dw_or (dt_not (dt_val (de_isi (T := "tuple") m_isinstance m_tuple (by decide +kernel) (de_name 0)))) (dw_or (dt_ne hr (de_len m_len (da_cons (de_name 0) da_nil)) de_int) (dw_or (dt_not (dt_val (de_isi (T := "tuple") m_isinstance m_tuple (by decide +kernel) (de_ix (de_name 0) de_int)))) (dw_or1 (dt_ne hr (de_ix (de_name 0) de_int) (de_tuple m_tuple (da_cons (de_name 1) da_nil))))))))
  (dss_one (ds_ret de_bl))
  dss_nil)
  (dss_cons (ds_if (dt_w (dw_or (dt_not (dt_val (de_isi (T := "list") m_isinstance m_list (by decide +kernel) (de_ix (de_name 0) de_int)))) (dw_or (dt_not (dt_val (de_isi (T := "list") m_isinstance m_list (by decide +kernel) (de_ix (de_name 0) de_int)))) (dw_or1 (dt_ne hr (de_len m_len (da_cons (de_ix (de_name 0) de_int) da_nil)) (de_len m_len (da_cons (de_ix (de_name 0) de_int) da_nil)))))))
  (dss_one (ds_ret de_bl))
  dss_nil)
  (dss_cons (ds_for (di_list (de_ix (de_name 0) de_int)) (dg_name (i := 2) sc_l_is_machine.nd)
  (dss_cons (ds_if (dt_w (dw_or (dt_not (dt_val (de_isi (T := "list") m_isinstance m_list (by decide +kernel) (de_name 2)))) (dw_or (dt_ne hr (de_len m_len (da_cons (de_name 2) da_nil)) (de_len m_len (da_cons (de_ix (de_name 0) de_int) da_nil))) (dw_or1 (dt_not (dt_val (de_all rfl m_all (da_cons (de_lc rfl sc_l_is_machine.nd (di_list (de_nameF 2)) (blkOk_by (own := [("_law_room", 3)]) (N := N_l_is_machine) (sc := defScope s_l_is_machine) (by decide +kernel)) (g := (.one 3)) (by decide) (fun _ => (dg_name (i := 3) sc_l_is_machine.nd)) (fun _ => dts_nil) (fun _ => (de_call C_l_whole hr (by omega) (da_cons (de_name 3) da_nil)))) da_nil))))))))
  (dss_one (ds_ret de_bl))
  dss_nil)
  (dss_one (ds_if (dt_w (dw_or (dt_lt (de_min rfl m_min (da_cons (de_name 2) da_nil)) de_int) (dw_or1 (dt_ge (de_max rfl m_max (da_cons (de_name 2) da_nil)) (de_len m_len (da_cons (de_ix (de_name 0) de_int) da_nil))))))
  (dss_one (ds_ret de_bl))
  dss_nil))) (fun hg hi hb => ps_for PassesOwn.never rfl hi hg hb))
  (dss_one (ds_ret (de_andV (de_gt (de_len m_len (da_cons (de_ix (de_name 0) de_int) da_nil)) de_int) (de_one (de_all rfl m_all (da_cons (de_lc rfl sc_l_is_machine.nd (di_list (de_ix (de_name 0) de_int)) (blkOk_by (own := [("_law_one", 4)]) (N := N_l_is_machine) (sc := defScope s_l_is_machine) (by decide +kernel)) (g := (.one 4)) (by decide) (fun _ => (dg_name (i := 4) sc_l_is_machine.nd)) (fun _ => dts_nil) (fun _ => (de_isi (T := "bool") m_isinstance m_bool (by decide +kernel) (de_name 4)))) da_nil)))))))))) ?_
  rintro ds Q ⟨c, rfl, ok, h0, hQ⟩
  have cm : cmpOk (.tup c.ms) = true := (cmpN_tup fun d hd => (ok.mo d hd).cmp).ok
  refine ⟨true, kit_tt, true, rfl, fun h => Bool.noConfusion h, fun _ => ⟨_, rfl, both_of (cmpN_int (n := 0)).ok (cmpN_int (n := 0)).ok, false, neF (eqD_refl rfl), fun h => Bool.noConfusion h, fun _ => ?_⟩⟩
  refine ⟨_, 0, .tux c.ms, rfl, rfl, rfl, true, kit_tt, true, rfl, fun h => Bool.noConfusion h, fun _ => ?_⟩
  refine ⟨_, 0, .tux c.ms, rfl, rfl, rfl, _, rfl, both_of (marks_cmp ok.mo).ok cm, false, neF (show eqD (.tux c.ms) (.tup c.ms) = true from eqD_refl (d := .tux c.ms) (marks_cmp ok.mo).1), fun h => Bool.noConfusion h, fun _ => ?_⟩
  refine ⟨_, 1, .lst (c.st.map rowD), rfl, rfl, rfl, true, kit_ll, true, rfl, fun h => Bool.noConfusion h, fun _ => ?_⟩
  refine ⟨_, 2, .lst (c.gd.map D.bl), rfl, rfl, rfl, true, kit_ll, true, rfl, fun h => Bool.noConfusion h, fun _ => ?_⟩
  refine ⟨_, 1, .lst (c.st.map rowD), rfl, rfl, rfl, _, rfl, _, 2, .lst (c.gd.map D.bl), rfl, rfl, rfl, _, rfl, both_of (cmpN_int (n := 0)).ok (cmpN_int (n := 0)).ok, false, neF (int_refl (by rw [List.length_map, List.length_map, ok.gl])), fun h => Bool.noConfusion h, fun _ => ?_⟩
  refine ⟨_, 1, .lst (c.st.map rowD), rfl, rfl, rfl, ?_⟩
  refine ⟨fun i ρ => ∃ b2 : Sl, ρ = [.val c.dt .p, .val (.tux c.ms) .p, b2, .no, .no], ⟨_, rfl⟩, ?_, ?_⟩
  · rintro i d ρ hd ⟨b2, rfl⟩
    rw [List.getElem?_map] at hd
    obtain ⟨row, hr, rfl⟩ := Option.map_eq_some_iff.mp hd
    have hm := List.mem_of_getElem? hr
    have hrl := ok.rl row hm
    have hrb := ok.rb row hm
    have hml := ok.ml
    refine ⟨_, rfl, ?_⟩
    refine ⟨true, kit_ll, true, rfl, fun h => Bool.noConfusion h, fun _ => ?_⟩
    refine ⟨_, rfl, _, 0, .tux c.ms, rfl, rfl, rfl, _, rfl, both_of (cmpN_int (n := 0)).ok (cmpN_int (n := 0)).ok, false, neF (int_refl (by rw [List.length_map, hrl])), fun h => Bool.noConfusion h, fun _ => ?_⟩
    refine ⟨rfl, .z, fun j acc ρ => acc = (List.replicate j true).map D.bl ∧ j ≤ row.length ∧ ρ = [.val c.dt .p, .val (.tux c.ms) .p, .val (rowD row) .p, .no, .no], ⟨rfl, Nat.zero_le _, rfl⟩, ?_, ?_⟩
    · rintro j d acc ρ hd ⟨rfl, hj, rfl⟩
      have hj2 := (List.getElem?_eq_some_iff.mp hd).1
      rw [List.length_map] at hj2
      obtain ⟨x, _, rfl⟩ := List.mem_map.mp (List.mem_of_getElem? hd)
      refine ⟨_, rfl, fun _ => ?_, fun h => Bool.noConfusion h⟩
      refine ⟨(x : Int), rfl, _, rfl, rfl, ?_, ?_, by omega, rfl⟩
      · rw [List.length_map, List.length_replicate]; exact len_lt (by omega)
      · rw [List.replicate_succ', List.map_append]; rfl
    · rintro acc ρ ⟨rfl, _, rfl⟩
      refine ⟨_, rfl, _, rfl, fun z => ?_, fun _ => ?_⟩
      · have z : (!(List.replicate (row.map natD).length true).all id) = true := z
        rw [show (List.replicate (row.map natD).length true).all id = true by simp] at z
        cases z
      refine ⟨row.map Int.ofNat, ?_, by rw [List.length_map]; omega, fun m hm hle => ?_⟩
      · show D.lst (row.map natD) = _
        rw [List.map_map]; rfl
      obtain ⟨x, hx, rfl⟩ := List.mem_map.mp hm
      refine ⟨True.intro, decide (Int.ofNat x < 0), rfl, fun z => ?_, fun _ => ?_⟩
      · have := of_decide_eq_true z
        have : (x : Int) < 0 := this
        omega
      refine ⟨row.map Int.ofNat, ?_, by rw [List.length_map]; omega, fun m2 hm2 hle2 => ?_⟩
      · show D.lst (row.map natD) = _
        rw [List.map_map]; rfl
      obtain ⟨y, hy, rfl⟩ := List.mem_map.mp hm2
      refine ⟨_, 1, .lst (c.st.map rowD), rfl, rfl, rfl, _, rfl, True.intro, _, rfl, fun z => ?_, fun _ => ⟨_, rfl⟩⟩
      have z := of_decide_eq_true z
      rw [List.length_map] at z
      have := hrb y hy
      have z : (c.st.length : Int) ≤ (y : Int) := z
      omega
  · rintro ρ ⟨b2, rfl⟩
    have hn := ok.n0
    refine ⟨_, 1, .lst (c.st.map rowD), rfl, rfl, rfl, _, rfl, True.intro, true, ?_, fun _ => ?_, fun h => Bool.noConfusion h⟩
    · show D.bl (decide ((0 : Int) < (((c.st.map rowD).length : Nat) : Int))) = _
      rw [List.length_map, decide_eq_true (by omega)]
    refine ⟨_, 2, .lst (c.gd.map D.bl), rfl, rfl, rfl, ?_⟩
    refine ⟨rfl, .z, fun j acc ρ => acc = (List.replicate j true).map D.bl ∧ j ≤ c.gd.length ∧ ρ = [.val c.dt .p, .val (.tux c.ms) .p, b2, .no, .no], ⟨rfl, Nat.zero_le _, rfl⟩, ?_, ?_⟩
    · rintro j d acc ρ hd ⟨rfl, hj, rfl⟩
      have hj2 := (List.getElem?_eq_some_iff.mp hd).1
      rw [List.length_map] at hj2
      obtain ⟨x, _, rfl⟩ := List.mem_map.mp (List.mem_of_getElem? hd)
      have hg := ok.gl
      have hn1 := ok.n1
      refine ⟨_, rfl, fun _ => ?_, fun h => Bool.noConfusion h⟩
      refine ⟨true, kit_bb, _, rfl, rfl, ?_, ?_, by omega, rfl⟩
      · rw [List.length_map, List.length_replicate]; exact len_lt (by omega)
      · rw [List.replicate_succ', List.map_append]; rfl
    · rintro acc ρ ⟨rfl, _, rfl⟩
      refine ⟨_, rfl, _, rfl, rfl, ?_⟩
      show Q (.bl ((List.replicate (c.gd.map D.bl).length true).all id))
      rw [show (List.replicate (c.gd.map D.bl).length true).all id = true by simp]
      exact hQ
end
end M

namespace M
open PySem L2 DL
variable [Tabs]
section
variable {P : Program} {w : World} {K : PySem.W.Frag} {mg : Str → Option Value} {base : Heap} {f : Addr} {fd : FuncData}
/- _law_machine: 0 _law_script, 1 _law_tape, 2 _law_marks_here, 3 _law_many, 4 _law_steps, 5 _law_good, 6 _law_room, 7 _law_row, 8 _law_mark, 9 _law_to -/
abbrev s_l_machine : Stmt := top 12
abbrev N_l_machine : List Str := ["_law_script", "_law_tape", "_law_marks_here", "_law_many", "_law_steps", "_law_good", "_law_room", "_law_row", "_law_mark", "_law_to"]
theorem sc_l_machine : FnScope N_l_machine ["_law_script", "_law_tape", "_law_marks_here"] (defScope s_l_machine) := ⟨rfl, rfl, rfl, by decide +kernel, rfl, by decide +kernel, by decide +kernel⟩
/-- any machine with these marks -/
def spMachine : SpT := fun ds es P => ∃ (ns : List Int) (n : Nat) (ms : List D), ds = [scD ns, .lst ms] ∧ es = tp n ∧ n < 999000 ∧ ns.length ≤ 63 ∧ ms.length ≤ 4 ∧ (∀ d ∈ ms, mkOk d) ∧ ∀ (c : Mc) (n' : Nat), McOk c → c.ms = ms → c.st.length ≤ 10 → n ≤ n' → n' ≤ n + 100 → P c.dt (tp n')
theorem rows_app {st : List (List Nat)} {r : List Nat} : st.map rowD ++ [.lst (r.map natD)] = (st ++ [r]).map rowD := by rw [List.map_append]; rfl
theorem ok_machine (F : Fun K "_law_machine" "_law_machine" s_l_machine f fd) (m_range : mg "range" = none) (m_min : mg "min" = none) (m_tuple : mg "tuple" = none) (C_l_draw : Cal P w K mg base "_law_draw" 1 (spT K 1 spDraw)) : FnOk P w K mg base CX0 2 f fd ["_law_script", "_law_tape", "_law_marks_here"] (spT K 1 spMachine) := by
  refine dfnT (N := N_l_machine) F sc_l_machine (by decide) (by decide) (fun ds es Q ⟨_, _, _, e, _⟩ => by rw [e]; rfl) (fun cdv A outer s H E hr => (dss_cons (ds_set (i := 3) (de_add de_int (de_callT C_l_draw hr (by omega) (da_cons (de_name 0) (da_cons (de_name 1) (da_cons de_int da_nil))))) sc_l_machine.nd)
  (dss_cons (ds_cut (ds_if (dt_eq hr (de_callT C_l_draw hr (by omega) (da_cons (de_name 0) (da_cons (de_name 1) (da_cons de_int da_nil)))) de_int)
  (dss_one (ds_set (i := 3) (de_add (de_name 3) (de_callT C_l_draw hr (by omega) (da_cons (de_name 0) (da_cons (de_name 1) (da_cons de_int da_nil))))) sc_l_machine.nd))
  dss_nil))
  (dss_cons (ds_set (i := 4) (de_lst da_nil) sc_l_machine.nd)
  (dss_cons (ds_set (i := 5) (de_lst da_nil) sc_l_machine.nd)
  (dss_cons (ds_for (di_range1 m_range (da_cons (de_name 3) da_nil)) (dg_name (i := 6) sc_l_machine.nd)
  (dss_cons (ds_set (i := 7) (de_lst da_nil) sc_l_machine.nd)
  (dss_cons (ds_for (di_list (de_nameF 2)) (dg_name (i := 8) sc_l_machine.nd)
  (dss_cons (ds_set (i := 9) (de_callT C_l_draw hr (by omega) (da_cons (de_name 0) (da_cons (de_name 1) (da_cons (de_mul de_int (de_name 3)) da_nil)))) sc_l_machine.nd)
  (dss_one (ds_if (dt_lt (de_name 9) (de_mul de_int (de_name 3)))
  (dss_one (ds_app (m := 7) (de_mod (de_name 9) (de_name 3))))
  (dss_one (ds_app (m := 7) (de_min2 rfl m_min (da_cons (de_sub (de_name 3) de_int) (da_cons (de_add (de_name 6) de_int) da_nil)))))))) (fun hg hi hb => ps_for PassesOwn.never rfl hi hg hb))
  (dss_cons (ds_app (m := 4) (de_nameF 7))
  (dss_one (ds_app (m := 5) (de_eq hr (de_callT C_l_draw hr (by omega) (da_cons (de_name 0) (da_cons (de_name 1) (da_cons de_int da_nil)))) de_int)))))) (fun hg hi hb => ps_for PassesOwn.never rfl hi hg hb))
  (dss_one (ds_ret (de_tup (da_cons (de_tupleX m_tuple (da_cons (de_name 2) da_nil)) (da_cons (de_nameF 4) (da_cons (de_nameF 5) da_nil)))))))))))) ?_
  rintro ds es Q ⟨ns, n, ms, rfl, rfl, hn, hl, hml, hmo, hQ⟩
  refine ⟨rfl, ns, n, 5, rfl, rfl, by omega, by omega, hl, fun a ha => ⟨by simp [iniT], ?_⟩⟩
  refine ⟨fun ρ => ∃ (mn n' : Nat) (fx : Fr), 1 ≤ mn ∧ mn ≤ 10 ∧ n ≤ n' ∧ n' ≤ n + 3 ∧ ρ = [.val (scD ns) .p, .mp 0 (tp n'), .val (.lst ms) .p, .val (.int mn) fx, .no, .no, .no, .no, .no, .no], ⟨rfl, ns, n + 1, 8, rfl, rfl, by omega, by omega, hl, fun b hb => ⟨rfl, _, rfl, fun z => ?_, fun z => ?_⟩⟩, ?_⟩
  · exact ⟨rfl, ns, n + 2, 6, rfl, rfl, by omega, by omega, hl, fun c hc => ⟨by simp [iniT], 1 + a + c, n + 3, _, by omega, by omega, by omega, by omega, rfl⟩⟩
  · exact ⟨1 + a, n + 2, _, by omega, by omega, by omega, by omega, rfl⟩
  rintro ρ ⟨mn, n', fx, h1, h2, h3, h4, rfl⟩
  refine ⟨by simp, by simp, ?_⟩
  show dSeq _ _ _ [.val (scD ns) .p, .mp 0 (tp n'), .val (.lst ms) .p, .val (.int mn) fx, .ml [] .z, .ml [] .z, .no, .no, .no, .no]
  refine ⟨mn, rfl, ⟨by omega, by omega⟩, ?_⟩
  refine ⟨fun i ρ => ∃ (st : List (List Nat)) (gd : List Bool) (k : Nat) (g : Fr) (b6 b7 b8 b9 : Sl), (g = .z ∨ g = .h) ∧ st.length = i ∧ gd.length = i ∧ (∀ r ∈ st, r.length = ms.length ∧ ∀ x ∈ r, x < mn) ∧ n' ≤ k ∧ k ≤ n' + 5 * i ∧
    ρ = [.val (scD ns) .p, .mp 0 (tp k), .val (.lst ms) .p, .val (.int mn) fx, .ml (st.map rowD) g, .ml (gd.map D.bl) .z, b6, b7, b8, b9], ⟨[], [], n', .z, _, _, _, _, .inl rfl, rfl, rfl, (fun r hr => nomatch hr), by omega, by omega, rfl⟩, ?_, ?_⟩
  · rintro i d ρ hd ⟨st, gd, k, g, b6, b7, b8, b9, hg, hst, hgd, hr, hk, hk2, rfl⟩
    obtain ⟨hi, rfl⟩ := upto_at hd
    rw [Int.toNat_natCast] at hi
    refine ⟨_, rfl, by simp, ?_⟩
    show dSeq _ _ _ [.val (scD ns) .p, .mp 0 (tp k), .val (.lst ms) .p, .val (.int mn) fx, .ml (st.map rowD) g, .ml (gd.map D.bl) .z, .val (.int (i : Nat)) .h, .ml [] .z, b8, b9]
    refine ⟨fun j ρ => ∃ (r : List Nat) (b8 b9 : Sl), r.length = j ∧ (∀ x ∈ r, x < mn) ∧ ρ = [.val (scD ns) .p, .mp 0 (tp (k + j)), .val (.lst ms) .p, .val (.int mn) fx, .ml (st.map rowD) g, .ml (gd.map D.bl) .z, .val (.int (i : Nat)) .h, .ml (r.map natD) .z, b8, b9], ⟨[], _, _, rfl, (fun r hr => nomatch hr), rfl⟩, ?_, ?_⟩
    · rintro j d ρ hd ⟨r, b8, b9, rfl, hx, rfl⟩
      have hj := (List.getElem?_eq_some_iff.mp hd).1
      refine ⟨_, rfl, ?_⟩
      refine ⟨mulL (by omega) (by omega), rfl, ns, k + r.length, 3 * mn, rfl, rfl, by omega, by omega, hl, fun t ht => ⟨by simp, ?_⟩⟩
      dsimp only
      show dIf _ _ _ _ [.val (scD ns) .p, .mp 0 (tp (k + r.length + 1)), .val (.lst ms) .p, .val (.int mn) fx, .ml (st.map rowD) g, .ml (gd.map D.bl) .z, .val (.int (i : Nat)) .h, .ml (r.map natD) .z, .val d .p, .val (.int t) .n]
      refine ⟨mulL (by omega) (by omega), True.intro, _, rfl, fun z => ?_, fun z => ?_⟩
      · obtain ⟨q, hq, eq⟩ := mod_nat (x := (t : Int)) (m := mn) (by omega)
        refine ⟨rfl, by show (0 : Int) < (mn : Int); omega, _, rfl, by rw [List.length_map]; exact len_lt (by omega), r ++ [q], .val d .p, .val (.int (t : Nat)) .n, by simp, ?_, ?_⟩
        · intro x h
          rcases List.mem_append.mp h with h | h
          · exact hx x h
          · rw [List.mem_singleton.mp h]; exact hq
        · rw [List.map_append]
          show List.set ([.val (scD ns) .p, .mp 0 (tp (k + r.length + 1)), .val (.lst ms) .p, .val (.int mn) fx, .ml (st.map rowD) g, .ml (gd.map D.bl) .z, .val (.int (i : Nat)) .h, .ml (r.map natD) .z, .val d .p, .val (.int t) .n] : En) 7 (.ml (r.map natD ++ [.int ((t : Int) % (mn : Int))]) .z) = _
          rw [eq]; rfl
      · obtain ⟨q, hq, eq⟩ : ∃ q : Nat, q < mn ∧ (if (i : Int) + 1 < (mn : Int) - 1 then (i : Int) + 1 else (mn : Int) - 1) = (q : Int) := by
          by_cases h : (i : Int) + 1 < (mn : Int) - 1
          · exact ⟨i + 1, by omega, by rw [if_pos h]; omega⟩
          · exact ⟨mn - 1, by omega, by rw [if_neg h]; omega⟩
        refine ⟨rfl, True.intro, _, rfl, by rw [List.length_map]; exact len_lt (by omega), r ++ [q], .val d .p, .val (.int (t : Nat)) .n, by simp, ?_, ?_⟩
        · intro x h
          rcases List.mem_append.mp h with h | h
          · exact hx x h
          · rw [List.mem_singleton.mp h]; exact hq
        · rw [List.map_append]
          show List.set ([.val (scD ns) .p, .mp 0 (tp (k + r.length + 1)), .val (.lst ms) .p, .val (.int mn) fx, .ml (st.map rowD) g, .ml (gd.map D.bl) .z, .val (.int (i : Nat)) .h, .ml (r.map natD) .z, .val d .p, .val (.int t) .n] : En) 7 (.ml (r.map natD ++ [.int (if (i : Int) + 1 < (mn : Int) - 1 then (i : Int) + 1 else (mn : Int) - 1)]) .z) = _
          rw [eq]; rfl
    · rintro ρ ⟨r, b8, b9, hrl, hx, rfl⟩
      have hg2 : fmin g (fup .h (.lst (r.map natD))) = .h := by rcases hg with rfl | rfl <;> rfl
      refine ⟨rfl, _, rfl, by rw [List.length_map]; exact len_lt (by omega), ?_⟩
      show dApp _ _ _ [.val (scD ns) .p, .mp 0 (tp (k + ms.length)), .val (.lst ms) .p, .val (.int mn) fx, .ml (st.map rowD ++ [rowD r]) (fmin g (fup .h (.lst (r.map natD)))), .ml (gd.map D.bl) .z, .val (.int (i : Nat)) .h, .val (.lst (r.map natD)) .n, b8, b9]
      rw [hg2]
      refine ⟨rfl, rfl, ns, k + ms.length, 3, rfl, rfl, by omega, by omega, hl, fun u hu => ⟨rfl, _, rfl, by rw [List.length_map]; exact len_lt (by omega), st ++ [r], gd ++ [(false ^^ eqD (.int (u : Nat)) (.int 0))], k + ms.length + 1, .h, .val (.int (i : Nat)) .h, .val (.lst (r.map natD)) .n, b8, b9, .inr rfl, by simp [hst], by simp [hgd], ?_, by omega, by omega, ?_⟩⟩
      · intro r' h
        rcases List.mem_append.mp h with h | h
        · exact hr r' h
        · rw [List.mem_singleton.mp h]; exact ⟨hrl, hx⟩
      · rw [List.map_append, List.map_append]
        rfl
  · rintro ρ ⟨st, gd, k, g, b6, b7, b8, b9, hg, hst, hgd, hr, hk, hk2, rfl⟩
    rw [upto_len, Int.toNat_natCast] at hst hgd hk2
    have ok : McOk ⟨ms, st, gd⟩ := ⟨by show 0 < st.length; omega, by show st.length ≤ 900; omega, by show gd.length = st.length; omega, fun r h => (hr r h).1, fun r h x hx => by show x < st.length; rw [hst]; exact (hr r h).2 x hx, hml, hmo⟩
    refine ⟨ms, .inl rfl, ?_⟩
    refine ⟨_, rfl, ?_, _, rfl, hQ ⟨ms, st, gd⟩ k ok rfl (by show st.length ≤ 10; omega) (by omega) (by omega)⟩
    rcases hg with rfl | rfl
    · exact frMc2 hmo (.inl rfl) (.inl rfl)
    · exact frMc2 hmo (.inl rfl) (.inl rfl)
end
end M

namespace M
open PySem L2 DL
variable [Tabs]
section
variable {P : Program} {w : World} {K : PySem.W.Frag} {mg : Str → Option Value} {base : Heap} {f : Addr} {fd : FuncData}
/- _law_copy: 0 _law_machine_here, 1 _law_row -/
abbrev s_l_copy : Stmt := top 13
abbrev N_l_copy : List Str := ["_law_machine_here", "_law_row"]
theorem sc_l_copy : FnScope N_l_copy ["_law_machine_here"] (defScope s_l_copy) := ⟨rfl, rfl, rfl, by decide +kernel, rfl, by decide +kernel, by decide +kernel⟩
def spCopy : SpD := fun ds P => ∃ c : Mc, ds = [c.dt] ∧ c.st.length ≤ 900 ∧ c.gd.length ≤ 900 ∧ (∀ d ∈ c.ms, mkOk d) ∧ P c.dt
theorem ok_lcopy (F : Fun K "_law_copy" "_law_copy" s_l_copy f fd) (m_list : mg "list" = none) : FnOk P w K mg base CX0 1 f fd ["_law_machine_here"] (spP K spCopy) := by
  refine dfn (N := N_l_copy) F sc_l_copy (by decide) (fun ds Q ⟨_, e, _⟩ => by rw [e]; rfl) (fun cdv A outer s H E hr => (dss_one (ds_ret (de_tup (da_cons (de_ix (de_name 0) de_int) (da_cons (de_lc rfl sc_l_copy.nd (di_list (de_ix (de_name 0) de_int)) (blkOk_by (own := [("_law_row", 1)]) (N := N_l_copy) (sc := defScope s_l_copy) (by decide +kernel)) (g := (.one 1)) (by decide) (fun _ => (dg_name (i := 1) sc_l_copy.nd)) (fun _ => dts_nil) (fun _ => (de_listG m_list (da_cons (de_name 1) da_nil)))) (da_cons (de_listG m_list (da_cons (de_ix (de_name 0) de_int) da_nil)) da_nil))))))) ?_
  rintro ds Q ⟨c, rfl, hn, hg, ho, hQ⟩
  refine ⟨_, 0, .tux c.ms, rfl, rfl, rfl, _, 1, .lst (c.st.map rowD), rfl, rfl, rfl, ?_⟩
  refine ⟨rfl, .n, fun i acc ρ => acc = (c.st.map rowD).take i ∧ ρ = [.val c.dt .p, .no], ⟨rfl, rfl⟩, ?_, ?_⟩
  · rintro i d acc ρ hd ⟨rfl, rfl⟩
    obtain ⟨et, hm⟩ := take_at hd
    obtain ⟨r, _, rfl⟩ := List.mem_map.mp hm
    refine ⟨_, rfl, fun _ => ?_, fun h => Bool.noConfusion h⟩
    refine ⟨_, _, rfl, .inr ⟨nat_nol, rfl⟩, _, rfl, rfl, ?_, et.symm, rfl⟩
    refine len_lt (Nat.lt_of_le_of_lt (List.length_take_le' _ _) ?_)
    rw [List.length_map]; omega
  · rintro acc ρ ⟨rfl, rfl⟩
    rw [List.take_length]
    refine ⟨_, 2, .lst (c.gd.map D.bl), rfl, rfl, rfl, ?_⟩
    exact ⟨_, _, rfl, .inr ⟨bls_nol, rfl⟩, _, rfl, frMc ho, hQ⟩
end
end M

namespace M
open PySem L2 DL
/- by_coming: 0 first, 1 beyond, 2 numbers, 3 things, 4 steps, 5 row, 6 target -/
abbrev s_by_coming : Stmt := top 7
abbrev N_by_coming : List Str := ["first", "beyond", "numbers", "things", "steps", "row", "target"]
theorem sc_by_coming : FnScope N_by_coming ["first", "beyond"] (defScope s_by_coming) := ⟨rfl, rfl, rfl, by decide +kernel, rfl, by decide +kernel, by decide +kernel⟩
end M


namespace M
open PySem L2 DL
variable [Tabs]
/-! ### by_coming, the things whole numbers -/
abbrev kNi (n : Nat) : Key := .inl (n : Int)
theorem kNi_inj {a b : Nat} (h : kNi a = kNi b) : a = b := by have := Sum.inl.inj h; omega
abbrev kxI (L : List (Ent Nat)) : List Key := L.map fun e => kNi e.rm
abbrev txI (L : List (Ent Nat)) : List D := L.map fun e => natD e.rm
theorem lkI {β : Type} : ∀ {L : List (Ent Nat)} {vs : List β} {t : Nat}, L.length = vs.length → lk (kxI L) vs (kNi t) = if t ∈ L.map (·.rm) then vs[ixW L t]? else none
  | [], [], t, _ => by rw [if_neg (by simp)]; rfl
  | [], _ :: _, t, h => by cases h
  | _ :: _, [], t, h => by cases h
  | e :: L, v :: vs, t, h => by
    show (if kNi e.rm = kNi t then some v else lk (kxI L) vs (kNi t)) = _
    by_cases z : e.rm = t
    · subst z
      rw [if_pos rfl, if_pos (by simp)]
      unfold ixW
      rw [List.map_cons, List.idxOf_cons_self]; rfl
    · have ih := lkI (L := L) (vs := vs) (t := t) (Nat.succ.inj h)
      rw [if_neg fun q => z (kNi_inj q), ih]
      by_cases m : t ∈ L.map (·.rm)
      · rw [if_pos m, if_pos (by rw [List.map_cons]; exact List.mem_cons_of_mem _ m)]
        unfold ixW
        rw [List.map_cons, List.idxOf_cons, show (e.rm == t) = false from beq_false_of_ne z]
        rfl
      · rw [if_neg m, if_neg (by rw [List.map_cons, List.mem_cons, not_or]; exact ⟨fun q => z q.symm, m⟩)]
theorem lk_inI {L : List (Ent Nat)} {t : Nat} (m : t ∈ L.map (·.rm)) : lk (kxI L) (vxG L) (kNi t) = some (natD (ixW L t)) := by
  rw [lkI (by rw [List.length_map, List.length_range]), if_pos m, List.getElem?_map, List.getElem?_range (ixW_lt m)]; rfl
theorem lk_outI {L : List (Ent Nat)} {t : Nat} (m : t ∉ L.map (·.rm)) : lk (kxI L) (vxG L) (kNi t) = none := by
  rw [lkI (by rw [List.length_map, List.length_range]), if_neg m]
theorem pk_addI {L : List (Ent Nat)} {x : Ent Nat} (m : x.rm ∉ L.map (·.rm)) : pk (kxI L) (kNi x.rm) = kxI (L ++ [x]) ∧ pd (kxI L) (vxG L) (kNi x.rm) (natD L.length) = vxG (L ++ [x]) := by
  have h : (kxI L).any (fun k => decide (k = kNi x.rm)) = false := by
    rw [List.any_eq_false]
    intro k hk z
    obtain ⟨e, he, rfl⟩ := List.mem_map.mp hk
    exact m (List.mem_map.mpr ⟨e, he, kNi_inj (of_decide_eq_true z)⟩)
  unfold pk pd
  rw [if_neg (by rw [h]; exact Bool.false_ne_true), if_neg (by rw [h]; exact Bool.false_ne_true)]
  refine ⟨by unfold kxI; rw [List.map_append]; rfl, ?_⟩
  unfold vxG
  rw [List.length_append, List.length_singleton, List.range_succ, List.map_append]; rfl
section
variable {P : Program} {w : World} {K : PySem.W.Frag} {mg : Str → Option Value} {base : Heap} {f : Addr} {fd : FuncData}
def spComingI (cφ : Hp → SpD → V → Prop) : SpD := fun ds P => ∃ (nx : Nat → List (D × Nat)) (s0 : Nat) (S : List Nat) (H0 : Hp) (sB : SpD), ds = [natD s0, .clo H0 (cφ H0 sB)] ∧ s0 ∈ S ∧ S.length ≤ 900000 ∧
  (∀ r ∈ S, (nx r).length ≤ 1000 ∧ (∀ p ∈ nx r, p.2 ∈ S) ∧ ∀ P : D → Prop, P (.lst ((nx r).map fun p => natD p.2)) → sB [natD r] P) ∧ ∀ k, (W nx s0 k).length ≤ k → P (.tup [.lst (txI (W nx s0 k)), .lst ((rowsW nx (W nx s0 k)).map rowD)])
theorem ok_comingI (F : Fun K "by_coming" "by_coming" s_by_coming f fd) (m_len : mg "len" = none) : FnOk P w K mg base CX0 3 f fd ["first", "beyond"] (spP K (spComingI (cloQ P w K mg base 2))) := by
  refine dfn (N := N_by_coming) F sc_by_coming (by decide) (fun ds Q ⟨_, _, _, _, _, e, _⟩ => by rw [e]; rfl) (fun cdv A outer s H E hr => (dss_cons (ds_set (i := 2) (de_disp (de_name 0) de_int) sc_by_coming.nd)
  (dss_cons (ds_set (i := 3) (de_lst (da_cons (de_nameF 0) da_nil)) sc_by_coming.nd)
  (dss_cons (ds_set (i := 4) (de_lst da_nil) sc_by_coming.nd)
  (dss_cons (ds_while (dt_lt (de_len m_len (da_cons (de_name 4) da_nil)) (de_len m_len (da_cons (de_name 3) da_nil)))
  (dss_cons (ds_set (i := 5) (de_lst da_nil) sc_by_coming.nd)
  (dss_cons (ds_for (di_list (de_callCZ (i := 1) (kk := 2) (cloQ P w K mg base 2) hr (by omega) (da_cons (de_ix (de_name 3) (de_len m_len (da_cons (de_name 4) da_nil))) da_nil))) (dg_name (i := 6) sc_by_coming.nd)
  (dss_cons (ds_cut (ds_if (dt_dnotin hr (de_name 6) (de_name 2))
  (dss_cons (ds_dput (m := 2) hr (de_len m_len (da_cons (de_name 3) da_nil)) (de_name 6))
  (dss_one (ds_app (m := 3) (de_nameF 6))))
  dss_nil))
  (dss_one (ds_app (m := 5) (de_dgetG hr (de_name 2) (de_name 6))))) (fun hg hi hb => ps_for PassesOwn.never rfl hi hg hb))
  (dss_one (ds_app (m := 4) (de_nameF 5))))) (fun hc hb => ps_while PassesOwn.never hc hb))
  (dss_one (ds_ret (de_tup (da_cons (de_nameF 3) (da_cons (de_nameF 4) da_nil)))))))))) ?_
  rintro ds Q ⟨nx, s0, S, H0, sB, rfl, h0, hS, hst, hQ⟩
  generalize ec : cloQ P w K mg base 2 = cφ
  refine ⟨_, _, rfl, rfl, by simp [ini], ?_⟩
  refine ⟨by simp [ini], by simp [ini], ?_⟩
  have hle : ∀ k, (W nx s0 k).length ≤ S.length := fun k => W_len h0 (fun x hx p hp => (hst x hx).2.1 p hp) k
  have hin : ∀ k, ∀ e ∈ W nx s0 k, e.rm ∈ S := fun k => W_in (S := fun r => r ∈ S) h0 (fun r h p hp => (hst r h).2.1 p hp) k
  refine ⟨fun n ρ => ∃ (k : Nat) (g : Fr) (b5 b6 : Sl), (g = .z ∨ g = .h) ∧ n = S.length - k ∧ k ≤ (W nx s0 k).length ∧ ρ = [.val (natD s0) .p, .val (.clo H0 (cφ H0 sB)) .p, .md (kxI (W nx s0 k)) (vxG (W nx s0 k)) .z, .ml (txI (W nx s0 k)) .z, .ml ((((W nx s0 k).take k).map fun e => rowW nx (W nx s0 k) e.rm).map rowD) g, b5, b6], ⟨S.length, 0, .z, _, _, .inl rfl, rfl, Nat.zero_le _, rfl⟩, ?_⟩
  rintro n ρ ⟨k, g, b5, b6, hg, rfl, hk, rfl⟩
  have hl1 : ((((W nx s0 k).take k).map fun e => rowW nx (W nx s0 k) e.rm).map rowD).length = k := by rw [List.length_map, List.length_map, List.length_take]; omega
  have hl2 : (txI (W nx s0 k)).length = (W nx s0 k).length := List.length_map ..
  have hleS := hle k
  refine ⟨_, rfl, _, rfl, True.intro, _, rfl, fun z => ?_, fun z => ?_⟩
  · have hlt : k < (W nx s0 k).length := by
      have := of_decide_eq_true z
      rw [hl1, hl2] at this
      omega
    obtain ⟨e, he⟩ : ∃ e, (W nx s0 k)[k]? = some e := ⟨_, List.getElem?_eq_getElem hlt⟩
    have hem := hin k e (List.mem_of_getElem? he)
    obtain ⟨hn1, hn2, hb⟩ := hst e.rm hem
    have hat : atI (txI (W nx s0 k)) (((((W nx s0 k).take k).map fun e => rowW nx (W nx s0 k) e.rm).map rowD).length : Int) = some (natD e.rm) := by
      rw [hl1]; exact atI_nat (by rw [List.getElem?_map, he]; rfl)
    refine ⟨by simp, ?_⟩
    refine ⟨⟨H0, sB, .p, rfl⟩, _, rfl, _, _, _, rfl, rfl, hat, H0, sB, .p, rfl, rfl, hb _ ?_⟩
    refine ⟨fun j ρ => ∃ (L : List (Ent Nat)) (b6 : Sl), L = addP e ((nx e.rm).take j) (W nx s0 k) ∧ ρ = [.val (natD s0) .p, .val (.clo H0 (cφ H0 sB)) .p, .md (kxI L) (vxG L) .z, .ml (txI L) .z, .ml ((((W nx s0 k).take k).map fun e => rowW nx (W nx s0 k) e.rm).map rowD) g, .ml ((((nx e.rm).take j).map fun p => ixW L p.2).map natD) .z, b6], ⟨_, _, rfl, rfl⟩, ?_, ?_⟩
    · rintro j d ρ hd ⟨L, b6, hL, rfl⟩
      rw [List.getElem?_map] at hd
      obtain ⟨⟨m, t⟩, hp, rfl⟩ := Option.map_eq_some_iff.mp hd
      have htake : (nx e.rm).take (j + 1) = (nx e.rm).take j ++ [(m, t)] := by rw [List.take_add_one, hp]; rfl
      have hL2 : addP e ((nx e.rm).take (j + 1)) (W nx s0 k) = add L e m t := by rw [htake, addP_snoc, hL]
      have hhas : ∀ p ∈ (nx e.rm).take j, p.2 ∈ L.map (·.rm) := fun p hp => hL ▸ addP_has hp
      have lL : L.length ≤ 950000 := by
        have h1 := addP_lenG (e := e) (ps := (nx e.rm).take j) (L := W nx s0 k)
        have h2 := List.length_take_le' j (nx e.rm)
        rw [hL]; omega
      have lj : j ≤ 1000 := by
        have := (List.getElem?_eq_some_iff.mp hp).1
        omega
      have hrow : ((nx e.rm).take (j + 1)).map (fun p => ixW (add L e m t) p.2) = ((nx e.rm).take j).map (fun p => ixW L p.2) ++ [ixW (add L e m t) t] := by
        rw [htake, List.map_append]
        exact congrArg (· ++ [ixW (add L e m t) t]) (List.map_congr_left fun p hp => ixW_pre add_pre (hhas p hp))
      have hlr : ((((nx e.rm).take j).map fun p => ixW L p.2).map natD).length < sizeLine := by
        rw [List.length_map, List.length_map]
        exact big_lt (Nat.le_trans (List.length_take_le' _ _) (by omega))
      refine ⟨_, rfl, ?_⟩
      refine ⟨fun ρ => ρ = [.val (natD s0) .p, .val (.clo H0 (cφ H0 sB)) .p, .md (kxI (add L e m t)) (vxG (add L e m t)) .z, .ml (txI (add L e m t)) .z, .ml ((((W nx s0 k).take k).map fun e => rowW nx (W nx s0 k) e.rm).map rowD) g, .ml ((((nx e.rm).take j).map fun p => ixW L p.2).map natD) .z, .val (natD t) .o], ?_, ?_⟩
      · rcases add_casesG (L := L) (e := e) (m := m) (t := t) with ⟨ht, ha⟩ | ⟨ht, ha⟩
        · refine ⟨.k (kxI L) (vxG L), some (natD (ixW L t)), rfl, congrArg some (lk_inI ht), fun z => Bool.noConfusion z, fun _ => ?_⟩
          rw [ha]; rfl
        · refine ⟨.k (kxI L) (vxG L), none, rfl, congrArg some (lk_outI ht), fun _ => ?_, fun z => Bool.noConfusion z⟩
          have q := pk_addI (x := (⟨t, some (e.rm, m), e.rw ++ [m]⟩ : Ent Nat)) ht
          rw [← ha] at q
          have q3 : txI L ++ [natD t] = txI (add L e m t) := by rw [ha]; unfold txI; rw [List.map_append]; rfl
          refine ⟨_, rfl, rfl, _, rfl, kNi t, rfl, by rw [List.length_map]; exact big_lt (by omega), ?_⟩
          show dApp _ _ _ [.val (natD s0) .p, .val (.clo H0 (cφ H0 sB)) .p, .md (pk (kxI L) (kNi t)) (pd (kxI L) (vxG L) (kNi t) (natD (txI L).length)) .z, .ml (txI L) .z, .ml ((((W nx s0 k).take k).map fun e => rowW nx (W nx s0 k) e.rm).map rowD) g, .ml ((((nx e.rm).take j).map fun p => ixW L p.2).map natD) .z, .val (natD t) .o]
          rw [show (txI L).length = L.length from List.length_map .., q.1, q.2]
          refine ⟨rfl, _, rfl, by rw [List.length_map]; exact big_lt (by omega), ?_⟩
          show List.set ([.val (natD s0) .p, .val (.clo H0 (cφ H0 sB)) .p, .md (kxI (add L e m t)) (vxG (add L e m t)) .z, .ml (txI L) .z, .ml ((((W nx s0 k).take k).map fun e => rowW nx (W nx s0 k) e.rm).map rowD) g, .ml ((((nx e.rm).take j).map fun p => ixW L p.2).map natD) .z, .val (natD t) .o] : En) 3 (.ml (txI L ++ [natD t]) .z) = _
          rw [q3]; rfl
      · rintro ρ rfl
        have hlk : dvLook (.k (kxI (add L e m t)) (vxG (add L e m t))) (natD t) = some (some (natD (ixW (add L e m t) t))) := congrArg some (lk_inI add_has)
        refine ⟨rfl, _, _, rfl, hlk, _, rfl, hlr, add L e m t, .val (natD t) .o, hL2.symm, ?_⟩
        show List.set ([.val (natD s0) .p, .val (.clo H0 (cφ H0 sB)) .p, .md (kxI (add L e m t)) (vxG (add L e m t)) .z, .ml (txI (add L e m t)) .z, .ml ((((W nx s0 k).take k).map fun e => rowW nx (W nx s0 k) e.rm).map rowD) g, .ml ((((nx e.rm).take j).map fun p => ixW L p.2).map natD) .z, .val (natD t) .o] : En) 5 (.ml ((((nx e.rm).take j).map fun p => ixW L p.2).map natD ++ [natD (ixW (add L e m t) t)]) .z) = _
        rw [hrow, List.map_append]; rfl
    · rintro ρ ⟨L, b6, hL, rfl⟩
      rw [List.length_map, List.take_length] at hL
      have hW : L = W nx s0 (k + 1) := by rw [W_nextG he, hL]
      subst hW
      rw [List.length_map, List.take_length]
      have hg2 : fmin g (fup .h (rowD (rowW nx (W nx s0 (k + 1)) e.rm))) = .h := by rcases hg with rfl | rfl <;> rfl
      refine ⟨rfl, _, rfl, by rw [hl1]; exact big_lt (by omega), S.length - (k + 1), by omega, k + 1, .h, .val (rowD (rowW nx (W nx s0 (k + 1)) e.rm)) .n, b6, .inr rfl, rfl, ?_, ?_⟩
      · have := (List.getElem?_eq_some_iff.mp (W_get (Nat.le_succ k) he)).1
        exact this
      · show List.set ([.val (natD s0) .p, .val (.clo H0 (cφ H0 sB)) .p, .md (kxI (W nx s0 (k + 1))) (vxG (W nx s0 (k + 1))) .z, .ml (txI (W nx s0 (k + 1))) .z, .ml ((((W nx s0 k).take k).map fun e => rowW nx (W nx s0 k) e.rm).map rowD) g, .val (rowD (rowW nx (W nx s0 (k + 1)) e.rm)) .n, b6] : En) 4 (.ml ((((W nx s0 k).take k).map fun e => rowW nx (W nx s0 k) e.rm).map rowD ++ [rowD (rowW nx (W nx s0 (k + 1)) e.rm)]) (fmin g (fup .h (rowD (rowW nx (W nx s0 (k + 1)) e.rm))))) = _
        rw [hg2, rows_next he, List.map_append]; rfl
  · have hge : (W nx s0 k).length ≤ k := by
      have := of_decide_eq_false z
      rw [hl1, hl2] at this
      omega
    have h2 := hQ k hge
    rw [show ((W nx s0 k).take k).map (fun e => rowW nx (W nx s0 k) e.rm) = rowsW nx (W nx s0 k) by rw [List.take_of_length_le hge]; rfl]
    refine ⟨_, rfl, ?_, h2⟩
    rcases hg with rfl | rfl <;> rfl
end
end M

namespace M
open PySem PySem.Spec PyProof.Rows L2 DL
variable [Tabs]
abbrev nV (i : Nat) : V := .int (i : Int)
theorem same_upd {H : Hp} {p : Addr} {o : HO} (h : H p = none) : Same H (upd H p o) := fun b x e => by
  rw [upd_ne (ne_of_none e h)]; exact e
theorem sizeBig : sizeLine = 16777216 := sizeLine_eq
/-! ### the lists of rooms that lead -/
structure LdH (H : Hp) (p : Addr) (ls : List Addr) (ld : List (List Nat)) : Prop where
  top : H p = some (.lst (ls.map V.ref))
  at_ : ∀ (r : Nat) (l : Addr), ls[r]? = some l → H l = some (.lst ((ld.getD r []).map nV))
  nd : ls.Nodup
  len : ls.length = ld.length
  pn : p ∉ ls
theorem LdH.keep {H H' : Hp} {p : Addr} {ls : List Addr} {ld : List (List Nat)} (h : LdH H p ls ld) (k : Same H H') : LdH H' p ls ld := ⟨k _ _ h.top, fun r l e => k _ _ (h.at_ r l e), h.nd, h.len, h.pn⟩
def putL (ld : List (List Nat)) (r b : Nat) : List (List Nat) := ld.set r (ld.getD r [] ++ [b])
theorem putL_at {ld : List (List Nat)} {r b r' : Nat} (h : r < ld.length) : (putL ld r b).getD r' [] = if r' = r then ld.getD r [] ++ [b] else ld.getD r' [] := by
  unfold putL
  by_cases e : r' = r
  · subst e
    rw [if_pos rfl, List.getD_eq_getElem?_getD, List.getElem?_set_self h]; rfl
  · rw [if_neg e, List.getD_eq_getElem?_getD, List.getElem?_set_ne (Ne.symm e), ← List.getD_eq_getElem?_getD]
theorem LdH.put {H : Hp} {p : Addr} {ls : List Addr} {ld : List (List Nat)} (h : LdH H p ls ld) {r b : Nat} {l : Addr} (e : ls[r]? = some l) : LdH (upd H l (.lst ((ld.getD r []).map nV ++ [nV b]))) p ls (putL ld r b) := by
  have hr : r < ls.length := (List.getElem?_eq_some_iff.mp e).1
  have ml : l ∈ ls := List.mem_of_getElem? e
  refine ⟨?_, fun r' l' e' => ?_, h.nd, by unfold putL; rw [List.length_set]; exact h.len, h.pn⟩
  · rw [upd_ne (fun z => h.pn (by rw [z]; exact ml))]; exact h.top
  · rw [putL_at (by rw [← h.len]; exact hr)]
    by_cases z : r' = r
    · subst z
      rw [e] at e'; cases e'
      rw [upd_same, if_pos rfl, List.map_append]; rfl
    · rw [if_neg z, upd_ne]
      · exact h.at_ r' l' e'
      · intro q
        subst q
        exact z (nd_ix h.nd e' e)
section
variable {P : Program} {w : World} {K : PySem.W.Frag} {mg : Str → Option Value} {base : Heap}
/-- the rooms' rows, to be read -/
structure StH (K : PySem.W.Frag) (H : Hp) (a : Addr) (rs : List Addr) (st : List (List Nat)) : Prop where
  top : SqL K H a (rs.map V.ref)
  len : rs.length = st.length
  row : ∀ (i : Nat) (r : Addr), rs[i]? = some r → SqL K H r ((st.getD i []).map nV)
theorem StH.keep {H H' : Hp} {a : Addr} {rs : List Addr} {st : List (List Nat)} (h : StH K H a rs st) (k : Same H H') : StH K H' a rs st := ⟨k.seq h.top, h.len, fun i r e => k.seq (h.row i r e)⟩
def spLead (K : PySem.W.Frag) : Sp := fun vs H Q _ => ∃ (a : Addr) (rs : List Addr) (st : List (List Nat)) (m : Nat), vs = [.ref a] ∧ StH K H a rs st ∧ StOk st.length m st ∧ st.length ≤ 4000 ∧ m ≤ 100 ∧
  ∀ H' p ls ld, Same H H' → H p = none → (∀ l ∈ ls, H l = none) → LdH H' p ls ld → ld.length = st.length → (∀ r b, b ∈ ld.getD r [] ↔ b < st.length ∧ r ∈ st.getD b []) → Q (.ref p) H'
/- leading_to: 0 steps, 1 leading, 2 _, 3 before, 4 row, 5 room -/
abbrev s_leading_to : Stmt := top 2
abbrev N_leading_to : List Str := ["steps", "leading", "_", "before", "row", "room"]
theorem sc_leading_to : FnScope N_leading_to ["steps"] (defScope s_leading_to) := ⟨rfl, rfl, rfl, by decide +kernel, rfl, by decide +kernel, by decide +kernel⟩
theorem ok_leading {f : Addr} {fd : FuncData} (F : Fun K "leading_to" "leading_to" s_leading_to f fd) (m_enumerate : mg "enumerate" = none) : FnOk P w K mg base CX0 1 f fd ["steps"] (spLead K) := by
  refine F.ok sc_leading_to (fun vs H Q E h => ?_) (fun cdv A outer s H vs Q E hr h => ?_)
  · obtain ⟨a, rs, st, m, rfl, _⟩ := h; rfl
  · obtain ⟨a, rs, st, m, rfl, hS, ok, hn, hm, q⟩ := h
    refine ⟨_, pss_cons (ps_setLc (i := 1) (g := gName 2) (tt := tYes) rfl sc_leading_to.nd rfl rfl (sw_true rfl rfl rfl (by decide +kernel)) (pi_list (pv 0)) (blkOk_by (own := [("_", 2)]) (N := N_leading_to) (sc := defScope s_leading_to) (by decide +kernel)) (fun _ _ _ _ _ => pg_name (i := 2) sc_leading_to.nd rfl (.inl rfl)) (fun _ _ _ _ _ => pts_nil) (fun _ _ _ _ _ => pe_lst pa_nil))
      (pss_cons (ps_for PassesOwn.never rfl (pi_enum (by rfl) m_enumerate (pa_cons (pv 0) pa_nil)) (pg_tup rfl (pgs_cons (pg_name (i := 3) sc_leading_to.nd rfl (.inl rfl)) (pgs_cons (pg_name (i := 4) sc_leading_to.nd rfl (.inl rfl)) pgs_nil)))
        (pss_one (ps_for PassesOwn.never rfl (pi_list (pv 4)) (pg_name (i := 5) sc_leading_to.nd rfl (.inl rfl))
          (pss_one (ps_expr (pe_bm PySem.F.plainAttrs_list PySem.F.slot_list_append PySem.F.type_list_append mt_append (pe_ix ix_list (pv 1) (pv 5) (fun _ _ => rfl)) (pa_cons (pv 3) pa_nil)))))))
      (pss_one (ps_ret (pv 1)))), ?_⟩
    have hz := sizeBig
    refine ⟨.ref a, rfl, a, rfl, ⟨_, hS.top⟩, fun D hD => lc_list (K := K) (a := a) (xs := rs.map V.ref) (fun i H' => ∃ ls : List Addr, Same H H' ∧ (∀ l ∈ ls, H l = none) ∧ LdH H' D ls (List.replicate i [])) ?_ (fun i H' _ ⟨_, s, _⟩ => s.seq hS.top) ?_ ?_⟩
    · refine ⟨[], same_upd hD, (fun _ z => by cases z), ⟨upd_same, fun r l e => by simp at e, List.nodup_nil, rfl, by simp⟩⟩
    · rintro i x H' hx ⟨ls, sm, nw, ld⟩
      refine ⟨rfl, Nat.zero_le _, fun l hl => ⟨ls.map V.ref, ?_, ?_, ls ++ [l], ?_, fun y hy => ?_, ?_⟩⟩
      · rw [upd_ne (ne_of_none ld.top hl)]; exact ld.top
      · have := (List.getElem?_eq_some_iff.mp hx).1
        have hl := ld.len
        rw [List.length_replicate] at hl
        rw [List.length_map] at this ⊢
        have := hS.len
        omega
      · refine fun b o e => ?_
        have := sm b o e
        rw [upd_ne (ne_of_none e hD), upd_ne (ne_of_none this hl)]
        exact this
      · rcases List.mem_append.mp hy with hy | hy
        · exact nw y hy
        · rw [List.mem_singleton.mp hy]
          exact sm.free hl
      · have nl : l ∉ ls := fun z => by
          obtain ⟨j, hj, e⟩ := List.getElem_of_mem z
          have := ld.at_ j l (by rw [List.getElem?_eq_getElem hj, e])
          rw [hl] at this; cases this
        have nD : l ≠ D := (ne_of_none ld.top hl).symm
        refine ⟨?_, fun r l' e => ?_, ?_, ?_, ?_⟩
        · rw [upd_same, List.map_append]; rfl
        · have er : (List.replicate (i + 1) ([] : List Nat)).getD r [] = [] := by
            rw [List.getD_eq_getElem?_getD, List.getElem?_replicate]
            split <;> rfl
          rw [er, upd_ne]
          · by_cases h2 : r < ls.length
            · rw [List.getElem?_append_left h2] at e
              have := ld.at_ r l' e
              have er : (List.replicate i ([] : List Nat)).getD r [] = [] := by
                rw [List.getD_eq_getElem?_getD, List.getElem?_replicate]
                split <;> rfl
              rw [er] at this
              rw [upd_ne (ne_of_none this hl)]
              exact this
            · have h3 := (List.getElem?_eq_some_iff.mp e).1
              rw [List.length_append, List.length_singleton] at h3
              obtain rfl : r = ls.length := by omega
              rw [List.getElem?_concat_length] at e
              cases e
              exact upd_same
          · intro z
            subst z
            rcases List.mem_append.mp (List.mem_of_getElem? e) with e | e
            · exact ld.pn e
            · exact nD (List.mem_singleton.mp e).symm
        · rw [List.nodup_append]
          refine ⟨ld.nd, List.nodup_cons.mpr ⟨by simp, List.nodup_nil⟩, fun x hx y hy z => ?_⟩
          rw [List.mem_singleton.mp hy] at z
          exact nl (z ▸ hx)
        · have := ld.len
          rw [List.length_replicate] at this
          rw [List.length_append, List.length_singleton, List.length_replicate, this]
        · intro z
          rcases List.mem_append.mp z with z | z
          · exact ld.pn z
          · exact nD (List.mem_singleton.mp z).symm
    · rintro H1 ⟨ls, s1, nw, ld0⟩
      rw [List.length_map, hS.len] at ld0
      refine ⟨.ref a, rfl, a, rs.map V.ref, rfl, s1.seq hS.top, for_it (walk_enum (K := K) (a := a) (xs := rs.map V.ref)) (fun i σ H' => ∃ x3 x4 x5 ld, σ = [some (.ref a), some (.ref D), none, x3, x4, x5] ∧ Same H H' ∧ LdH H' D ls ld ∧ ld.length = st.length ∧
        (∀ r b, b ∈ ld.getD r [] ↔ b < i ∧ r ∈ st.getD b []) ∧ ∀ r, (ld.getD r []).length ≤ i * m) ?_ (fun i σ H' _ ⟨_, _, _, _, _, s, _⟩ => s.seq hS.top) ?_ ?_⟩
      · refine ⟨none, none, none, _, rfl, s1, ld0, List.length_replicate, fun r b => ?_, fun r => ?_⟩
        · rw [List.getD_eq_getElem?_getD, List.getElem?_replicate]
          split <;> simp
        · rw [List.getD_eq_getElem?_getD, List.getElem?_replicate]
          split <;> simp
      · rintro i x σ H' H2 hi ⟨x3, x4, x5, ld, rfl, sm, hL, hl, hb, hs⟩ ⟨T, y1, y2, rfl, nT, rfl, e1, e2⟩
        rw [List.length_map, hS.len] at hi
        cases e1
        have hri : i < rs.length := by rw [hS.len]; exact hi
        have e2 : (rs.map V.ref)[i]? = some y2 := e2
        rw [List.getElem?_map, List.getElem?_eq_getElem hri] at e2
        cases e2
        have eri : rs[i]? = some rs[i] := List.getElem?_eq_getElem hri
        refine ⟨T, [.int (i : Nat), .ref rs[i]], rfl, .inl (.inl upd_same), rfl, _, _, rfl, _, [], rfl, rfl, ?_⟩
        have sT : Same H (upd H' T (.tup [.int (i : Nat), .ref rs[i]])) := sm.trans (same_upd nT)
        refine ⟨.ref rs[i], rfl, rs[i], rfl, ⟨_, sT.seq (hS.row i _ eri)⟩, for_list (K := K) (a := rs[i]) (xs := (st.getD i []).map nV) (fun j σ H' => ∃ x5 ld, σ = [some (.ref a), some (.ref D), none, some (nV i), some (.ref rs[i]), x5] ∧ Same H H' ∧ LdH H' D ls ld ∧ ld.length = st.length ∧
          (∀ r b, b ∈ ld.getD r [] ↔ (b < i ∧ r ∈ st.getD b []) ∨ (b = i ∧ r ∈ (st.getD i []).take j)) ∧ ∀ r, (ld.getD r []).length ≤ i * m + j) ?_ (fun j σ H' _ ⟨_, _, _, s, _⟩ => s.seq (hS.row i _ eri)) ?_ ?_⟩
        · refine ⟨x5, ld, rfl, sT, hL.keep (same_upd nT), hl, fun r b => ?_, fun r => hs r⟩
          rw [hb r b]; simp
        · rintro j x σ H' hx ⟨x5, ld, rfl, sm, hL, hl, hb, hs⟩
          have hj : j < (st.getD i []).length := by have := (List.getElem?_eq_some_iff.mp hx).1; rwa [List.length_map] at this
          rw [List.getElem?_map, List.getElem?_eq_getElem hj] at hx
          cases hx
          have jm : j < m := by rw [ok.rl i hi] at hj; exact hj
          have e0 : dl st i j = (st.getD i [])[j] := by
            show (st.getD i []).getD j 0 = _
            rw [List.getD_eq_getElem?_getD, List.getElem?_eq_getElem hj]; rfl
          have hb2 := ok.rb i j hi jm
          rw [e0] at hb2
          generalize er : (st.getD i [])[j] = room at *
          have hrl : room < ls.length := by rw [hL.len, hl]; exact hb2
          have el : ls[room]? = some ls[room] := List.getElem?_eq_getElem hrl
          have hle : (ld.getD room []).length < sizeLine := by
            have := hs room
            have h2 : i * m ≤ 4000 * 100 := Nat.mul_le_mul (by omega) hm
            omega
          refine ⟨.ref D, rfl, nV room, rfl, D, _, _, .ref ls[room], rfl, rfl, SqL.of hL.top, L2.atI_nat (by rw [List.getElem?_map, el]; rfl), Or.inl ⟨rfl, _, .inl (.inl (hL.at_ room _ el))⟩, nV i, rfl, ls[room], _, _, rfl, rfl, hL.at_ room _ el, by rw [List.length_map]; exact hle, ?_⟩
          refine ⟨some (nV room), putL ld room i, rfl, fun b o e => ?_, hL.put el, by unfold putL; rw [List.length_set]; exact hl, fun r b => ?_, fun r => ?_⟩
          · rw [upd_ne]
            · exact sm b o e
            · intro z
              subst z
              rw [nw _ (List.getElem_mem hrl)] at e; cases e
          · rw [putL_at (by rw [hl]; exact hb2), List.take_add_one, List.getElem?_eq_getElem hj, er]
            by_cases z : r = room
            · subst z
              rw [if_pos rfl, List.mem_append, List.mem_singleton, hb r b]
              simp only [Option.toList_some, List.mem_append, List.mem_singleton]
              constructor
              · rintro ((h | h) | h)
                · exact .inl h
                · exact .inr ⟨h.1, .inl h.2⟩
                · exact .inr ⟨h, .inr trivial⟩
              · rintro (h | ⟨h, h2 | h2⟩)
                · exact .inl (.inl h)
                · exact .inl (.inr ⟨h, h2⟩)
                · exact .inr h
            · rw [if_neg z, hb r b]
              simp only [Option.toList_some, List.mem_append, List.mem_singleton, z, or_false]
          · rw [putL_at (by rw [hl]; exact hb2)]
            by_cases z : r = room
            · subst z
              rw [if_pos rfl, List.length_append, List.length_singleton]
              have := hs r
              omega
            · rw [if_neg z]
              have := hs r
              omega
        · rintro σ H' ⟨x5, ld, rfl, sm, hL, hl, hb, hs⟩
          rw [List.length_map] at hb hs
          refine ⟨_, _, _, ld, rfl, sm, hL, hl, fun r b => ?_, fun r => ?_⟩
          · rw [hb r b, List.take_length]
            constructor
            · rintro (h | ⟨rfl, h⟩)
              · exact ⟨by omega, h.2⟩
              · exact ⟨by omega, h⟩
            · rintro ⟨h1, h2⟩
              by_cases e : b = i
              · subst e; exact .inr ⟨rfl, h2⟩
              · exact .inl ⟨by omega, h2⟩
          · have := hs r
            rw [ok.rl i hi] at this
            rw [Nat.succ_mul]; exact this
      · rintro σ H' ⟨x3, x4, x5, ld, rfl, sm, hL, hl, hb, hs⟩
        rw [List.length_map, hS.len] at hb
        exact ⟨.ref D, rfl, q H' D ls ld sm hD nw hL hl hb⟩
end
end M

namespace M
open PySem PySem.Spec PyProof.Rows L2 DL
variable [Tabs]
/-! ### rooms sorted out: by class, then by row -/
abbrev FE := Nat × Addr
abbrev GE := Addr × List Nat × Addr × List Nat
def kI (i : Nat) : Key := .inl (i : Int)
theorem kI_inj {a b : Nat} (h : kI a = kI b) : a = b := by unfold kI at h; injection h with h; omega
theorem kIs_inj : ∀ {a b : List Nat}, a.map kI = b.map kI → a = b
  | [], [], _ => rfl
  | [], _ :: _, e => by simp at e
  | _ :: _, [], e => by simp at e
  | x :: xs, y :: ys, e => by
    rw [List.map_cons, List.map_cons] at e
    injection e with e1 e2
    rw [kI_inj e1, kIs_inj e2]
theorem valV_atL {α κ : Type} [DecidableEq κ] {f : α → κ} {g : α → V} : ∀ {L : List α} {x : α}, (L.map f).Nodup → x ∈ L → valV (L.map fun a => (f a, g a)) (f x) = some (g x)
  | [], _, _, h => by cases h
  | y :: L, x, nd, h => by
    rw [List.map_cons, List.nodup_cons] at nd
    rcases List.mem_cons.mp h with rfl | h
    · exact valV_pos (p := (f x, g x)) rfl
    · rw [List.map_cons, valV_neg (p := (f y, g y)) (fun z => nd.1 (List.mem_map.mpr ⟨x, h, z.symm⟩))]
      exact valV_atL nd.2 h
theorem valV_noL {α κ : Type} [DecidableEq κ] {f : α → κ} {g : α → V} {k : κ} : ∀ {L : List α}, (∀ x ∈ L, f x ≠ k) → valV (L.map fun a => (f a, g a)) k = none
  | [], _ => rfl
  | y :: L, h => by
    rw [List.map_cons, valV_neg (p := (f y, g y)) (h y List.mem_cons_self)]
    exact valV_noL fun x hx => h x (List.mem_cons_of_mem _ hx)
def fkv (F : List FE) : List (Key × V) := F.map fun e => (kI e.1, V.ref e.2)
def ofD (G : List GE) (d : Addr) : List GE := G.filter fun g => decide (g.1 = d)
def gkv (G : List GE) (d : Addr) : List (List Key × V) := (ofD G d).map fun g => (g.2.1.map kI, V.ref g.2.2.1)
structure FoH (H : Hp) (aF : Addr) (F : List FE) (G : List GE) : Prop where
  top : H aF = some (.dK (fkv F))
  mid : ∀ e ∈ F, H e.2 = some (.dT (gkv G e.2))
  leaf : ∀ g ∈ G, H g.2.2.1 = some (.lst (g.2.2.2.map nV))
  kn : (F.map (·.1)).Nodup
  dn : (F.map (·.2)).Nodup
  ln : (G.map (·.2.2.1)).Nodup
  pn : (G.map fun g => (g.1, g.2.1)).Nodup
  gin : ∀ g ∈ G, g.1 ∈ F.map (·.2)
theorem FoH.keep {H H' : Hp} {aF : Addr} {F : List FE} {G : List GE} (h : FoH H aF F G) (k : Same H H') : FoH H' aF F G := ⟨k _ _ h.top, fun e he => k _ _ (h.mid e he), fun g hg => k _ _ (h.leaf g hg), h.kn, h.dn, h.ln, h.pn, h.gin⟩
theorem fkv_some {F : List FE} (nd : (F.map (·.1)).Nodup) {e : FE} (h : e ∈ F) : valV (fkv F) (kI e.1) = some (.ref e.2) := by
  refine valV_atL (f := fun e : FE => kI e.1) (g := fun e : FE => V.ref e.2) ?_ h
  rw [List.Nodup, List.pairwise_map] at nd ⊢
  exact nd.imp fun h z => h (kI_inj z)
theorem fkv_none {F : List FE} {c : Nat} (h : c ∉ F.map (·.1)) : valV (fkv F) (kI c) = none :=
  valV_noL fun x hx z => h (List.mem_map.mpr ⟨x, hx, kI_inj z⟩)
theorem mem_ofD {G : List GE} {d : Addr} {g : GE} : g ∈ ofD G d ↔ g ∈ G ∧ g.1 = d := by
  unfold ofD; rw [List.mem_filter, decide_eq_true_eq]
theorem gkv_nd {G : List GE} {d : Addr} (pn : (G.map fun g => (g.1, g.2.1)).Nodup) : ((ofD G d).map fun g => g.2.1.map kI).Nodup := by
  rw [List.Nodup, List.pairwise_map] at pn ⊢
  refine List.Pairwise.imp_of_mem ?_ (pn.filter _)
  intro a b ha hb hab z
  refine hab ?_
  rw [(mem_ofD.mp ha).2, (mem_ofD.mp hb).2, kIs_inj z]
theorem gkv_some {G : List GE} {d : Addr} (pn : (G.map fun g => (g.1, g.2.1)).Nodup) {g : GE} (h : g ∈ G) (e : g.1 = d) : valV (gkv G d) (g.2.1.map kI) = some (.ref g.2.2.1) :=
  valV_atL (f := fun g : GE => g.2.1.map kI) (g := fun g : GE => V.ref g.2.2.1) (gkv_nd pn) (mem_ofD.mpr ⟨h, e⟩)
theorem gkv_none {G : List GE} {d : Addr} {row : List Nat} (h : ∀ g ∈ G, g.1 = d → g.2.1 ≠ row) : valV (gkv G d) (row.map kI) = none :=
  valV_noL fun x hx z => h x (mem_ofD.mp hx).1 (mem_ofD.mp hx).2 (kIs_inj z)
theorem fst_inj {F : List FE} (nd : (F.map (·.1)).Nodup) {a b : FE} (ha : a ∈ F) (hb : b ∈ F) (e : a.1 = b.1) : a = b := by
  obtain ⟨i, hi, rfl⟩ := List.getElem_of_mem ha
  obtain ⟨j, hj, rfl⟩ := List.getElem_of_mem hb
  have := nd_ix nd (i := i) (j := j) (x := F[i].1) (by rw [List.getElem?_map, List.getElem?_eq_getElem hi]; rfl) (by rw [List.getElem?_map, List.getElem?_eq_getElem hj, e]; rfl)
  subst this; rfl
theorem map_inj {α β : Type} {f : α → β} {L : List α} (nd : (L.map f).Nodup) {a b : α} (ha : a ∈ L) (hb : b ∈ L) (e : f a = f b) : a = b := by
  obtain ⟨i, hi, rfl⟩ := List.getElem_of_mem ha
  obtain ⟨j, hj, rfl⟩ := List.getElem_of_mem hb
  have := nd_ix nd (i := i) (j := j) (x := f L[i]) (by rw [List.getElem?_map, List.getElem?_eq_getElem hi]; rfl) (by rw [List.getElem?_map, List.getElem?_eq_getElem hj, e]; rfl)
  subst this; rfl
theorem nodup_snoc {α : Type} {L : List α} {x : α} (nd : L.Nodup) (h : x ∉ L) : (L ++ [x]).Nodup := by
  rw [List.nodup_append]
  refine ⟨nd, List.nodup_cons.mpr ⟨by simp, List.nodup_nil⟩, fun a ha b hb z => ?_⟩
  rw [List.mem_singleton.mp hb] at z
  exact h (z ▸ ha)
section
variable {H : Hp} {aF : Addr} {F : List FE} {G : List GE}
theorem FoH.class (h : FoH H aF F G) {c : Nat} {p : Addr} (hc : c ∉ F.map (·.1)) (hp : H p = none) : FoH (upd (upd H p (.dT [])) aF (.dK (fkv (F ++ [(c, p)])))) aF (F ++ [(c, p)]) G := by
  have np : p ≠ aF := (ne_of_none h.top hp).symm
  have pd : ∀ e ∈ F, e.2 ≠ p := fun e he => ne_of_none (h.mid e he) hp
  refine ⟨upd_same, fun e he => ?_, fun g hg => ?_, ?_, ?_, h.ln, h.pn, fun g hg => ?_⟩
  · rcases List.mem_append.mp he with he | he
    · rw [upd_ne (ne_of (h.mid e he) h.top fun z => nomatch z), upd_ne (pd e he)]
      exact h.mid e he
    · rw [List.mem_singleton.mp he, upd_ne np, upd_same]
      have : ofD G p = [] := by
        rw [List.eq_nil_iff_forall_not_mem]
        intro g hg
        obtain ⟨h1, h2⟩ := mem_ofD.mp hg
        obtain ⟨e, he, q⟩ := List.mem_map.mp (h.gin g h1)
        exact pd e he (q.trans h2)
      unfold gkv
      rw [this]; rfl
  · rw [upd_ne (ne_of (h.leaf g hg) h.top fun z => nomatch z), upd_ne (ne_of_none (h.leaf g hg) hp)]
    exact h.leaf g hg
  · rw [List.map_append]
    exact nodup_snoc h.kn hc
  · rw [List.map_append]
    refine nodup_snoc h.dn fun z => ?_
    obtain ⟨e, he, q⟩ := List.mem_map.mp z
    exact pd e he q
  · rw [List.map_append]; exact List.mem_append_left _ (h.gin g hg)
theorem FoH.row (h : FoH H aF F G) {e : FE} {row : List Nat} {p : Addr} (he : e ∈ F) (hr : ∀ g ∈ G, g.1 = e.2 → g.2.1 ≠ row) (hp : H p = none) :
    FoH (upd (upd H p (.lst [])) e.2 (.dT (gkv (G ++ [(e.2, row, p, [])]) e.2))) aF F (G ++ [(e.2, row, p, [])]) := by
  have hd := h.mid e he
  have np : p ≠ e.2 := (ne_of_none hd hp).symm
  refine ⟨?_, fun e' he' => ?_, fun g hg => ?_, h.kn, h.dn, ?_, ?_, fun g hg => ?_⟩
  · rw [upd_ne (ne_of h.top hd fun z => nomatch z), upd_ne (ne_of_none h.top hp)]
    exact h.top
  · by_cases z : e'.2 = e.2
    · rw [z, upd_same]
    · rw [upd_ne z, upd_ne (ne_of_none (h.mid e' he') hp), h.mid e' he']
      have : gkv (G ++ [(e.2, row, p, [])]) e'.2 = gkv G e'.2 := by
        unfold gkv ofD
        rw [List.filter_append]
        have : List.filter (fun g : GE => decide (g.1 = e'.2)) [(e.2, row, p, [])] = [] := by
          rw [List.filter_cons_of_neg (by rw [decide_eq_true_eq]; exact fun q => z q.symm)]; rfl
        rw [this, List.append_nil]
      rw [this]
  · rcases List.mem_append.mp hg with hg | hg
    · rw [upd_ne (ne_of (h.leaf g hg) hd fun z => nomatch z), upd_ne (ne_of_none (h.leaf g hg) hp)]
      exact h.leaf g hg
    · rw [List.mem_singleton.mp hg, upd_ne np, upd_same]; rfl
  · rw [List.map_append]
    refine nodup_snoc h.ln fun z => ?_
    obtain ⟨g, hg, q⟩ := List.mem_map.mp z
    exact ne_of_none (h.leaf g hg) hp q
  · rw [List.map_append]
    refine nodup_snoc h.pn fun z => ?_
    obtain ⟨g, hg, q⟩ := List.mem_map.mp z
    injection q with q1 q2
    exact hr g hg q1 q2
  · rcases List.mem_append.mp hg with hg | hg
    · exact h.gin g hg
    · rw [List.mem_singleton.mp hg]
      exact List.mem_map.mpr ⟨e, he, rfl⟩
theorem gkv_snoc {d : Addr} {row : List Nat} {p : Addr} : gkv (G ++ [(d, row, p, [])]) d = gkv G d ++ [(row.map kI, V.ref p)] := by
  unfold gkv ofD
  rw [List.filter_append, List.map_append]
  have : List.filter (fun g : GE => decide (g.1 = d)) [(d, row, p, [])] = [(d, row, p, [])] := List.filter_cons_of_pos (by rw [decide_eq_true_eq])
  rw [this]; rfl
def upE (l : Addr) (r : Nat) (g : GE) : GE := if g.2.2.1 = l then (g.1, g.2.1, g.2.2.1, g.2.2.2 ++ [r]) else g
theorem upE1 {l : Addr} {r : Nat} {g : GE} : (upE l r g).1 = g.1 := by unfold upE; split <;> rfl
theorem upE2 {l : Addr} {r : Nat} {g : GE} : (upE l r g).2.1 = g.2.1 := by unfold upE; split <;> rfl
theorem upE3 {l : Addr} {r : Nat} {g : GE} : (upE l r g).2.2.1 = g.2.2.1 := by unfold upE; split <;> rfl
theorem upE4 {l : Addr} {r : Nat} {g : GE} : (upE l r g).2.2.2 = if g.2.2.1 = l then g.2.2.2 ++ [r] else g.2.2.2 := by unfold upE; split <;> rfl
def upG (G : List GE) (l : Addr) (r : Nat) : List GE := G.map (upE l r)
theorem gkv_up {l : Addr} {r : Nat} {d : Addr} : gkv (upG G l r) d = gkv G d := by
  unfold gkv ofD upG
  rw [List.filter_map, List.map_map]
  have e1 : ((fun g : GE => decide (g.1 = d)) ∘ upE l r) = fun g => decide (g.1 = d) := by
    funext g
    show decide ((upE l r g).1 = d) = _
    rw [upE1]
  rw [e1]
  refine List.map_congr_left fun g _ => ?_
  show ((upE l r g).2.1.map kI, V.ref (upE l r g).2.2.1) = _
  rw [upE2, upE3]
theorem FoH.more (h : FoH H aF F G) {g : GE} {r : Nat} (hg : g ∈ G) : FoH (upd H g.2.2.1 (.lst (g.2.2.2.map nV ++ [nV r]))) aF F (upG G g.2.2.1 r) := by
  have hl := h.leaf g hg
  have m3 : (upG G g.2.2.1 r).map (·.2.2.1) = G.map (·.2.2.1) := by
    unfold upG
    rw [List.map_map]
    exact List.map_congr_left fun x _ => upE3
  have m12 : (upG G g.2.2.1 r).map (fun g => (g.1, g.2.1)) = G.map fun g => (g.1, g.2.1) := by
    unfold upG
    rw [List.map_map]
    refine List.map_congr_left fun x _ => ?_
    show ((upE _ r x).1, (upE _ r x).2.1) = _
    rw [upE1, upE2]
  refine ⟨?_, fun e he => ?_, fun x hx => ?_, h.kn, h.dn, by rw [m3]; exact h.ln, by rw [m12]; exact h.pn, fun x hx => ?_⟩
  · rw [upd_ne (ne_of h.top hl fun z => nomatch z)]; exact h.top
  · rw [upd_ne (ne_of (h.mid e he) hl fun z => nomatch z), gkv_up]; exact h.mid e he
  · obtain ⟨y, hy, rfl⟩ := List.mem_map.mp hx
    rw [upE3, upE4]
    by_cases z : y.2.2.1 = g.2.2.1
    · obtain rfl := map_inj (f := fun g : GE => g.2.2.1) h.ln hy hg z
      rw [upd_same, if_pos rfl, List.map_append]; rfl
    · rw [if_neg z, upd_ne z]; exact h.leaf y hy
  · obtain ⟨y, hy, rfl⟩ := List.mem_map.mp hx
    rw [upE1]; exact h.gin y hy
end
/-- what the tables tell of the rooms that are through -/
structure FoW (a b : Nat) (don : List Nat) (st : List (List Nat)) (cs : List Nat) (F : List FE) (G : List GE) : Prop where
  mem : ∀ g ∈ G, ∀ r, r ∈ g.2.2.2 ↔ r ∈ don ∧ (gC cs r, g.1) ∈ F ∧ rowC st cs r = g.2.1
  cov : ∀ r ∈ don, ∃ g ∈ G, (gC cs r, g.1) ∈ F ∧ rowC st cs r = g.2.1
  fl : F.length ≤ a
  gl : G.length ≤ b
  rl : ∀ g ∈ G, g.2.2.2.length ≤ don.length
  nd : ∀ g ∈ G, g.2.2.2.Nodup
structure FoM (don : List Nat) (st : List (List Nat)) (cs : List Nat) (F : List FE) (G : List GE) : Prop where
  w : FoW don.length don.length don st cs F G
  fg : ∀ e ∈ F, ∃ g ∈ G, g.1 = e.2
  nn : ∀ g ∈ G, g.2.2.2 ≠ []
section
variable {a b : Nat} {don : List Nat} {st : List (List Nat)} {cs : List Nat} {F : List FE} {G : List GE}
theorem FoW.class (h : FoW a b don st cs F G) (gin : ∀ g ∈ G, g.1 ∈ F.map (·.2)) {c : Nat} {p : Addr} (hp : p ∉ F.map (·.2)) : FoW (a + 1) b don st cs (F ++ [(c, p)]) G := by
  have k : ∀ g ∈ G, ∀ c', (c', g.1) ∈ F ++ [(c, p)] ↔ (c', g.1) ∈ F := fun g hg c' => by
    rw [List.mem_append, List.mem_singleton]
    refine ⟨fun z => z.elim id fun z => ?_, .inl⟩
    injection z with z1 z2
    exact absurd (z2 ▸ gin g hg) hp
  refine ⟨fun g hg r => by rw [k g hg, h.mem g hg r], fun r hr => ?_, by rw [List.length_append, List.length_singleton]; have := h.fl; omega, h.gl, h.rl, h.nd⟩
  obtain ⟨g, hg, q1, q2⟩ := h.cov r hr
  exact ⟨g, hg, (k g hg _).mpr q1, q2⟩
theorem FoW.row (h : FoW a b don st cs F G) (kn : (F.map (·.1)).Nodup) {c : Nat} {d : Addr} {row : List Nat} {q : Addr} (hd : (c, d) ∈ F) (dn : (F.map (·.2)).Nodup) (hr : ∀ g ∈ G, g.1 = d → g.2.1 ≠ row) : FoW a (b + 1) don st cs F (G ++ [(d, row, q, [])]) := by
  refine ⟨fun g hg r => ?_, fun r hr => ?_, h.fl, by rw [List.length_append, List.length_singleton]; have := h.gl; omega, fun g hg => ?_, fun g hg => ?_⟩
  · rcases List.mem_append.mp hg with hg | hg
    · exact h.mem g hg r
    · rw [List.mem_singleton.mp hg]
      constructor
      · intro z; cases z
      · rintro ⟨z1, z2, z3⟩
        obtain ⟨g', hg', y1, y2⟩ := h.cov r z1
        have := fst_inj kn y1 z2 rfl
        injection this with _ e
        exact absurd (y2.symm.trans z3) (hr g' hg' e)
  · obtain ⟨g, hg, q1, q2⟩ := h.cov r hr
    exact ⟨g, List.mem_append_left _ hg, q1, q2⟩
  · rcases List.mem_append.mp hg with hg | hg
    · exact h.rl g hg
    · rw [List.mem_singleton.mp hg]; exact Nat.zero_le _
  · rcases List.mem_append.mp hg with hg | hg
    · exact h.nd g hg
    · rw [List.mem_singleton.mp hg]; exact List.nodup_nil
theorem FoW.more (h : FoW a b don st cs F G) (kn : (F.map (·.1)).Nodup) (ln : (G.map (·.2.2.1)).Nodup) (pn : (G.map fun g => (g.1, g.2.1)).Nodup) {g : GE} {r : Nat} (hg : g ∈ G) (hf : (gC cs r, g.1) ∈ F) (hr : rowC st cs r = g.2.1) (nr : r ∉ don) :
    FoW a b (don ++ [r]) st cs F (upG G g.2.2.1 r) := by
  refine ⟨fun x hx r' => ?_, fun r' hr' => ?_, h.fl, by unfold upG; rw [List.length_map]; exact h.gl, fun x hx => ?_, fun x hx => ?_⟩
  · obtain ⟨y, hy, rfl⟩ := List.mem_map.mp hx
    rw [upE1, upE2, upE4, List.mem_append, List.mem_singleton]
    by_cases z : y.2.2.1 = g.2.2.1
    · obtain rfl := map_inj (f := fun g : GE => g.2.2.1) ln hy hg z
      rw [if_pos rfl, List.mem_append, List.mem_singleton, h.mem y hy r']
      constructor
      · rintro (⟨q1, q2, q3⟩ | rfl)
        · exact ⟨.inl q1, q2, q3⟩
        · exact ⟨.inr rfl, hf, hr⟩
      · rintro ⟨q1 | rfl, q2, q3⟩
        · exact .inl ⟨q1, q2, q3⟩
        · exact .inr rfl
    · rw [if_neg z, h.mem y hy r']
      refine ⟨fun ⟨q1, q2⟩ => ⟨.inl q1, q2⟩, fun ⟨q1, q2, q3⟩ => ⟨q1.elim id fun e => ?_, q2, q3⟩⟩
      subst e
      have e1 := fst_inj kn q2 hf rfl
      injection e1 with _ e1
      exact absurd (congrArg (fun g : GE => g.2.2.1) (map_inj pn hy hg (by rw [e1, ← q3, ← hr]))) z
  · rcases List.mem_append.mp hr' with hr' | hr'
    · obtain ⟨y, hy, q1, q2⟩ := h.cov r' hr'
      exact ⟨upE g.2.2.1 r y, List.mem_map.mpr ⟨y, hy, rfl⟩, by rw [upE1]; exact q1, by rw [upE2]; exact q2⟩
    · rw [List.mem_singleton.mp hr']
      exact ⟨upE g.2.2.1 r g, List.mem_map.mpr ⟨g, hg, rfl⟩, by rw [upE1]; exact hf, by rw [upE2]; exact hr⟩
  · obtain ⟨y, hy, rfl⟩ := List.mem_map.mp hx
    rw [upE4, List.length_append, List.length_singleton]
    have := h.rl y hy
    split
    · rw [List.length_append, List.length_singleton]; omega
    · omega
  · obtain ⟨y, hy, rfl⟩ := List.mem_map.mp hx
    rw [upE4]
    by_cases z : y.2.2.1 = g.2.2.1
    · rw [if_pos z]
      exact nodup_snoc (h.nd y hy) fun q => nr ((h.mem y hy r).mp q).1
    · rw [if_neg z]; exact h.nd y hy
end
end M

namespace M
open PySem PySem.Spec PyProof.Rows L2 DL
variable [Tabs]
section
variable {P : Program} {w : World} {K : PySem.W.Frag} {mg : Str → Option Value} {base : Heap}
theorem getD_at {α : Type} {l : List α} {i : Nat} {x : α} (h : i < l.length) : l[i]? = some (l.getD i x) := by
  rw [List.getD_eq_getElem?_getD, List.getElem?_eq_getElem h]; rfl
theorem two {Q : V → Hp → Prop} {o : Option V} {z : V} {H H' : Hp} (Gd : V → Hp → Prop) (h1 : ∀ v, o = some v → Gd v H) (h2 : o = none → Gd z H') (k : ∀ v H, Gd v H → Q v H) : (∀ v, o = some v → Q v H) ∧ (o = none → Q z H') := ⟨fun v e => k v H (h1 v e), fun e => k z H' (h2 e)⟩
def spSorted (K : PySem.W.Frag) : Sp := fun vs H Q _ => ∃ (aR aS aC : Addr) (rooms : List Nat) (rs : List Addr) (st : List (List Nat)) (cs : List Nat) (m : Nat), vs = [.ref aR, .ref aS, .ref aC] ∧
  SqL K H aR (rooms.map nV) ∧ StH K H aS rs st ∧ SqL K H aC (cs.map nV) ∧ StOk st.length m st ∧ cs.length = st.length ∧ st.length ≤ 4000 ∧ m ≤ 100 ∧ rooms.Nodup ∧ (∀ r ∈ rooms, r < st.length) ∧
  ∀ H' p F G, Same H H' → H p = none → (∀ e ∈ F, H e.2 = none) → (∀ g ∈ G, H g.2.2.1 = none) → FoH H' p F G → FoM rooms st cs F G → Q (.ref p) H'
/- sorted_out: 0 rooms, 1 steps, 2 classes, 3 found, 4 room, 5 row, 6 target -/
abbrev s_sorted_out : Stmt := top 3
abbrev N_sorted_out : List Str := ["rooms", "steps", "classes", "found", "room", "row", "target"]
theorem sc_sorted_out : FnScope N_sorted_out ["rooms", "steps", "classes"] (defScope s_sorted_out) := ⟨rfl, rfl, rfl, by decide +kernel, rfl, by decide +kernel, by decide +kernel⟩
-- NO TERM: Exception("call Call(func=Attribute(value=Call(func=Attribute(value=Name(id='found', ctx=Load()), attr='setdefault', ctx=Load()), args=[Subscript(value=Name(id='classes', ctx=Load()), slice=Name(id='room', ctx=Load()), ctx=Load()), Dict(keys=[], values=[])], keywords=[]), attr='setdefault', ctx=Load()), args=[Name(id='row', ctx=Load()), List(elts=[], ctx=Load())], keywords=[])"
theorem ok_sorted_out {f : Addr} {fd : FuncData} (F : Fun K "sorted_out" "sorted_out" s_sorted_out f fd) (m_tuple : mg "tuple" = none) : FnOk P w K mg base CX0 1 f fd ["rooms", "steps", "classes"] (spSorted K) := by
  refine F.ok sc_sorted_out (fun vs H Q E h => ?_) (fun cdv A outer s H vs Q E hr h => ?_)
  · obtain ⟨aR, aS, aC, rooms, rs, st, cs, m, rfl, _⟩ := h; rfl
  · obtain ⟨aR, aS, aC, rooms, rs, st, cs, m, rfl, hR, hS, hC, ok, hcl, hn, hm, rnd, rlt, q⟩ := h
    have hu := hu_of hr
    refine ⟨_, pss_cons (ps_set (i := 3) sc_sorted_out.nd rfl (.inl rfl) pe_dnewK)
      (pss_cons (ps_for PassesOwn.never rfl (pi_list (pv 0)) (pg_name (i := 4) sc_sorted_out.nd rfl (.inl rfl))
        (pss_cons (ps_set (i := 5) sc_sorted_out.nd rfl (.inl rfl) (pe_callTy call_tuple_of (by rfl) m_tuple (by decide +kernel) (pa_cons (pe_lc (own := [("target", 6)]) (g := gName 6) (tt := tYes) (by rfl) sc_sorted_out.nd (pi_list (pe_ix ix_list (pv 1) (pv 4) (fun _ _ => rfl))) (blkOk_by (own := [("target", 6)]) (N := N_sorted_out) (sc := defScope s_sorted_out) (by decide +kernel)) (fun _ _ _ _ _ => pg_name (i := 6) sc_sorted_out.nd rfl (.inl rfl)) (fun _ _ _ _ _ => pts_nil) (fun _ _ _ _ _ => pe_ix (r := rIxL K) ix_list (pv 2) (pv 6) (fun _ _ => rfl))) pa_nil)))
        (pss_one (ps_expr (pe_app (pe_bm PySem.F.plainAttrs_list PySem.F.slot_list_append PySem.F.type_list_append mt_append
          (pe_setT hu (pe_dsetd (pv 3) (pe_ix ix_list (pv 2) (pv 4) (fun _ _ => rfl)) pe_dnewT ⟨rfl, rfl, rfl, rfl⟩) (pv 5) (pe_lst pa_nil) ⟨rfl, rfl, rfl, rfl⟩) (pa_cons (pv 4) pa_nil)))))))
      (pss_one (ps_ret (pv 3)))), ?_⟩
    intro aF hF
    have hz := sizeBig
    refine ⟨.ref aR, rfl, aR, rfl, ⟨_, (same_upd hF).seq hR⟩, for_list (K := K) (a := aR) (xs := rooms.map nV) (fun i σ H' => ∃ x4 x5 x6 F G, σ = [some (.ref aR), some (.ref aS), some (.ref aC), some (.ref aF), x4, x5, x6] ∧ Same H H' ∧ (∀ e ∈ F, H e.2 = none) ∧ (∀ g ∈ G, H g.2.2.1 = none) ∧ FoH H' aF F G ∧ FoM (rooms.take i) st cs F G) ?_ (fun i σ H' _ ⟨_, _, _, _, _, _, s, _⟩ => s.seq hR) ?_ ?_⟩
    · refine ⟨none, none, none, [], [], rfl, same_upd hF, (fun _ z => by cases z), (fun _ z => by cases z), ⟨upd_same, (fun _ z => by cases z), (fun _ z => by cases z), List.nodup_nil, List.nodup_nil, List.nodup_nil, List.nodup_nil, (fun _ z => by cases z)⟩, ⟨⟨(fun _ z => by cases z), (fun r z => by simp at z), Nat.zero_le _, Nat.zero_le _, (fun _ z => by cases z), (fun _ z => by cases z)⟩, (fun _ z => by cases z), (fun _ z => by cases z)⟩⟩
    · rintro i x σ H1 hx ⟨x4, x5, x6, F, G, rfl, sm, nF, nG, hH, hM⟩
      have hi : i < rooms.length := by have := (List.getElem?_eq_some_iff.mp hx).1; rwa [List.length_map] at this
      rw [List.getElem?_map, List.getElem?_eq_getElem hi] at hx
      cases hx
      have tk : rooms.take (i + 1) = rooms.take i ++ [rooms[i]] := by rw [List.take_add_one, List.getElem?_eq_getElem hi]; rfl
      have nr : rooms[i] ∉ rooms.take i := fun z => by
        obtain ⟨j, hj, e⟩ := List.getElem_of_mem z
        rw [List.length_take] at hj
        rw [List.getElem_take] at e
        have := nd_ix rnd (i := j) (j := i) (x := rooms[i]) (by rw [List.getElem?_eq_getElem (by omega), e]) (List.getElem?_eq_getElem hi)
        omega
      have hrn := rlt _ (List.getElem_mem hi)
      have htl : (rooms.take i).length < 4001 := by
        have := few_le rooms (List.range st.length) rnd fun x hx => List.mem_range.mpr (rlt x hx)
        rw [List.length_range] at this
        rw [List.length_take]; omega
      generalize rooms[i] = r at *
      have hrr : r < rs.length := by rw [hS.len]; exact hrn
      refine ⟨.ref aS, rfl, nV r, rfl, aS, _, _, .ref rs[r], rfl, rfl, sm.seq hS.top, L2.atI_nat (by rw [List.getElem?_map, List.getElem?_eq_getElem hrr]; rfl), rs[r], rfl, ⟨_, sm.seq (hS.row r _ (List.getElem?_eq_getElem hrr))⟩, fun D hD => ?_⟩
      refine lc_list (K := K) (a := rs[r]) (xs := (st.getD r []).map nV) (fun j H' => Same H1 H' ∧ H' D = some (.lst (((rowC st cs r).take j).map nV))) ⟨same_upd hD, by rw [upd_same]; rfl⟩ (fun j H' _ ⟨s, _⟩ => s.seq (sm.seq (hS.row r _ (List.getElem?_eq_getElem hrr)))) ?_ ?_
      · rintro j x H' hx ⟨s, hDl⟩
        have hj : j < (st.getD r []).length := by have := (List.getElem?_eq_some_iff.mp hx).1; rwa [List.length_map] at this
        rw [List.getElem?_map, getD_at (x := 0) hj] at hx
        cases hx
        have jm : j < m := by rw [ok.rl r hrn] at hj; exact hj
        have hb := ok.rb r j hrn jm
        have hdl : ((rowC st cs r).take j).length < sizeLine := by
          have : (rowC st cs r).length = m := by unfold rowC; rw [List.length_map]; exact ok.rl r hrn
          rw [List.length_take]; omega
        have cl : (dl st r j) < cs.length := by rw [hcl]; exact hb
        refine ⟨rfl, .ref aC, rfl, nV (dl st r j), rfl, aC, _, _, nV (gC cs (dl st r j)), rfl, rfl, s.seq (sm.seq hC), L2.atI_nat (by rw [List.getElem?_map, getD_at (x := 0) cl]; rfl), _, hDl, by rw [List.length_map]; exact hdl, fun b o e => ?_, ?_⟩
        · rw [upd_ne (ne_of_none e hD)]; exact s b o e
        · rw [upd_same, List.take_add_one]
          have : (rowC st cs r)[j]? = some (gC cs (dl st r j)) := by
            unfold rowC
            rw [List.getElem?_map, getD_at (x := 0) hj]; rfl
          rw [this, List.map_append]; rfl
      · rintro H2 ⟨s2, hD2⟩
        have er : (rowC st cs r).take ((st.getD r []).map nV).length = rowC st cs r := by
          rw [List.length_map]; unfold rowC
          rw [List.take_of_length_le (by rw [List.length_map]; exact Nat.le_refl _)]
        rw [er] at hD2
        refine ⟨D, _, rfl, .inl ⟨SqL.of hD2, fun aT hT => ?_⟩⟩
        -- found.setdefault(classes[room], {}).setdefault(row, []).append(room)
        have s3 : Same H1 (upd H2 aT (.tup ((rowC st cs r).map nV))) := s2.trans (same_upd hT)
        have hH3 := hH.keep s3
        have sm3 := sm.trans s3
        have hT3 : (upd H2 aT (.tup ((rowC st cs r).map nV))) aT = some (.tup ((rowC st cs r).map nV)) := upd_same
        generalize (upd H2 aT (.tup ((rowC st cs r).map nV))) = H3 at *
        have kvr : ((rowC st cs r).map kI).map kV = (rowC st cs r).map nV := by rw [List.map_map]; rfl
        have hcl : r < cs.length := by omega
        refine ⟨.ref aF, rfl, aF, rfl, .inl ⟨_, .inl hH3.top⟩, .ref aC, rfl, nV r, rfl, aC, _, _, nV (gC cs r), rfl, rfl, sm3.seq hC, L2.atI_nat (by rw [List.getElem?_map, getD_at (x := 0) hcl]; rfl), fun pc hpc => ?_⟩
        have s4 : Same H3 (upd H3 pc (.dT [])) := same_upd hpc
        have hH4 := hH3.keep s4
        have hNew := fun hc : gC cs r ∉ F.map (·.1) => hH3.class (c := gC cs r) hc hpc
        generalize (upd H3 pc (.dT [])) = HA at *
        have fl := hM.w.fl
        have gl := hM.w.gl
        have rl := hM.w.rl
        refine ⟨fkv F, kI (gC cs r), hH4.top, rfl, by unfold fkv; rw [List.length_map]; omega, two (H := HA) (fun v H4 => ∃ d F', v = .ref d ∧ Same H H4 ∧ H4 aT = some (.tup ((rowC st cs r).map nV)) ∧ FoH H4 aF F' G ∧ (gC cs r, d) ∈ F' ∧ (∀ e ∈ F', H e.2 = none) ∧ FoW (rooms.take (i + 1)).length (rooms.take i).length (rooms.take i) st cs F' G ∧ ∀ e ∈ F', e.2 = d ∨ ∃ g ∈ G, g.1 = e.2) ?_ ?_ ?_⟩
        · intro v ev
          by_cases hc : gC cs r ∈ F.map (·.1)
          · obtain ⟨e, he, q1⟩ := List.mem_map.mp hc
            rw [← q1, fkv_some hH.kn he] at ev
            cases ev
            refine ⟨e.2, F, rfl, sm3.trans s4, s4 _ _ hT3, hH4, by rw [← q1]; exact he, nF, ⟨hM.w.mem, hM.w.cov, by rw [tk, List.length_append]; omega, gl, rl, hM.w.nd⟩, fun e he => .inr (hM.fg e he)⟩
          · rw [fkv_none hc] at ev; cases ev
        · intro ev
          have hc : gC cs r ∉ F.map (·.1) := fun hc => by
            obtain ⟨e, he, q1⟩ := List.mem_map.mp hc
            rw [← q1, fkv_some hH.kn he] at ev; cases ev
          have pF : pc ∉ F.map (·.2) := fun z => by
            obtain ⟨e, he, q1⟩ := List.mem_map.mp z
            exact ne_of_none (hH3.mid e he) hpc q1
          have e1 : putK (fkv F) (kI (gC cs r)) (.ref pc) = fkv (F ++ [(gC cs r, pc)]) := by
            rw [putK_new _ (fkv_none hc)]; unfold fkv; rw [List.map_append]; rfl
          rw [e1]
          have hn : H pc = none := sm3.free hpc
          refine ⟨pc, F ++ [(gC cs r, pc)], rfl, fun b o e => ?_, ?_, hNew hc, List.mem_append_right _ (List.mem_singleton.mpr rfl), fun e he => ?_, ?_, fun e he => ?_⟩
          · rw [upd_ne (ne_of_none e hF)]
            exact s4 _ _ (sm3 _ _ e)
          · rw [upd_ne (ne_of hT3 hH3.top fun z => nomatch z)]
            exact s4 _ _ hT3
          · rcases List.mem_append.mp he with he | he
            · exact nF e he
            · rw [List.mem_singleton.mp he]; exact hn
          · have w := hM.w.class hH.gin (c := gC cs r) pF
            rw [tk, List.length_append]; exact w
          · rcases List.mem_append.mp he with he | he
            · exact .inr (hM.fg e he)
            · rw [List.mem_singleton.mp he]; exact .inl rfl
        · rintro v H4 ⟨d, F', rfl, sm4, hT4, hH4, hd, nF', hW, hfg⟩
          refine ⟨d, rfl, .inr ⟨_, .inl (hH4.mid _ hd)⟩, .ref aT, rfl, Nat.zero_le _, fun pl hpl => ?_⟩
          have s5 : Same H4 (upd H4 pl (.lst [])) := same_upd hpl
          have hH5 := hH4.keep s5
          have hNew2 := fun hc : ∀ g ∈ G, g.1 = d → g.2.1 ≠ rowC st cs r => hH4.row (e := (gC cs r, d)) hd hc hpl
          generalize (upd H4 pl (.lst [])) = HB at *
          have nd : d ≠ aT := ne_of (hH4.mid _ hd) hT4 fun z => nomatch z
          refine ⟨gkv G d, (rowC st cs r).map kI, aT, hH5.mid _ hd, rfl, by rw [kvr]; exact s5 _ _ hT4, ?_, two (H := HB) (fun v H5 => ∃ g G', v = .ref g.2.2.1 ∧ Same H H5 ∧ FoH H5 aF F' G' ∧ g ∈ G' ∧ g.1 = d ∧ g.2.1 = rowC st cs r ∧ (∀ g ∈ G', H g.2.2.1 = none) ∧ FoW (rooms.take (i + 1)).length (rooms.take (i + 1)).length (rooms.take i) st cs F' G' ∧ (∀ e ∈ F', ∃ g ∈ G', g.1 = e.2) ∧ ∀ y ∈ G', y.2.2.1 ≠ g.2.2.1 → y.2.2.2 ≠ []) ?_ ?_ ?_⟩
          · have : (gkv G d).length ≤ G.length := by unfold gkv ofD; rw [List.length_map]; exact List.length_filter_le _ _
            omega
          · intro v ev
            by_cases hc : ∃ g ∈ G, g.1 = d ∧ g.2.1 = rowC st cs r
            · obtain ⟨g, hg, q1, q2⟩ := hc
              rw [← q2, gkv_some hH4.pn hg q1] at ev
              cases ev
              refine ⟨g, G, rfl, sm4.trans s5, hH5, hg, q1, q2, nG, ⟨hW.mem, hW.cov, hW.fl, by rw [tk, List.length_append]; omega, rl, hW.nd⟩, fun e he => ?_, fun y hy _ => hM.nn y hy⟩
              rcases hfg e he with z | z
              · exact ⟨g, hg, by rw [z]; exact q1⟩
              · exact z
            · rw [gkv_none fun g hg q1 q2 => hc ⟨g, hg, q1, q2⟩] at ev; cases ev
          · intro ev
            have hc : ∀ g ∈ G, g.1 = d → g.2.1 ≠ rowC st cs r := fun g hg q1 q2 => by
              rw [← q2, gkv_some hH4.pn hg q1] at ev; cases ev
            have e1 : putK (gkv G d) ((rowC st cs r).map kI) (.ref pl) = gkv (G ++ [(d, rowC st cs r, pl, [])]) d := by
              rw [putK_new _ (gkv_none hc), gkv_snoc]
            rw [e1]
            have hn : H pl = none := sm4.free hpl
            refine ⟨(d, rowC st cs r, pl, []), G ++ [(d, rowC st cs r, pl, [])], rfl, fun b o e => ?_, hNew2 hc, List.mem_append_right _ (List.mem_singleton.mpr rfl), rfl, rfl, fun g hg => ?_, ?_, fun e he => ?_, fun y hy ny => ?_⟩
            · rw [upd_ne (ne_of_none e (nF' _ hd))]
              exact s5 _ _ (sm4 _ _ e)
            · rcases List.mem_append.mp hg with hg | hg
              · exact nG g hg
              · rw [List.mem_singleton.mp hg]; exact hn
            · have w := hW.row (q := pl) hH4.kn hd hH4.dn hc
              have e2 : (rooms.take i).length + 1 = (rooms.take (i + 1)).length := by rw [tk, List.length_append]; rfl
              rw [e2] at w
              exact w
            · rcases hfg e he with z | ⟨g, hg, z⟩
              · exact ⟨_, List.mem_append_right _ (List.mem_singleton.mpr rfl), z.symm⟩
              · exact ⟨g, List.mem_append_left _ hg, z⟩
            · rcases List.mem_append.mp hy with hy | hy
              · exact hM.nn y hy
              · rw [List.mem_singleton.mp hy] at ny; exact absurd rfl ny
          · rintro v H5 ⟨g, G', rfl, sm5, hH5, hg, q1, q2, nG', hW', hfg', hnn⟩
            have lf := hH5.leaf g hg
            have := hW'.rl g hg
            refine ⟨Or.inl ⟨rfl, _, .inl (.inl lf)⟩, nV r, rfl, g.2.2.1, _, _, rfl, rfl, lf, by rw [List.length_map]; omega, ?_⟩
            have hf : (gC cs r, g.1) ∈ F' := by rw [q1]; exact hd
            have w := hW'.more hH5.kn hH5.ln hH5.pn hg hf q2.symm nr
            refine ⟨_, _, _, F', upG G' g.2.2.1 r, rfl, fun b o e => ?_, nF', fun x hx => ?_, hH5.more hg, ?_, fun e he => ?_, fun x hx => ?_⟩
            · rw [upd_ne (ne_of_none e (nG' g hg))]; exact sm5 _ _ e
            · obtain ⟨y, hy, rfl⟩ := List.mem_map.mp hx
              rw [upE3]; exact nG' y hy
            · rw [tk] at w ⊢; exact w
            · obtain ⟨y, hy, z⟩ := hfg' e he
              exact ⟨upE g.2.2.1 r y, List.mem_map.mpr ⟨y, hy, rfl⟩, by rw [upE1]; exact z⟩
            · obtain ⟨y, hy, rfl⟩ := List.mem_map.mp hx
              rw [upE4]
              by_cases z : y.2.2.1 = g.2.2.1
              · rw [if_pos z]; simp
              · rw [if_neg z]; exact hnn y hy z
    · rintro σ H' ⟨x4, x5, x6, F, G, rfl, sm, nF, nG, hH, hM⟩
      rw [List.length_map, List.take_length] at hM
      exact ⟨.ref aF, rfl, q H' aF F G sm hF nF nG hH hM⟩
end
end M

set_option maxHeartbeats 4000000
namespace M
open PySem PySem.Spec PyProof.Rows L2 DL
variable [Tabs]
/-! ### the numbers of the classes, their members -/
abbrev iN : Nat → Int := fun r => (r : Int)
def trueN (q : List Nat) : List (Key × V) := trueE (q.map iN)
theorem trueN_keys {q : List Nat} : (trueN q).map (fun kv => kV kv.1) = q.map nV := by unfold trueN trueE; rw [List.map_map, List.map_map]; rfl
theorem trueN_len {q : List Nat} : (trueN q).length = q.length := by unfold trueN trueE; rw [List.length_map, List.length_map]
theorem trueN_drop {q : List Nat} {r : Nat} : dropK (trueN q) (kI r) = trueN (q.filter fun x => decide (x ≠ r)) := by
  unfold dropK trueN trueE
  rw [List.map_map, List.map_map, List.filter_map]
  have e : ((fun kv : Key × V => decide (kv.1 ≠ kI r)) ∘ ((fun r => (Sum.inl r, V.bl true)) ∘ iN)) = fun x => decide (x ≠ r) := by
    funext x
    show decide (kI x ≠ kI r) = decide (x ≠ r)
    by_cases h : x = r
    · subst h; simp
    · rw [decide_eq_true (p := x ≠ r) h, decide_eq_true (p := kI x ≠ kI r) fun z => h (kI_inj z)]
  rw [e]
theorem trueN_some {q : List Nat} {r : Nat} (h : r ∈ q) : (valV (trueN q) (kI r)).isSome = true := by
  rw [← valV_any]
  unfold trueN trueE
  rw [List.any_eq_true]
  refine ⟨(kI r, .bl true), ?_, by simp⟩
  rw [List.map_map]
  exact List.mem_map.mpr ⟨r, h, rfl⟩
theorem natsI {q : List Nat} : q.map nV = (q.map iN).map V.int := by rw [List.map_map]; rfl
theorem nodupI {q : List Nat} (h : q.Nodup) : (q.map iN).Nodup := by
  rw [List.Nodup, List.pairwise_map] at *
  exact h.imp fun {a b} z e => z (by have : (a : Int) = (b : Int) := e; omega)
structure CMH (H : Hp) (aC aM : Addr) (ds : List Addr) (cs : List Nat) (ms : List (List Nat)) : Prop where
  c : H aC = some (.lst (cs.map nV))
  m : H aM = some (.lst (ds.map V.ref))
  d : ∀ (k : Nat) (a : Addr), ds[k]? = some a → H a = some (.dK (trueN (gM ms k)))
  nd : ds.Nodup
  len : ds.length = ms.length
  ne : aC ≠ aM
section
variable {H H' : Hp} {aC aM : Addr} {ds : List Addr} {cs : List Nat} {ms : List (List Nat)}
theorem CMH.keep (h : CMH H aC aM ds cs ms) (k : ∀ a o, H a = some o → (a = aC ∨ a = aM ∨ a ∈ ds) → H' a = some o) : CMH H' aC aM ds cs ms :=
  ⟨k _ _ h.c (.inl rfl), k _ _ h.m (.inr (.inl rfl)), fun i a e => k _ _ (h.d i a e) (.inr (.inr (List.mem_of_getElem? e))), h.nd, h.len, h.ne⟩
theorem CMH.same (h : CMH H aC aM ds cs ms) (k : Same H H') : CMH H' aC aM ds cs ms := h.keep fun a o e _ => k a o e
theorem CMH.dne (h : CMH H aC aM ds cs ms) {a : Addr} (ha : a ∈ ds) : a ≠ aC ∧ a ≠ aM ∧ ∃ kv, H a = some (.dK kv) := by
  obtain ⟨i, hi, e⟩ := List.getElem_of_mem ha
  have q := h.d i a (by rw [List.getElem?_eq_getElem hi, e])
  exact ⟨ne_of q h.c (fun z => nomatch z), ne_of q h.m (fun z => nomatch z), _, q⟩
theorem CMH.dic (h : CMH H aC aM ds cs ms) {k : Nat} {a : Addr} {q : List Nat} (e : ds[k]? = some a) : CMH (upd H a (.dK (trueN q))) aC aM ds cs (ms.set k q) := by
  obtain ⟨n1, n2, _⟩ := h.dne (List.mem_of_getElem? e)
  refine ⟨by rw [upd_ne n1.symm]; exact h.c, by rw [upd_ne n2.symm]; exact h.m, fun j b eb => ?_, h.nd, by rw [List.length_set]; exact h.len, h.ne⟩
  have hk : k < ms.length := by rw [← h.len]; exact (List.getElem?_eq_some_iff.mp e).1
  rw [gM_set hk]
  by_cases z : j = k
  · subst z
    rw [e] at eb; cases eb
    rw [upd_same, if_pos rfl]
  · rw [if_neg z, upd_ne]
    · exact h.d j b eb
    · intro y
      subst y
      exact z (nd_ix h.nd eb e)
theorem CMH.cls (h : CMH H aC aM ds cs ms) {cs' : List Nat} : CMH (upd H aC (.lst (cs'.map nV))) aC aM ds cs' ms :=
  ⟨upd_same, by rw [upd_ne h.ne.symm]; exact h.m, fun k a e => by rw [upd_ne (h.dne (List.mem_of_getElem? e)).1]; exact h.d k a e, h.nd, h.len, h.ne⟩
theorem CMH.app (h : CMH H aC aM ds cs ms) {D : Addr} {q : List Nat} (hD : H D = some (.dK (trueN q))) (n : D ∉ ds) : CMH (upd H aM (.lst (ds.map V.ref ++ [V.ref D]))) aC aM (ds ++ [D]) cs (ms ++ [q]) := by
  have nM : D ≠ aM := ne_of hD h.m fun z => nomatch z
  refine ⟨by rw [upd_ne h.ne]; exact h.c, by rw [upd_same, List.map_append]; rfl, fun k a e => ?_, nodup_snoc h.nd n, by rw [List.length_append, List.length_append, h.len]; rfl, h.ne⟩
  by_cases hk : k < ds.length
  · rw [List.getElem?_append_left hk] at e
    rw [upd_ne (h.dne (List.mem_of_getElem? e)).2.1, gM_snocL (by rw [← h.len]; exact hk)]
    exact h.d k a e
  · have := (List.getElem?_eq_some_iff.mp e).1
    rw [List.length_append, List.length_singleton] at this
    obtain rfl : k = ds.length := by omega
    rw [List.getElem?_concat_length] at e
    cases e
    rw [upd_ne nM, h.len, gM_snocR]; exact hD
theorem CMH.put (h : CMH H aC aM ds cs ms) {D : Addr} {q : List Nat} {k : Nat} (hD : H D = some (.dK (trueN q))) (n : D ∉ ds) (hk : k < ms.length) : CMH (upd H aM (.lst ((ds.map V.ref).set k (V.ref D)))) aC aM (ds.set k D) cs (ms.set k q) := by
  have nM : D ≠ aM := ne_of hD h.m fun z => nomatch z
  refine ⟨by rw [upd_ne h.ne]; exact h.c, by rw [upd_same, List.map_set], fun j a e => ?_, ?_, by rw [List.length_set, List.length_set, h.len], h.ne⟩
  · rw [gM_set hk]
    by_cases z : j = k
    · subst z
      rw [List.getElem?_set_self (by rw [h.len]; exact hk)] at e
      cases e
      rw [upd_ne nM, if_pos rfl]; exact hD
    · rw [List.getElem?_set_ne (Ne.symm z)] at e
      rw [upd_ne (h.dne (List.mem_of_getElem? e)).2.1, if_neg z]
      exact h.d j a e
  · rw [List.nodup_iff_pairwise_ne, List.pairwise_iff_getElem]
    intro i j hi hj hij e
    rw [List.length_set] at hi hj
    rw [List.getElem_set, List.getElem_set] at e
    by_cases z : k = i
    · rw [if_pos z, if_neg (by omega)] at e
      exact n (by rw [e]; exact List.getElem_mem hj)
    · rw [if_neg z] at e
      by_cases y : k = j
      · rw [if_pos y] at e
        exact n (by rw [← e]; exact List.getElem_mem hi)
      · rw [if_neg y] at e
        have := nd_ix h.nd (i := i) (j := j) (x := ds[i]) (List.getElem?_eq_getElem hi) (by rw [List.getElem?_eq_getElem hj, e])
        omega
end
theorem numb_snoc {q : List Nat} : ∀ {qs : List (List Nat)} {cs : List Nat} {ms : List (List Nat)}, numb (qs ++ [q]) cs ms = (setAll (numb qs cs ms).1 q (numb qs cs ms).2.length, if q = [] then (numb qs cs ms).2 else (numb qs cs ms).2 ++ [q])
  | [], _, _ => rfl
  | x :: qs, cs, ms => by
    show numb (qs ++ [q]) (setAll cs x ms.length) (if x = [] then ms else ms ++ [x]) = _
    rw [numb_snoc]; rfl
theorem numb_len : ∀ {qs : List (List Nat)} {cs : List Nat} {ms : List (List Nat)}, (numb qs cs ms).2.length ≤ ms.length + qs.length ∧ (numb qs cs ms).1.length = cs.length ∧ ms.length ≤ (numb qs cs ms).2.length
  | [], _, _ => ⟨Nat.le_refl _, rfl, Nat.le_refl _⟩
  | x :: qs, cs, ms => by
    obtain ⟨h1, h2, h3⟩ := numb_len (qs := qs) (cs := setAll cs x ms.length) (ms := if x = [] then ms else ms ++ [x])
    rw [setAll_len] at h2
    have : (if x = [] then ms else ms ++ [x]).length ≤ ms.length + 1 ∧ ms.length ≤ (if x = [] then ms else ms ++ [x]).length := by
      split
      · omega
      · rw [List.length_append, List.length_singleton]; omega
    rw [List.length_cons]
    exact ⟨Nat.le_trans h1 (by omega), h2, Nat.le_trans this.2 h3⟩
/-- what is left of a class when these are gone -/
def leftOf (ms : List (List Nat)) (num : Nat) (gone : List Nat) : List Nat := (gM ms num).filter fun r => decide (r ∉ gone)
theorem leftOf_snoc {ms : List (List Nat)} {num : Nat} {gone : List Nat} {r : Nat} : (leftOf ms num gone).filter (fun x => decide (x ≠ r)) = leftOf ms num (gone ++ [r]) := by
  unfold leftOf
  rw [List.filter_filter]
  refine List.filter_congr fun x _ => ?_
  rw [← Bool.decide_and, decide_eq_decide, List.mem_append, List.mem_singleton, not_or]
  exact ⟨fun ⟨a, b⟩ => ⟨b, a⟩, fun ⟨a, b⟩ => ⟨b, a⟩⟩
abbrev PE1 := Addr × List Nat
def toV (b : PE1) : Addr × List V := (b.1, b.2.map nV)
def unV (b : Addr × List V) : PE1 := (b.1, b.2.map fun v => match v with
  | .int i => i.toNat
  | _ => 0)
theorem unV_toV (b : PE1) : unV (toV b) = b := by
  unfold unV toV
  rw [List.map_map]
  have : ((fun v => match v with
    | .int i => i.toNat
    | _ => 0) ∘ nV) = (id : Nat → Nat) := by funext r; rfl
  rw [this, List.map_id]
theorem perm_back {PL : List PE1} {qs : List (Addr × List V)} (h : qs.Perm (PL.map toV)) : ∃ QL : List PE1, QL.Perm PL ∧ qs = QL.map toV := by
  refine ⟨qs.map unV, ?_, ?_⟩
  · have := h.map unV
    rw [List.map_map] at this
    have e : (unV ∘ toV) = id := by funext b; exact unV_toV b
    rw [e, List.map_id] at this
    exact this
  · rw [List.map_map]
    have : qs.map (toV ∘ unV) = qs.map id := List.map_congr_left fun b hb => by
      obtain ⟨x, _, rfl⟩ := List.mem_map.mp (h.mem_iff.mp hb)
      show toV (unV (toV x)) = toV x
      rw [unV_toV]
    rw [this, List.map_id]
end M

set_option maxHeartbeats 4000000
namespace M
open PySem PySem.Spec PyProof.Rows L2 DL
variable [Tabs]
section
variable {P : Program} {w : World} {K : PySem.W.Frag} {mg : Str → Option Value} {base : Heap}
def spSplit (K : PySem.W.Frag) : Sp := fun vs H Q _ => ∃ (n num : Nat) (aP aC aM : Addr) (ds : List Addr) (cs : List Nat) (ms : List (List Nat)) (PL : List PE1), vs = [nV num, .ref aP, .ref aC, .ref aM] ∧
  H aP = some (.lst (PL.map fun b => V.ref b.1)) ∧ (∀ b ∈ PL, H b.1 = some (.lst (b.2.map nV)) ∧ b.1 ≠ aC ∧ b.1 ≠ aM) ∧ aP ≠ aC ∧ aP ≠ aM ∧ CMH H aC aM ds cs ms ∧ Mo n cs ms ∧ num < ms.length ∧ PL ≠ [] ∧ (PL.map (·.2)).flatten.Nodup ∧
  (∀ r ∈ (PL.map (·.2)).flatten, r ∈ gM ms num) ∧ n ≤ 4000 ∧ ms.length ≤ 4001 ∧ PL.length ≤ 4001 ∧
  ∀ H' p ds' cs' ms' ren, (∀ a o, H a = some o → a ≠ aC → a ≠ aM → a ∉ ds → H' a = some o) → CMH H' aC aM ds' cs' ms' → Cut n num (PL.map (·.2)) cs ms cs' ms' ren → H p = none → H' p = some (.lst (ren.map nV)) → (∀ d ∈ ds', d ∈ ds ∨ H d = none) → Q (.ref p) H'
theorem flat_take {α : Type} {L : List (List α)} {i : Nat} (h : i < L.length) : (L.take (i + 1)).flatten = (L.take i).flatten ++ L[i] := by
  rw [List.take_add_one, List.getElem?_eq_getElem h, List.flatten_append]
  show _ ++ (L[i] ++ []) = _
  rw [List.append_nil]
theorem mem_flat_take {α : Type} {L : List (List α)} {i : Nat} {x : α} (h : x ∈ (L.take i).flatten) : ∃ j, ∃ hj : j < L.length, j < i ∧ x ∈ L[j] := by
  obtain ⟨l, hl, hx⟩ := List.mem_flatten.mp h
  obtain ⟨j, hj, e⟩ := List.getElem_of_mem hl
  rw [List.length_take] at hj
  rw [List.getElem_take] at e
  exact ⟨j, by omega, by omega, by rw [e]; exact hx⟩
theorem nd_flat {L : List (List Nat)} (nd : L.flatten.Nodup) {i k : Nat} (hi : i < L.length) (hk : k < L[i].length) : L[i][k] ∉ (L.take i).flatten ++ L[i].take k := by
  have e : L.flatten = (L.take i).flatten ++ (L[i] ++ (L.drop (i + 1)).flatten) := by
    conv => lhs; rw [← List.take_append_drop i L, List.flatten_append, List.drop_eq_getElem_cons hi, List.flatten_cons]
  rw [e, List.nodup_append] at nd
  obtain ⟨_, n2, n3⟩ := nd
  rw [List.nodup_append] at n2
  rw [List.mem_append, not_or]
  refine ⟨fun z => n3 _ z _ (List.mem_append_left _ (List.getElem_mem hk)) rfl, fun z => ?_⟩
  obtain ⟨j, hj, q⟩ := List.getElem_of_mem z
  rw [List.length_take] at hj
  rw [List.getElem_take] at q
  have := nd_ix n2.1 (i := j) (j := k) (x := L[i][k]) (by rw [List.getElem?_eq_getElem (by omega), q]) (List.getElem?_eq_getElem hk)
  omega
/- split: 0 number, 1 pieces, 2 classes, 3 members, 4 piece, 5 room, 6 rest, 7 renumbered -/
abbrev s_split : Stmt := top 4
abbrev N_split : List Str := ["number", "pieces", "classes", "members", "piece", "room", "rest", "renumbered"]
theorem sc_split : FnScope N_split ["number", "pieces", "classes", "members"] (defScope s_split) := ⟨rfl, rfl, rfl, by decide +kernel, rfl, by decide +kernel, by decide +kernel⟩
-- NO TERM: Exception("stmt Delete(targets=[Subscript(value=Subscript(value=Name(id='members', ctx=Load()), slice=Name(id='number', ctx=Load()), ctx=Load()), slice=Name(id='room', ctx=Load()), ctx=Del())])"
theorem ok_split {f : Addr} {fd : FuncData} (F : Fun K "split" "split" s_split f fd) (m_sorted : mg "sorted" = none) (m_len : mg "len" = none) (m_list : mg "list" = none) : FnOk P w K mg base CX0 1 f fd ["number", "pieces", "classes", "members"] (spSplit K) := by
  refine F.ok sc_split (fun vs H Q E h => ?_) (fun cdv A outer s H vs Q E hr h => ?_)
  · obtain ⟨n, num, aP, aC, aM, ds, cs, ms, PL, rfl, _⟩ := h; rfl
  · obtain ⟨n, num, aP, aC, aM, ds, cs, ms, PL, rfl, hP, hL, neC, neM, cm, mo, hnum, hPL, fnd, fsub, hn, hml, hpl, q⟩ := h
    have hz := sizeBig
    have neg1 : ∀ {X : Cx} {p q : Pos}, PE X (.UnaryOp .USub (.Constant (.int 1) 0 p) q) (tUn (rU fun i => .int (-i)) (tC (.int 1))) := fun {X p q} => pe_un un_neg pe_int
    refine ⟨_, pss_cons (ps_for PassesOwn.never rfl (pi_list (pv 1)) (pg_name (i := 4) sc_split.nd rfl (.inl rfl))
        (pss_one (ps_for PassesOwn.never rfl (pi_list (pv 4)) (pg_name (i := 5) sc_split.nd rfl (.inl rfl)) (pss_one (ps_ddel (pe_ix ix_list (pv 3) (pv 0) (fun _ _ => rfl)) (pv 5))))))
      (pss_cons (ps_set (i := 1) sc_split.nd rfl (.inl rfl) (pe_sortLen (Nat.lt_of_le_of_lt (Nat.add_le_add_left (show 8 ≤ 64 by decide) _) hr.units) m_sorted m_len (pv 1)))
      (pss_cons (ps_cutS (ps_if (pt_cmpR op_gt (pe_callB call_len_seq (by rfl) m_len (by decide +kernel) (pa_cons (pe_ix ix_list (pv 1) neg1 (fun _ _ => rfl)) pa_nil)) (pe_callB call_lenD (by rfl) m_len (by decide +kernel) (pa_cons (pe_ix ix_list (pv 3) (pv 0) (fun _ _ => rfl)) pa_nil)) (nomark _))
          (pss_cons (ps_set (i := 6) sc_split.nd rfl (.inl rfl) (pe_callTy (call_list_dK rfl) (by rfl) m_list (by decide +kernel) (pa_cons (pe_ix ix_list (pv 3) (pv 0) (fun _ _ => rfl)) pa_nil)))
          (pss_cons (ps_asg (pe_dc (own := [("room", 5)]) (g := gName 5) (tt := tYes) (tk := tVar 5) (tv := tC (.bl true)) rfl sc_split.nd (pi_list (pe_ix ix_list (pv 1) neg1 (fun _ _ => rfl))) (blkOk_by (own := [("room", 5)]) (N := N_split) (sc := defScope s_split) (by decide +kernel)) (fun _ _ _ _ _ => pg_name (i := 5) sc_split.nd rfl (.inl rfl)) (fun _ _ _ _ _ => pts_nil) (fun _ _ _ _ _ => pv 5) (fun _ _ _ _ _ => pe_bl)) (pg_sub (pv 3) (pv 0) set_list))
          (pss_one (ps_asg (pv 6) (pg_sub (pv 1) neg1 set_list)))))
          pss_nil))
      (pss_cons (ps_set (i := 7) sc_split.nd rfl (.inl rfl) (pe_lst pa_nil))
      (pss_cons (ps_for PassesOwn.never rfl (pi_list (pv 1)) (pg_name (i := 4) sc_split.nd rfl (.inl rfl))
        (pss_cons (ps_for PassesOwn.never rfl (pi_list (pv 4)) (pg_name (i := 5) sc_split.nd rfl (.inl rfl)) (pss_one (ps_asg (pe_callB call_len_seq (by rfl) m_len (by decide +kernel) (pa_cons (pv 3) pa_nil)) (pg_sub (pv 2) (pv 5) set_list))))
        (pss_cons (ps_cutS (ps_if (pt_truth (pv 4) (by intro _; rfl)) (pss_one (ps_expr (pe_bm PySem.F.plainAttrs_list PySem.F.slot_list_append PySem.F.type_list_append mt_append (pv 3) (pa_cons (pe_dc (own := [("room", 5)]) (g := gName 5) (tt := tYes) (tk := tVar 5) (tv := tC (.bl true)) rfl sc_split.nd (pi_list (pv 4)) (blkOk_by (own := [("room", 5)]) (N := N_split) (sc := defScope s_split) (by decide +kernel)) (fun _ _ _ _ _ => pg_name (i := 5) sc_split.nd rfl (.inl rfl)) (fun _ _ _ _ _ => pts_nil) (fun _ _ _ _ _ => pv 5) (fun _ _ _ _ _ => pe_bl)) pa_nil)))) pss_nil))
        (pss_one (ps_expr (pe_bm PySem.F.plainAttrs_list PySem.F.slot_list_extend PySem.F.type_list_extend mt_extend (pv 7) (pa_cons (pv 4) pa_nil)))))))
      (pss_one (ps_ret (pv 7))))))), ?_⟩
    have hnum' : num < ds.length := by rw [cm.len]; exact hnum
    obtain ⟨dn, edn⟩ : ∃ dn, ds[num]? = some dn := ⟨_, List.getElem?_eq_getElem hnum'⟩
    have mdn : dn ∈ ds := List.mem_of_getElem? edn
    have hdn := cm.d num dn edn
    have cA := fun gone => cm.dic (q := leftOf ms num gone) edn
    have hA0 : upd H dn (.dK (trueN (leftOf ms num []))) = H := by
      funext b
      by_cases e : b = dn
      · subst e
        rw [upd_same, hdn]
        unfold leftOf
        rw [List.filter_eq_self.mpr fun _ _ => by simp]
      · rw [upd_ne e]
    have lstA : ∀ {gone : List Nat} {a : Addr} {xs : List V}, H a = some (.lst xs) → upd H dn (.dK (trueN (leftOf ms num gone))) a = some (.lst xs) := fun {gone a xs} e => by
      rw [upd_ne (ne_of e hdn fun z => nomatch z)]; exact e
    have gl : ∀ q, gM (ms.set num q) num = q := fun q => by rw [gM_set hnum, if_pos rfl]
    refine ⟨.ref aP, rfl, aP, rfl, ⟨_, SqL.of hP⟩, for_list (K := K) (a := aP) (xs := PL.map fun b => V.ref b.1) (fun i σ H' => ∃ x4 x5, σ = [some (nV num), some (.ref aP), some (.ref aC), some (.ref aM), x4, x5, none, none] ∧ H' = upd H dn (.dK (trueN (leftOf ms num ((PL.map (·.2)).take i).flatten)))) ?_ (fun i σ H' _ ⟨_, _, _, e⟩ => by rw [e]; exact SqL.of (lstA hP)) ?_ ?_⟩
    · exact ⟨none, none, rfl, hA0.symm⟩
    · rintro i x σ H' hx ⟨x4, x5, rfl, rfl⟩
      have hi : i < PL.length := by have := (List.getElem?_eq_some_iff.mp hx).1; rwa [List.length_map] at this
      rw [List.getElem?_map, List.getElem?_eq_getElem hi] at hx
      cases hx
      have hb := hL _ (List.getElem_mem hi)
      have hi2 : i < (PL.map (·.2)).length := by rw [List.length_map]; exact hi
      have fni := fun k => nd_flat fnd hi2 (k := k)
      have ei : (PL.map (·.2))[i] = PL[i].2 := List.getElem_map _
      rw [ei] at fni
      have ft := flat_take hi2
      rw [ei] at ft
      refine ⟨.ref PL[i].1, rfl, PL[i].1, rfl, ⟨_, SqL.of (lstA hb.1)⟩, for_list (K := K) (a := PL[i].1) (xs := PL[i].2.map nV) (fun j σ H' => ∃ x5, σ = [some (nV num), some (.ref aP), some (.ref aC), some (.ref aM), some (.ref PL[i].1), x5, none, none] ∧ H' = upd H dn (.dK (trueN (leftOf ms num (((PL.map (·.2)).take i).flatten ++ PL[i].2.take j))))) ?_ (fun i σ H' _ ⟨_, _, e⟩ => by rw [e]; exact SqL.of (lstA hb.1)) ?_ ?_⟩
      · exact ⟨x5, rfl, by rw [List.take_zero, List.append_nil]⟩
      · rintro j x σ H' hx ⟨x5, rfl, rfl⟩
        have hj : j < PL[i].2.length := by have := (List.getElem?_eq_some_iff.mp hx).1; rwa [List.length_map] at this
        rw [List.getElem?_map, List.getElem?_eq_getElem hj] at hx
        cases hx
        have cmA := cA (((PL.map (·.2)).take i).flatten ++ PL[i].2.take j)
        have hd2 := cmA.d num dn edn
        rw [gl] at hd2
        have hin : PL[i].2[j] ∈ leftOf ms num (((PL.map (·.2)).take i).flatten ++ PL[i].2.take j) := by
          unfold leftOf
          rw [List.mem_filter]
          exact ⟨fsub _ (List.mem_flatten.mpr ⟨PL[i].2, List.mem_map.mpr ⟨PL[i], List.getElem_mem hi, rfl⟩, List.getElem_mem hj⟩), decide_eq_true (fni j hj)⟩
        refine ⟨.ref aM, rfl, nV num, rfl, aM, _, _, .ref dn, rfl, rfl, SqL.of cmA.m, L2.atI_nat (by rw [List.getElem?_map, edn]; rfl), nV PL[i].2[j], rfl, dn, _, kI PL[i].2[j], rfl, hd2, rfl, trueN_some hin, some (nV PL[i].2[j]), rfl, ?_⟩
        rw [upd_upd, trueN_drop, leftOf_snoc, List.take_add_one, List.getElem?_eq_getElem hj, List.append_assoc]; rfl
      · rintro σ H' ⟨x5, rfl, rfl⟩
        refine ⟨_, _, rfl, ?_⟩
        rw [ft, List.length_map, List.take_length]
    · rintro σ HA ⟨x4, x5, rfl, eA⟩
      rw [List.length_map, show PL.length = (PL.map (·.2)).length by rw [List.length_map], List.take_length] at eA
      have cmA := cA (PL.map (·.2)).flatten
      rw [← eA] at cmA
      have lA : ∀ {a : Addr} {xs : List V}, H a = some (.lst xs) → HA a = some (.lst xs) := fun {a xs} e => by rw [eA]; exact lstA e
      have frA : ∀ a o, H a = some o → a ∉ ds → HA a = some o := fun a o e hn => by rw [eA, upd_ne (fun z => hn (by rw [z]; exact mdn))]; exact e
      have nwA : ∀ {a}, HA a = none → H a = none := fun {a} e => by
        rw [eA] at e
        cases q : H a with
        | none => rfl
        | some o =>
          by_cases z : a = dn
          · subst z; rw [upd_same] at e; cases e
          · rw [upd_ne z, q] at e; cases e
      have rle : (leftOf ms num (PL.map (·.2)).flatten).length ≤ n := by
        have h1 : (leftOf ms num (PL.map (·.2)).flatten).length ≤ (gM ms num).length := List.length_filter_le _ _
        have h2 := few_le _ (List.range n) (mo.nd num hnum) fun x hx => List.mem_range.mpr ((mo.mem num hnum x).mp hx).1
        rw [List.length_range] at h2
        omega
      have rnd : (leftOf ms num (PL.map (·.2)).flatten).Nodup := (mo.nd num hnum).filter _
      have cmp := fun keep qs => cut_ok (keep := keep) (qs := qs) mo hnum fnd fsub
      have rdef : restOf ms num (PL.map (·.2)) = leftOf ms num (PL.map (·.2)).flatten := rfl
      rw [rdef] at cmp
      clear eA
      generalize leftOf ms num (PL.map (·.2)).flatten = rest at *
      refine ⟨.ref aP, rfl, aP, PL.map toV, rfl, ?_, fun b hb => ?_, fun qs p1 pm hp1 => ?_⟩
      · rw [List.map_map]; exact SqL.of (lA hP)
      · obtain ⟨y, hy, rfl⟩ := List.mem_map.mp hb
        exact SqL.of (lA (hL y hy).1)
      · obtain ⟨QL, pq, rfl⟩ := perm_back pm
        rw [List.map_map]
        have cmB := cmA.same (same_upd (o := .lst (QL.map ((fun b => V.ref b.1) ∘ toV))) hp1)
        have frB : ∀ a o, H a = some o → a ∉ ds → (upd HA p1 (.lst (QL.map ((fun b => V.ref b.1) ∘ toV)))) a = some o := fun a o e hn => same_upd hp1 _ _ (frA a o e hn)
        have pB : (upd HA p1 (.lst (QL.map ((fun b => V.ref b.1) ∘ toV)))) p1 = some (.lst (QL.map fun b => V.ref b.1)) := upd_same
        have lB : ∀ b ∈ QL, (upd HA p1 (.lst (QL.map ((fun b => V.ref b.1) ∘ toV)))) b.1 = some (.lst (b.2.map nV)) ∧ b.1 ≠ aC ∧ b.1 ≠ aM := fun b hb => by
          obtain ⟨h1, h2⟩ := hL b (pq.mem_iff.mp hb)
          exact ⟨same_upd hp1 _ _ (lA h1), h2⟩
        have nwB : ∀ {a}, (upd HA p1 (.lst (QL.map ((fun b => V.ref b.1) ∘ toV)))) a = none → H a = none := fun {a} e => nwA ((same_upd hp1).free e)
        generalize (upd HA p1 (.lst (QL.map ((fun b => V.ref b.1) ∘ toV)))) = HB at *
        have nQ : QL ≠ [] := fun z => hPL (by rw [z] at pq; exact pq.symm.eq_nil)
        obtain ⟨I, last, rfl⟩ : ∃ I last, QL = I ++ [last] := ⟨QL.dropLast, QL.getLast nQ, (List.dropLast_concat_getLast nQ).symm⟩
        have pq2 := pq.map (·.2)
        rw [List.map_append] at pq2
        obtain ⟨hl1, hl2⟩ := lB last (by simp)
        have hdB := cmB.d num dn edn
        rw [gl] at hdB
        have nd2 : last.2.Nodup := by
          have := (pq2.flatten.nodup_iff).mpr fnd
          rw [List.flatten_append, List.nodup_append] at this
          have := this.2.1
          simpa using this
        have ll : last.2.length ≤ n := by
          have h2 := few_le _ (List.range n) nd2 fun x hx => by
            have : x ∈ (PL.map (·.2)).flatten := (pq2.flatten.mem_iff).mp (by rw [List.flatten_append, List.mem_append]; exact .inr (by simpa using hx))
            exact List.mem_range.mpr ((mo.mem num hnum x).mp (fsub x this)).1
          rwa [List.length_range] at h2
        have ml : last.2 ∈ PL.map (·.2) := pq2.mem_iff.mp (by simp)
        -- what holds behind the test
        refine ⟨fun σ' H' => ∃ (QQ : List PE1) (keep : List Nat) (ds1 : List Addr) (x6 : Option V), σ' = [some (nV num), some (.ref p1), some (.ref aC), some (.ref aM), x4, x5, x6, none] ∧ H' p1 = some (.lst (QQ.map fun b => V.ref b.1)) ∧ (∀ b ∈ QQ, H' b.1 = some (.lst (b.2.map nV)) ∧ b.1 ≠ aC ∧ b.1 ≠ aM) ∧
          CMH H' aC aM ds1 cs (ms.set num keep) ∧ (keep :: QQ.map (·.2)).Perm (rest :: PL.map (·.2)) ∧ QQ.length = PL.length ∧ (∀ a o, H a = some o → a ≠ aC → a ≠ aM → a ∉ ds → H' a = some o) ∧ (∀ d ∈ ds1, d ∈ ds ∨ H d = none) ∧ (∀ {a}, H' a = none → H a = none) ∧ ((∀ p ∈ PL.map (·.2), p ≠ []) → keep ≠ []), ?_, ?_⟩
        · have pB' : HB p1 = some (.lst ((I.map fun b => V.ref b.1) ++ [V.ref last.1])) := by rw [pB, List.map_append]; rfl
          have mB : HB aM = some (.lst (ds.map V.ref)) := cmB.m
          have atn : L2.atI (ds.map V.ref) (num : Int) = some (.ref dn) := L2.atI_nat (by rw [List.getElem?_map, edn]; rfl)
          refine ⟨.ref p1, rfl, 1, rfl, p1, _, -1, .ref last.1, rfl, rfl, SqL.of pB', L2.atI_last _ _, last.1, _, rfl, .inl (SqL.of hl1), .ref aM, rfl, nV num, rfl, aM, _, _, .ref dn, rfl, rfl, SqL.of mB, atn, dn, _, rfl, hdB, _, _, rfl, rfl, _, rfl, ?_⟩
          rw [trueN_len, List.length_map]
          refine ite2 (fun hc => ?_) fun hc => ?_
          · have hc : (rest.length : Int) < last.2.length := of_decide_eq_true hc
            refine ⟨.ref aM, rfl, nV num, rfl, aM, _, _, .ref dn, rfl, rfl, SqL.of mB, atn, dn, _, rfl, hdB, fun aR hR => ?_⟩
            rw [trueN_keys]
            have sC : Same HB (upd HB aR (.lst (rest.map nV))) := same_upd hR
            have eR : (upd HB aR (.lst (rest.map nV))) aR = some (.lst (rest.map nV)) := upd_same
            generalize (upd HB aR (.lst (rest.map nV))) = HC at *
            refine ⟨.ref p1, rfl, 1, rfl, p1, _, -1, .ref last.1, rfl, rfl, SqL.of (sC _ _ pB'), L2.atI_last _ _, last.1, rfl, ⟨_, SqL.of (sC _ _ hl1)⟩, fun D hD => ?_⟩
            refine dc_trueW (q := last.2.map iN) (walk_list (K := K) (a := last.1) (xs := last.2.map nV)) (by rw [List.length_map, List.length_map]) (fun j H x H' hj ⟨h1, h2⟩ => ⟨h1, ?_⟩) (fun o => SqL.of (by rw [upd_ne (ne_of_none (sC _ _ hl1) hD)]; exact sC _ _ hl1)) (nodupI nd2) (by rw [List.length_map]; omega) (by simp) (by simp) ?_
            · rw [List.getElem?_map] at h2 ⊢
              cases e : last.2[j]? with
              | none => rw [e] at h2; cases h2
              | some r => rw [e] at h2; cases h2; exact ⟨_, rfl, rfl⟩
            have sD : Same HC (upd HC D (.dK (trueE (last.2.map iN)))) := same_upd hD
            have eD : (upd HC D (.dK (trueE (last.2.map iN)))) D = some (.dK (trueN last.2)) := upd_same
            generalize (upd HC D (.dK (trueE (last.2.map iN)))) = HD at *
            have cmD := cmB.same (sC.trans sD)
            have hDn : HB D = none := sC.free hD
            have nDd : D ∉ ds := fun z => by
              obtain ⟨_, _, kv, e⟩ := cmB.dne z
              rw [hDn] at e; cases e
            have cmE := cmD.put eD nDd (by rw [List.length_set]; exact hnum)
            rw [List.set_set] at cmE
            refine ⟨.ref aM, rfl, nV num, rfl, aM, _, _, num, rfl, rfl, cmD.m, ?_, ?_⟩
            · have : num < (ds.map V.ref).length := by rw [List.length_map]; exact hnum'
              unfold L2.ixN
              rw [if_pos (by omega), if_pos (by omega)]; simp
            have np : p1 ≠ aM := fun z => by
              have := cm.m
              rw [← z, nwA hp1] at this; cases this
            have npC : p1 ≠ aC := fun z => by
              have := cm.c
              rw [← z, nwA hp1] at this; cases this
            have nRM : aR ≠ aM := fun z => by
              rw [z, mB] at hR; cases hR
            have nRC : aR ≠ aC := fun z => by
              have := cmB.c
              rw [← z, hR] at this; cases this
            have nRp : aR ≠ p1 := fun z => by
              rw [z, pB] at hR; cases hR
            have fE : ∀ a o, HD a = some o → a ≠ aM → (upd HD aM (.lst ((ds.map V.ref).set num (.ref D)))) a = some o := fun a o e hn => by rw [upd_ne hn]; exact e
            have nE : ∀ {a}, (upd HD aM (.lst ((ds.map V.ref).set num (.ref D)))) a = none → HD a = none := fun {a} e => by
              by_cases z : a = aM
              · subst z; rw [upd_same] at e; cases e
              · rwa [upd_ne z] at e
            have pE := fE p1 _ (sD _ _ (sC _ _ pB')) np
            generalize (upd HD aM (.lst ((ds.map V.ref).set num (.ref D)))) = HE at *
            have lI : (I.map fun b => V.ref b.1).length = I.length := List.length_map _
            refine ⟨.ref aR, rfl, .ref p1, rfl, 1, rfl, p1, _, -1, I.length, rfl, rfl, pE, ?_, ?_⟩
            · unfold L2.ixN
              rw [if_neg (by omega), if_pos (by rw [List.length_append, List.length_singleton]; omega), List.length_append, List.length_singleton, lI]
              congr 1
              omega
            rw [List.set_append_right _ _ (by omega), lI, Nat.sub_self]
            refine ⟨I ++ [(aR, rest)], last.2, ds.set num D, _, rfl, by rw [upd_same, List.map_append]; rfl, fun b hb => ?_, cmE.keep fun a o e hm => ?_, ?_, ?_, fun a o e h1 h2 h3 => ?_, fun d hd => ?_, fun {a} e => ?_, fun _ z => by rw [z] at hc; simp at hc; omega⟩
            · rcases List.mem_append.mp hb with hb | hb
              · obtain ⟨h1, h2, h3⟩ := lB b (List.mem_append_left _ hb)
                refine ⟨?_, h2, h3⟩
                rw [upd_ne]
                · exact fE _ _ (sD _ _ (sC _ _ h1)) h3
                · intro z
                  have := (hL b (pq.mem_iff.mp (List.mem_append_left _ hb))).1
                  rw [z, nwA hp1] at this; cases this
              · rw [List.mem_singleton.mp hb]
                refine ⟨?_, nRC, nRM⟩
                rw [upd_ne nRp]
                exact fE _ _ (sD _ _ eR) nRM
            · rw [upd_ne]
              · exact e
              · intro z
                subst z
                rcases hm with z | z | z
                · exact npC z
                · exact np z
                · obtain ⟨_, _, kv, e2⟩ := cmE.dne z
                  rw [pE] at e2; cases e2
            · rw [List.map_append]
              show (last.2 :: (I.map (·.2) ++ [rest])).Perm _
              have h1 : (I.map (·.2) ++ [rest]).Perm (rest :: I.map (·.2)) := List.perm_append_comm
              have h2 : (last.2 :: I.map (·.2)).Perm (I.map (·.2) ++ [last.2]) := List.perm_append_comm (l₁ := [last.2])
              exact ((h1.cons last.2).trans (List.Perm.swap rest last.2 _)).trans ((h2.trans pq2).cons rest)
            · rw [← pq.length_eq, List.length_append, List.length_append]; rfl
            · rw [upd_ne (fun z => by rw [z, nwA hp1] at e; cases e)]
              exact fE _ _ (sD _ _ (sC _ _ (frB a o e h3))) h2
            · rcases List.mem_or_eq_of_mem_set hd with hd | rfl
              · exact .inl hd
              · exact .inr (nwB hDn)
            · by_cases z : a = p1
              · subst z; rw [upd_same] at e; cases e
              · rw [upd_ne z] at e
                exact nwB (sC.free (sD.free (nE e)))
          · have hc : ¬ (rest.length : Int) < last.2.length := fun z => hc (decide_eq_true z)
            refine ⟨I ++ [last], rest, ds, none, rfl, pB, lB, cmB, (pq.map (·.2)).cons rest, pq.length_eq, fun a o e _ _ h3 => frB a o e h3, fun d hd => .inl hd, nwB, fun z y => ?_⟩
            have := z _ ml
            have : 0 < last.2.length := List.length_pos_iff.mpr this
            rw [y] at hc
            simp at hc
            rw [hc] at this
            simp at this
        · rintro σ' H' ⟨QQ, keep, ds1, x6, rfl, eP, lL, cmM, pm', ql, fr, nd1, nw, kn⟩
          have C := cmp keep (QQ.map (·.2)) pm' kn
          have hp1n := nwA hp1
          have pC : p1 ≠ aC := fun z => by
            have := cm.c
            rw [← z, hp1n] at this; cases this
          have pM : p1 ≠ aM := fun z => by
            have := cm.m
            rw [← z, hp1n] at this; cases this
          have qn : (QQ.map (·.2)).flatten.length ≤ n := by
            have h2 := few_le _ (List.range n) C.nd fun x hx => List.mem_range.mpr ((C.rn x).mp hx).1
            rwa [List.length_range] at h2
          have qlt : ∀ r ∈ (QQ.map (·.2)).flatten, r < n := fun r hr => ((C.rn r).mp hr).1
          refine ⟨Nat.zero_le _, fun aN hN => ?_⟩
          have nNC : aN ≠ aC := (ne_of_none cmM.c hN).symm
          have nNM : aN ≠ aM := (ne_of_none cmM.m hN).symm
          refine ⟨.ref p1, rfl, p1, rfl, ⟨_, SqL.of (same_upd hN _ _ eP)⟩, for_list (K := K) (a := p1) (xs := QQ.map fun b => V.ref b.1) (fun i σ H2 => ∃ x4 x5 ds2, σ = [some (nV num), some (.ref p1), some (.ref aC), some (.ref aM), x4, x5, x6, some (.ref aN)] ∧
            CMH H2 aC aM ds2 (numb ((QQ.map (·.2)).take i) cs (ms.set num keep)).1 (numb ((QQ.map (·.2)).take i) cs (ms.set num keep)).2 ∧ H2 aN = some (.lst (((QQ.map (·.2)).take i).flatten.map nV)) ∧
            (∀ a o, H' a = some o → a ≠ aC → a ≠ aM → H2 a = some o) ∧ ∀ d ∈ ds2, d ∈ ds1 ∨ H' d = none) ?_ (fun i σ H2 _ ⟨_, _, _, _, _, _, f, _⟩ => SqL.of (f _ _ eP pC pM)) ?_ ?_⟩
          · exact ⟨x4, x5, ds1, rfl, cmM.same (same_upd hN), upd_same, fun a o e _ _ => same_upd hN _ _ e, fun d hd => .inl hd⟩
          · rintro i x σ H2 hx ⟨y4, y5, ds2, rfl, cm2, eN, f2, nd2'⟩
            have hi : i < QQ.length := by have := (List.getElem?_eq_some_iff.mp hx).1; rwa [List.length_map] at this
            rw [List.getElem?_map, List.getElem?_eq_getElem hi] at hx
            cases hx
            obtain ⟨lb1, lb2, lb3⟩ := lL _ (List.getElem_mem hi)
            have hi2 : i < (QQ.map (·.2)).length := by rw [List.length_map]; exact hi
            have ei : (QQ.map (·.2))[i] = QQ[i].2 := List.getElem_map _
            have ft := flat_take hi2
            rw [ei] at ft
            have tk : (QQ.map (·.2)).take (i + 1) = (QQ.map (·.2)).take i ++ [QQ[i].2] := by rw [List.take_add_one, List.getElem?_eq_getElem hi2, ei]; rfl
            have qin : ∀ r ∈ QQ[i].2, r ∈ (QQ.map (·.2)).flatten := fun r hr => List.mem_flatten.mpr ⟨_, List.mem_map.mpr ⟨QQ[i], List.getElem_mem hi, rfl⟩, hr⟩
            have qnd : QQ[i].2.Nodup := by
              have := C.nd
              rw [← List.take_append_drop (i + 1) (QQ.map (·.2)), List.flatten_append, ft, List.nodup_append] at this
              have := this.1
              rw [List.nodup_append] at this
              exact this.2.1
            have ql2 : QQ[i].2.length ≤ n := by
              have h2 := few_le _ (List.range n) qnd fun x hx => List.mem_range.mpr (qlt x (qin x hx))
              rwa [List.length_range] at h2
            have nl := numb_len (qs := (QQ.map (·.2)).take i) (cs := cs) (ms := ms.set num keep)
            rw [List.length_set, List.length_take, List.length_map, mo.len] at nl
            have nsn := numb_snoc (q := QQ[i].2) (qs := (QQ.map (·.2)).take i) (cs := cs) (ms := ms.set num keep)
            rw [← tk] at nsn
            have ftl : (((QQ.map (·.2)).take i).flatten ++ QQ[i].2).length ≤ n := by
              rw [← ft]
              have := congrArg List.length (congrArg List.flatten (List.take_append_drop (i + 1) (QQ.map (·.2))))
              rw [List.flatten_append, List.length_append] at this
              omega
            generalize (numb ((QQ.map (·.2)).take i) cs (ms.set num keep)) = N at *
            have l2 := f2 _ _ lb1 lb2 lb3
            refine ⟨.ref QQ[i].1, rfl, QQ[i].1, rfl, ⟨_, SqL.of l2⟩, for_list (K := K) (a := QQ[i].1) (xs := QQ[i].2.map nV) (fun j σ H3 => ∃ x5, σ = [some (nV num), some (.ref p1), some (.ref aC), some (.ref aM), some (.ref QQ[i].1), x5, x6, some (.ref aN)] ∧
              CMH H3 aC aM ds2 (setAll N.1 (QQ[i].2.take j) N.2.length) N.2 ∧ ∀ a o, H2 a = some o → a ≠ aC → H3 a = some o) ?_ (fun j σ H3 _ ⟨_, _, _, f⟩ => SqL.of (f _ _ l2 lb2)) ?_ ?_⟩
            · exact ⟨y5, rfl, cm2, fun a o e _ => e⟩
            · rintro j x σ H3 hx ⟨x5, rfl, cm3, f3⟩
              have hj : j < QQ[i].2.length := by have := (List.getElem?_eq_some_iff.mp hx).1; rwa [List.length_map] at this
              rw [List.getElem?_map, List.getElem?_eq_getElem hj] at hx
              cases hx
              have rn := qlt _ (qin _ (List.getElem_mem hj))
              refine ⟨.ref aM, rfl, aM, _, rfl, .inl (SqL.of cm3.m), .ref aC, rfl, nV QQ[i].2[j], rfl, aC, _, _, QQ[i].2[j], rfl, rfl, cm3.c, ?_, some (nV QQ[i].2[j]), rfl, ?_, fun a o e hn => ?_⟩
              · rw [List.length_map, setAll_len, nl.2.1]
                unfold L2.ixN
                rw [if_pos (by omega), if_pos (by omega)]; simp
              · have e1 : (setAll N.1 (QQ[i].2.take (j + 1)) N.2.length) = (setAll N.1 (QQ[i].2.take j) N.2.length).set QQ[i].2[j] N.2.length := by
                  rw [List.take_add_one, List.getElem?_eq_getElem hj]
                  unfold setAll
                  rw [List.foldl_append]; rfl
                rw [e1]
                have := cm3.cls (cs' := (setAll N.1 (QQ[i].2.take j) N.2.length).set QQ[i].2[j] N.2.length)
                rw [List.map_set] at this
                rw [List.length_map, cm3.len]
                exact this
              · rw [upd_ne hn]; exact f3 a o e hn
            · rintro σ H3 ⟨x5, rfl, cm3, f3⟩
              rw [List.length_map, List.take_length] at cm3
              have l3 := f3 _ _ l2 lb2
              refine ⟨fun σ4 H4 => ∃ ds3, σ4 = [some (nV num), some (.ref p1), some (.ref aC), some (.ref aM), some (.ref QQ[i].1), x5, x6, some (.ref aN)] ∧ CMH H4 aC aM ds3 (setAll N.1 QQ[i].2 N.2.length) (if QQ[i].2 = [] then N.2 else N.2 ++ [QQ[i].2]) ∧
                (∀ a o, H3 a = some o → a ≠ aM → H4 a = some o) ∧ ∀ d ∈ ds3, d ∈ ds2 ∨ H3 d = none, ?_, ?_⟩
              · refine ⟨.ref QQ[i].1, rfl, !(QQ[i].2.map nV).isEmpty, .inl ⟨_, SqL.of l3, rfl⟩, ?_⟩
                refine ite2 (fun hc => ?_) fun hc => ?_
                · have hne : QQ[i].2 ≠ [] := fun z => by rw [z] at hc; cases hc
                  refine ⟨.ref aM, rfl, Or.inl ⟨rfl, _, SqL.of cm3.m⟩, .ref QQ[i].1, rfl, QQ[i].1, rfl, ⟨_, SqL.of l3⟩, fun D hD => ?_⟩
                  have hy : ∀ (j : Nat) (H : Hp) (x : V) (H' : Hp), j < (QQ[i].2.map nV).length → YAt (QQ[i].2.map nV) j H x H' → H' = H ∧ ∃ r, (QQ[i].2.map iN)[j]? = some r ∧ x = .int r := fun j H x H' _ ⟨h1, h2⟩ => ⟨h1, by
                    rw [List.getElem?_map] at h2 ⊢
                    cases e : QQ[i].2[j]? with
                    | none => rw [e] at h2; cases h2
                    | some r => rw [e] at h2; cases h2; exact ⟨_, rfl, rfl⟩⟩
                  refine dc_trueW (q := QQ[i].2.map iN) (walk_list (K := K) (a := QQ[i].1) (xs := QQ[i].2.map nV)) (by rw [List.length_map, List.length_map]) hy (fun o => SqL.of (by rw [upd_ne (ne_of_none l3 hD)]; exact l3)) (nodupI qnd) (by rw [List.length_map]; omega) (by simp) (by simp) ?_
                  have sD : Same H3 (upd H3 D (.dK (trueE (QQ[i].2.map iN)))) := same_upd hD
                  have eD : (upd H3 D (.dK (trueE (QQ[i].2.map iN)))) D = some (.dK (trueN QQ[i].2)) := upd_same
                  generalize (upd H3 D (.dK (trueE (QQ[i].2.map iN)))) = HD at *
                  have cmD := cm3.same sD
                  have nDd : D ∉ ds2 := fun z => by
                    obtain ⟨_, _, kv, e⟩ := cm3.dne z
                    rw [hD] at e; cases e
                  refine ⟨aM, _, _, rfl, rfl, cmD.m, ?_, ds2 ++ [D], rfl, ?_, fun a o e hn => by rw [upd_ne hn]; exact sD a o e, fun d hd => ?_⟩
                  · rw [List.length_map, cm2.len]; omega
                  · rw [if_neg hne]
                    exact cmD.app eD nDd
                  · rcases List.mem_append.mp hd with hd | hd
                    · exact .inl hd
                    · rw [List.mem_singleton.mp hd]; exact .inr hD
                · have he : QQ[i].2 = [] := by
                    cases e : QQ[i].2 with
                    | nil => rfl
                    | cons a l => rw [e] at hc; exact absurd rfl hc
                  refine ⟨ds2, rfl, by rw [if_pos he]; exact cm3, fun a o e _ => e, fun d hd => .inl hd⟩
              · rintro σ4 H4 ⟨ds3, rfl, cm4, f4, nd4⟩
                have eN4 := f4 _ _ (f3 _ _ eN nNC) nNM
                have l4 := f4 _ _ l3 lb3
                refine ⟨.ref aN, rfl, Or.inl ⟨rfl, _, SqL.of eN4⟩, .ref QQ[i].1, rfl, aN, QQ[i].1, _, _, rfl, rfl, eN4, l4, ?_, some (.ref QQ[i].1), x5, ds3, rfl, ?_, ?_, fun a o e h1 h2 => ?_, fun d hd => ?_⟩
                · rw [← List.length_append, ← List.map_append, List.length_map]; omega
                · rw [nsn]
                  refine cm4.keep fun a o e hm => ?_
                  rw [upd_ne]
                  · exact e
                  · intro z
                    subst z
                    rcases hm with z | z | z
                    · exact nNC z
                    · exact nNM z
                    · obtain ⟨_, _, kv, e2⟩ := cm4.dne z
                      rw [eN4] at e2; cases e2
                · rw [upd_same, ft, List.map_append]
                · rw [upd_ne (fun z => by rw [z, hN] at e; cases e)]
                  exact f4 _ _ (f3 _ _ (f2 a o e h1 h2) h1) h2
                · rcases nd4 d hd with h | h
                  · exact nd2' d h
                  · refine .inr ?_
                    cases e : H' d with
                    | none => rfl
                    | some o =>
                      have nC : d ≠ aC := fun z => by rw [z, cm3.c] at h; cases h
                      have nM : d ≠ aM := fun z => by rw [z, cm3.m] at h; cases h
                      have := f3 _ _ (f2 d o e nC nM) nC
                      rw [h] at this; cases this
          · rintro σ H2 ⟨y4, y5, ds2, rfl, cm2, eN, f2, nd2'⟩
            rw [List.length_map, show QQ.length = (QQ.map (·.2)).length by rw [List.length_map], List.take_length] at cm2 eN
            refine ⟨.ref aN, rfl, q H2 aN ds2 _ _ _ (fun a o e h1 h2 h3 => f2 a o (fr a o e h1 h2 h3) h1 h2) cm2 C (nw hN) eN fun d hd => ?_⟩
            rcases nd2' d hd with h | h
            · exact nd1 d h
            · exact .inr (nw h)
end
end M

set_option maxHeartbeats 4000000
namespace M
open PySem PySem.Spec PyProof.Rows L2 DL
variable [Tabs]
def itm (G : List GE) (e : FE) : Itm := (e.1, (ofD G e.2).map (·.2.2.2))
theorem nd_flatMap {L : List GE} {f : GE → List Nat} (h1 : ∀ g ∈ L, (f g).Nodup) (h2 : L.Pairwise fun a b => ∀ x ∈ f a, x ∉ f b) : (L.map f).flatten.Nodup := by
  induction L with
  | nil => exact List.nodup_nil
  | cons g L ih =>
    rw [List.map_cons, List.flatten_cons, List.nodup_append]
    obtain ⟨p1, p2⟩ := List.pairwise_cons.mp h2
    refine ⟨h1 g List.mem_cons_self, ih (fun x hx => h1 x (List.mem_cons_of_mem _ hx)) p2, fun x hx y hy e => ?_⟩
    subst e
    obtain ⟨l, hl, hx2⟩ := List.mem_flatten.mp hy
    obtain ⟨b, hb, rfl⟩ := List.mem_map.mp hl
    exact p1 b hb x hx hx2
theorem srt_of {H : Hp} {aF : Addr} {F : List FE} {G : List GE} {n m : Nat} {rooms : List Nat} {st : List (List Nat)} {cs : List Nat} {T : Nat → Prop} (h : FoH H aF F G) (w : FoM rooms st cs F G) (hr : ∀ r, r ∈ rooms ↔ r < n ∧ T r) : Srt n cs T (rowC st cs) (F.map (itm G)) := by
  refine ⟨fun e he => ?_, ?_, fun r h1 h2 => ?_⟩
  · obtain ⟨e, hx, rfl⟩ := List.mem_map.mp he
    replace he := hx
    have mm : ∀ p ∈ (itm G e).2, ∃ g ∈ G, g.1 = e.2 ∧ p = g.2.2.2 := fun p hp => by
      obtain ⟨g, hg, rfl⟩ := List.mem_map.mp hp
      obtain ⟨h1, h2⟩ := mem_ofD.mp hg
      exact ⟨g, h1, h2, rfl⟩
    have kf : ∀ {c}, (c, e.2) ∈ F → c = e.1 := fun {c} hc => by
      have := map_inj h.dn hc he rfl
      rw [← this]
    refine ⟨fun z => ?_, fun p hp => ?_, nd_flatMap (fun g hg => w.w.nd g (mem_ofD.mp hg).1) ?_, fun r hr' => ?_, fun r r' hr1 hr2 hc1 hc2 => ?_⟩
    · obtain ⟨g, hg, q⟩ := w.fg e he
      have : g.2.2.2 ∈ (itm G e).2 := List.mem_map.mpr ⟨g, mem_ofD.mpr ⟨hg, q⟩, rfl⟩
      rw [z] at this; cases this
    · obtain ⟨g, hg, _, rfl⟩ := mm p hp
      exact w.nn g hg
    · have pn := h.pn
      rw [List.Nodup, List.pairwise_map] at pn
      refine List.Pairwise.imp_of_mem ?_ (pn.filter _)
      intro a b ha hb hab x hx hx2
      obtain ⟨a1, a2⟩ := mem_ofD.mp ha
      obtain ⟨b1, b2⟩ := mem_ofD.mp hb
      have x1 := ((w.w.mem a a1 x).mp hx).2.2
      have x2 := ((w.w.mem b b1 x).mp hx2).2.2
      exact hab (by rw [a2, b2, ← x1, x2])
    · obtain ⟨p, hp, hx⟩ := List.mem_flatten.mp hr'
      obtain ⟨g, hg, q, rfl⟩ := mm p hp
      obtain ⟨z1, z2, z3⟩ := (w.w.mem g hg r).mp hx
      rw [q] at z2
      exact ⟨((hr r).mp z1).1, kf z2⟩
    · have hf : ∀ {x : Nat} {g : GE}, gC cs x = e.1 → g.1 = e.2 → (gC cs x, g.1) ∈ F := fun {x g} h1 h2 => by rw [h1, h2]; exact he
      constructor
      · intro hp
        have go : ∀ {x y}, x < n → y < n → gC cs x = e.1 → gC cs y = e.1 → (∀ p ∈ (itm G e).2, (x ∈ p ↔ y ∈ p)) → T x → T y ∧ rowC st cs x = rowC st cs y := fun {x y} hx hy cx cy hp tx => by
          obtain ⟨g, hg, q1, q2⟩ := w.w.cov x ((hr x).mpr ⟨hx, tx⟩)
          rw [cx] at q1
          have e1 := fst_inj h.kn q1 he rfl
          have e2 : g.1 = e.2 := by rw [← e1]
          have hxg := (w.w.mem g hg x).mpr ⟨(hr x).mpr ⟨hx, tx⟩, hf cx e2, q2⟩
          have hyg := (hp g.2.2.2 (List.mem_map.mpr ⟨g, mem_ofD.mpr ⟨hg, e2⟩, rfl⟩)).mp hxg
          obtain ⟨y1, y2, y3⟩ := (w.w.mem g hg y).mp hyg
          exact ⟨((hr y).mp y1).2, by rw [q2, y3]⟩
        exact ⟨⟨fun t => (go hr1 hr2 hc1 hc2 hp t).1, fun t => (go hr2 hr1 hc2 hc1 (fun p hp' => (hp p hp').symm) t).1⟩, fun t => (go hr1 hr2 hc1 hc2 hp t).2⟩
      · rintro ⟨t1, t2⟩ p hp
        obtain ⟨g, hg, q, rfl⟩ := mm p hp
        rw [w.w.mem g hg r, w.w.mem g hg r', hr, hr]
        constructor
        · rintro ⟨⟨_, z1⟩, _, z3⟩
          exact ⟨⟨hr2, t1.mp z1⟩, hf hc2 q, by rw [← t2 z1]; exact z3⟩
        · rintro ⟨⟨_, z1⟩, _, z3⟩
          exact ⟨⟨hr1, t1.mpr z1⟩, hf hc1 q, by rw [t2 (t1.mpr z1)]; exact z3⟩
  · rw [List.map_map]
    exact h.kn
  · obtain ⟨g, hg, q1, q2⟩ := w.w.cov r ((hr r).mpr ⟨h1, h2⟩)
    exact List.mem_map.mpr ⟨itm G (gC cs r, g.1), List.mem_map.mpr ⟨_, q1, rfl⟩, rfl⟩
theorem len_le_flat : ∀ {L : List (List Nat)}, (∀ p ∈ L, p ≠ []) → L.length ≤ L.flatten.length
  | [], _ => Nat.le_refl _
  | p :: L, h => by
    rw [List.length_cons, List.flatten_cons, List.length_append]
    have := len_le_flat (L := L) fun q hq => h q (List.mem_cons_of_mem _ hq)
    have := List.length_pos_iff.mpr (h p List.mem_cons_self)
    omega
/-! ### data read by address -/
theorem rows_of {K : PySem.W.Frag} {G : Addr → Prop} {H : Hp} : ∀ {st : List (List Nat)} {ws : List V}, Rs K G H (st.map rowD) ws → ∃ rs : List Addr, ws = rs.map V.ref ∧ rs.length = st.length ∧ ∀ (i : Nat) (r : Addr), rs[i]? = some r → H r = some (.lst ((st.getD i []).map nV)) ∧ G r
  | [], ws, h => by unfold List.map Rs at h; subst h; exact ⟨[], rfl, rfl, fun i r e => by cases e⟩
  | x :: st, ws, h => by
    rw [List.map_cons] at h
    unfold Rs at h
    obtain ⟨v, r, rfl, h1, h2⟩ := h
    unfold rowD at h1
    unfold R at h1
    obtain ⟨a, vs, rfl, ha, ga, hv⟩ := h1
    have e : x.map natD = (x.map fun i : Nat => (i : Int)).map D.int := by rw [List.map_map]; rfl
    rw [e] at hv
    have ev := Rs.ints hv
    rw [List.map_map] at ev
    subst ev
    obtain ⟨rs, rfl, hl, hr⟩ := rows_of h2
    refine ⟨a :: rs, rfl, by rw [List.length_cons, List.length_cons, hl], fun i r e => ?_⟩
    cases i with
    | zero => cases e; exact ⟨ha, ga⟩
    | succ i => exact hr i r e
theorem ints_rs {K : PySem.W.Frag} {G : Addr → Prop} {H : Hp} (q : List Nat) : Rs K G H (q.map natD) (q.map nV) := by
  have := Rs.ofInts (K := K) (G := G) (H := H) (q.map fun i : Nat => (i : Int))
  rw [List.map_map, List.map_map] at this
  exact this
theorem rows_to {K : PySem.W.Frag} {G : Addr → Prop} {H : Hp} : ∀ {st : List (List Nat)} {rs : List Addr}, rs.length = st.length → (∀ (i : Nat) (r : Addr), rs[i]? = some r → H r = some (.lst ((st.getD i []).map nV)) ∧ G r) → Rs K G H (st.map rowD) (rs.map V.ref)
  | [], [], _, _ => Rs.nil
  | [], _ :: _, h, _ => by cases h
  | _ :: _, [], h, _ => by cases h
  | x :: st, r :: rs, h, hr => by
    refine Rs.cons ?_ (rows_to (Nat.succ.inj h) fun i a e => hr (i + 1) a e)
    obtain ⟨h1, h2⟩ := hr 0 r rfl
    show R K G H (rowD x) (.ref r)
    unfold rowD R
    exact ⟨r, _, rfl, h1, h2, ints_rs x⟩
theorem rs_ints {K : PySem.W.Frag} {G : Addr → Prop} {H : Hp} {q : List Nat} {vs : List V} (h : Rs K G H (q.map natD) vs) : vs = q.map nV := by
  have e : q.map natD = (q.map fun i : Nat => (i : Int)).map D.int := by rw [List.map_map]; rfl
  rw [e] at h
  have := Rs.ints h
  rw [List.map_map] at this
  exact this
/-! ### frames -/
theorem all_trans {H H1 H2 : Hp} (a : All H H1) (b : All H1 H2) : All H H2 := ⟨fun x o e => @fun nt => b x o (a x o e), fun x h => b.dm x (a.dm x h), fun t => b.tb (a.tb t)⟩
theorem CMH.all {H H' : Hp} {aC aM : Addr} {ds : List Addr} {cs : List Nat} {ms : List (List Nat)} (h : CMH H aC aM ds cs ms) (k : All H H') : CMH H' aC aM ds cs ms := ⟨k _ _ h.c, k _ _ h.m, fun i a e => k _ _ (h.d i a e), h.nd, h.len, h.ne⟩
theorem LdH.all {H H' : Hp} {p : Addr} {ls : List Addr} {ld : List (List Nat)} (h : LdH H p ls ld) (k : All H H') : LdH H' p ls ld := ⟨k _ _ h.top, fun r l e => k _ _ (h.at_ r l e), h.nd, h.len, h.pn⟩
theorem tb_im {H H' : Hp} (k : ∀ a o, H a = some o → Im o → H' a = some o) (t : NdefX.TabsN Tabs.T H) : NdefX.TabsN Tabs.T H' := fun q hq => by
  obtain ⟨ps, h1, h2, h3⟩ := t q hq
  refine ⟨ps, k _ _ h1 True.intro, h2, fun pos cv hc => ?_⟩
  obtain ⟨c, e1, e2⟩ := h3 pos cv hc
  exact ⟨c, e1, k _ _ e2 True.intro⟩
/-- what was there at H stays, the lists and dicts of the classes being newer -/
theorem all_fr {H H5 H6 : Hp} {aC aM : Addr} {ds ds' : List Addr} {cs cs' : List Nat} {ms ms' : List (List Nat)} (a : All H H5) (c : CMH H5 aC aM ds cs ms) (c6 : CMH H6 aC aM ds' cs' ms') (fr : ∀ a o, H5 a = some o → a ≠ aC → a ≠ aM → a ∉ ds → H6 a = some o) (hC : H aC = none) (hM : H aM = none) (hd : ∀ d ∈ ds, H d = none) : All H H6 := by
  refine ⟨fun x o e => @fun nt => fr x o (a x o e) (ne_of_none e hC) (ne_of_none e hM) (fun z => by rw [hd x z] at e; cases e), fun x h => ?_, fun t => tb_im (fun x o e i => fr x o e (fun z => ?_) (fun z => ?_) fun z => ?_) (a.tb t)⟩
  · cases e : H5 x with
    | none => exact absurd e (a.dm x h)
    | some o =>
      by_cases z1 : x = aC
      · rw [z1, c6.c]; exact Option.some_ne_none _
      · by_cases z2 : x = aM
        · rw [z2, c6.m]; exact Option.some_ne_none _
        · rw [fr x o e z1 z2 fun z => h (hd x z)]; exact Option.some_ne_none _
  · rw [z, c.c] at e; cases e; exact i
  · rw [z, c.m] at e; cases e; exact i
  · obtain ⟨_, _, kv, q⟩ := c.dne z
    rw [q] at e; cases e; exact i
end M

set_option maxHeartbeats 4000000
namespace M
open PySem PySem.Spec PyProof.Rows L2 DL
variable [Tabs]
section
variable {P : Program} {w : World} {K : PySem.W.Frag} {mg : Str → Option Value} {base : Heap}
def spClasses : SpD := fun ds P => ∃ (st : List (List Nat)) (gd : List Bool) (m : Nat), ds = [.lst (st.map rowD), .lst (gd.map D.bl)] ∧ StOk st.length m st ∧ gd.length = st.length ∧ st.length ≤ 4000 ∧ m ≤ 100 ∧
  ∀ cs : List Nat, cs.length = st.length → (∀ r, r < st.length → gC cs r ≤ st.length) → (∀ r r', r < st.length → r' < st.length → (gC cs r = gC cs r' ↔ Eqv m st gd r r')) → P (.lst (cs.map natD))
/- classes_of: 0 steps, 1 good, 2 leading, 3 classes, 4 _, 5 members, 6 room, 7 pieces, 8 told, 9 way, 10 renumbered, 11 touched, 12 before, 13 found, 14 number, 15 by_row -/
abbrev s_classes_of : Stmt := top 1
abbrev N_classes_of : List Str := ["steps", "good", "leading", "classes", "_", "members", "room", "pieces", "told", "way", "renumbered", "touched", "before", "found", "number", "by_row"]
theorem sc_classes_of : FnScope N_classes_of ["steps", "good"] (defScope s_classes_of) := ⟨rfl, rfl, rfl, by decide +kernel, rfl, by decide +kernel, by decide +kernel⟩
-- NO TERM: Exception("expr DictComp(key=Name(id='room', ctx=Load()), value=Constant(value=True), generators=[comprehension(target=Name(id='room', ctx=Store()), iter=Call(func=Name(id='range', ctx=Load()), args=[Call(func=Name(id='len', ctx=Load()), args=[Name(id='good', ctx=Load())], keywords=[])], keywords=[]), ifs=[], is_async=0)])"
theorem sl_no {K : PySem.W.Frag} {H : Hp} {σ : L2.St} {k : Nat} : ∀ (i : Nat) (s : Sl), (List.replicate k Sl.no)[i]? = some s → SlR K H σ i s := fun i s e => by
  rw [List.getElem?_replicate] at e
  split at e
  · cases e; exact True.intro
  · cases e
theorem sl_set {K : PySem.W.Frag} {H : Hp} {σ : L2.St} {ρ : En} {j : Nat} {s0 : Sl} (h : ∀ (i : Nat) (s : Sl), ρ[i]? = some s → SlR K H σ i s) (h0 : SlR K H σ j s0) : ∀ (i : Nat) (s : Sl), (ρ.set j s0)[i]? = some s → SlR K H σ i s := fun i s e => by
  by_cases z : j = i
  · subst z
    have hl : j < ρ.length := by have := (List.getElem?_eq_some_iff.mp e).1; rwa [List.length_set] at this
    rw [List.getElem?_set_self hl] at e
    cases e; exact h0
  · rw [List.getElem?_set_ne z] at e; exact h i s e
def whB : Stmt → List Stmt
  | .While _ b _ _ => b
  | _ => []
def asV : Stmt → Expr
  | .Assign _ e _ => e
  | _ => .Constant .none 0 ⟨0, 0, 0, 0⟩
theorem ok_classes_of {f : Addr} {fd : FuncData} (F : Fun K "classes_of" "classes_of" s_classes_of f fd) (m_len : mg "len" = none) (m_range : mg "range" = none) (m_enumerate : mg "enumerate" = none) (m_sorted : mg "sorted" = none) (m_list : mg "list" = none)
    (C_leading_to : Cal P w K mg base "leading_to" 1 (spLead K)) (C_split : Cal P w K mg base "split" 1 (spSplit K)) (C_sorted_out : Cal P w K mg base "sorted_out" 1 (spSorted K)) : FnOk P w K mg base CX0 2 f fd ["steps", "good"] (spP K spClasses) := by
  refine F.ok sc_classes_of (fun vs H Q E h => ?_) (fun cdv A outer s H vs Q E hr h => ?_)
  · obtain ⟨ds, P, rs, _, ⟨st, gd, m, rfl, _⟩, _⟩ := h
    rw [← rs.len]; rfl
  · obtain ⟨ds, Pd, rs, tn, ⟨st, gd, m, rfl, ok, hg, hn, hm, hP⟩, q⟩ := h
    unfold Rs at rs
    obtain ⟨v1, r1, rfl, hv1, rs⟩ := rs
    unfold Rs at rs
    obtain ⟨v2, r2, rfl, hv2, rs⟩ := rs
    unfold Rs at rs
    subst rs
    have hv2' := hv2
    unfold R at hv1 hv2
    obtain ⟨aS, ws, rfl, hS, _, rws⟩ := hv1
    obtain ⟨aG, gs, rfl, hG, _, rgs⟩ := hv2
    obtain ⟨rs, rfl, hrl, hrow'⟩ := rows_of rws
    have hrow := fun i r e => (hrow' i r e).1
    have eg := Rs.bls rgs
    subst eg
    have hSt : StH K H aS rs st := ⟨SqL.of hS, hrl, fun i r e => SqL.of (hrow i r e)⟩
    have hz := sizeBig
    obtain ⟨fl, fdl, psl, Fl, gl, kl, bl⟩ := C_leading_to.ex
    obtain ⟨fp, fdp, psp, Fp, gp, kp, bp⟩ := C_split.ex
    obtain ⟨fo, fdo, pso, Fo, go, ko, bo⟩ := C_sorted_out.ex
    obtain ⟨teP, pP, eP⟩ : ∃ te, PS (cxOf CX0 P w K mg base N_classes_of "classes_of" (defScope s_classes_of) f cdv A outer s H E).nox ((defBody s_classes_of).getD 3 (.Pass ⟨0, 0, 0, 0⟩)) (tAsg te (gName 7)) ∧ Ev1 K te _ :=
      (dse_setLc (i := 7) rfl sc_classes_of.nd (sw_true rfl rfl rfl (by decide +kernel)) (di_tup (de_tup (da_cons de_bl (da_cons de_bl da_nil)))) (blkOk_by (own := [("way", 9)]) (N := N_classes_of) (sc := defScope s_classes_of) (by decide +kernel)) (g := (.one 9)) (by decide) (fun _ => (dg_name (i := 9) sc_classes_of.nd)) (fun _ => dts_nil) (fun _ => (de_lc rfl sc_classes_of.nd (di_enum m_enumerate (da_cons (de_nameF 1) da_nil)) (blkOk_by (own := [("room", 6), ("told", 8)]) rfl) (g := (.tup [6, 8])) (by decide) (fun _ => (dg_tup rfl (dgs_cons (i := 6) sc_classes_of.nd (dgs_cons (i := 8) sc_classes_of.nd dgs_nil)) (fun h => pg_tup rfl h))) (fun _ => (dts_one (dt_eq hr (de_name 8) (de_name 9)))) (fun _ => (de_nameF 6)))))
    obtain ⟨teT, pT, eT⟩ : DE (cxOf CX0 P w K mg base N_classes_of "classes_of" (defScope s_classes_of) f cdv A outer s H E).nox (asV ((whB ((defBody s_classes_of).getD 5 (.Pass ⟨0, 0, 0, 0⟩))).getD 0 (.Pass ⟨0, 0, 0, 0⟩))) _ :=
      (de_ss m_sorted rfl sc_classes_of.nd (di_list (de_nameF 10)) (blkOk_by (own := [("room", 6), ("before", 12)]) (N := N_classes_of) (sc := defScope s_classes_of) (by decide +kernel)) (g0 := (.one 6)) (g1 := (.one 12)) (vs1 := [12]) (by decide) (by decide) (by decide) (fun _ => (dg_name (i := 6) sc_classes_of.nd)) (fun _ => (di_list (de_ix (de_name 2) (de_name 6)))) (fun _ => (dg_name (i := 12) sc_classes_of.nd)) (fun _ => (de_name 12)))
    refine ⟨_, pss_cons (ps_set (i := 2) sc_classes_of.nd rfl (.inr rfl) (pe_call Fl (hr.mono (by decide)) (by rfl) gl kl bl .nil pass0 (pa_cons (pv 0) pa_nil)))
      (pss_cons (ps_setLc (i := 3) (g := gName 4) (tt := tYes) rfl sc_classes_of.nd rfl rfl (sw_true rfl rfl rfl (by decide +kernel)) (pi_list (pv 1)) (blkOk_by (own := [("_", 4)]) (N := N_classes_of) (sc := defScope s_classes_of) (by decide +kernel)) (fun _ _ _ _ _ => pg_name (i := 4) sc_classes_of.nd rfl (.inl rfl)) (fun _ _ _ _ _ => pts_nil) (fun _ _ _ _ _ => pe_int))
      (pss_cons (ps_set (i := 5) sc_classes_of.nd rfl (.inl rfl) (pe_lst (pa_cons (pe_dc (own := [("room", 6)]) (g := gName 6) (tt := tYes) (tk := tVar 6) (tv := tC (.bl true)) rfl sc_classes_of.nd (pi_range1 (by rfl) m_range (pa_cons (pe_callB call_len_seq (by rfl) m_len (by decide +kernel) (pa_cons (pv 1) pa_nil)) pa_nil)) (blkOk_by (own := [("room", 6)]) (N := N_classes_of) (sc := defScope s_classes_of) (by decide +kernel)) (fun _ _ _ _ _ => pg_name (i := 6) sc_classes_of.nd rfl (.inl rfl)) (fun _ _ _ _ _ => pts_nil) (fun _ _ _ _ _ => pv 6) (fun _ _ _ _ _ => pe_bl)) pa_nil)))
      (pss_cons pP
      (pss_cons (ps_set (i := 10) sc_classes_of.nd rfl (.inl rfl) (pe_call Fp (hr.mono (by decide)) (by rfl) gp kp bp .nil pass0 (pa_cons pe_int (pa_cons (pv 7) (pa_cons (pv 3) (pa_cons (pv 5) pa_nil))))))
      (pss_cons (ps_while PassesOwn.never (pt_truth (pv 10) (by intro _; rfl))
        (pss_cons (ps_set (i := 11) sc_classes_of.nd rfl (.inl rfl) pT)
        (pss_cons (ps_set (i := 13) sc_classes_of.nd rfl (.inl rfl) (pe_call Fo (hr.mono (by decide)) (by rfl) go ko bo .nil pass0 (pa_cons (pv 11) (pa_cons (pv 0) (pa_cons (pv 3) pa_nil)))))
        (pss_cons (ps_set (i := 10) sc_classes_of.nd rfl (.inl rfl) (pe_lst pa_nil))
        (pss_one (ps_lock (ps_for PassesOwn.never rfl (pi_items (pv 13)) (pg_tup rfl (pgs_cons (pg_name (i := 14) sc_classes_of.nd rfl (.inl rfl)) (pgs_cons (pg_name (i := 15) sc_classes_of.nd rfl (.inl rfl)) pgs_nil)))
          (pss_one (ps_expr (pe_bm PySem.F.plainAttrs_list PySem.F.slot_list_extend PySem.F.type_list_extend mt_extend (pv 10) (pa_cons (pe_call Fp (hr.mono (by decide)) (by rfl) gp kp bp .nil pass0 (pa_cons (pv 14) (pa_cons (pe_listVals rfl (pv 15) m_list) (pa_cons (pv 3) (pa_cons (pv 5) pa_nil))))) pa_nil)))))))))))
      (pss_one (ps_ret (pv 3)))))))), ?_⟩
    have smG : ∀ {H'}, Same H H' → SqL K H' aG (gd.map V.bl) := fun k => k.seq (SqL.of hG)
    refine ⟨.ref aS, rfl, aS, rs, st, m, rfl, hSt, ok, hn, hm, fun H1 aL ls ld s1 nL nls hL hll hmem => ?_⟩
    refine ⟨.ref aG, rfl, aG, rfl, ⟨_, smG s1⟩, fun aC hC => lc_list (K := K) (a := aG) (xs := gd.map V.bl) (fun i H' => H' = upd H1 aC (.lst ((List.replicate i 0).map nV))) rfl (fun i H' _ e => by rw [e]; exact smG (s1.trans (same_upd hC))) ?_ ?_⟩
    · rintro i x H' hx rfl
      have hi := (List.getElem?_eq_some_iff.mp hx).1
      rw [List.length_map, hg] at hi
      refine ⟨rfl, _, upd_same, by rw [List.length_map, List.length_replicate]; omega, ?_⟩
      rw [upd_upd, List.replicate_succ', List.map_append]; rfl
    · rintro H2 rfl
      rw [List.length_map, hg]
      have s2 : Same H1 (upd H1 aC (.lst ((List.replicate st.length 0).map nV))) := same_upd hC
      have eC : (upd H1 aC (.lst ((List.replicate st.length 0).map nV))) aC = some (.lst ((List.replicate st.length 0).map nV)) := upd_same
      generalize (upd H1 aC (.lst ((List.replicate st.length 0).map nV))) = H2 at *
      have s02 := s1.trans s2
      refine ⟨.ref aG, rfl, aG, _, rfl, .inl (smG s02), ((gd.map V.bl).length : Int), rfl, by omega, by rw [List.length_map]; omega, fun d0 hD => ?_⟩
      have hyr : ∀ (j : Nat) (H : Hp) (x : V) (H' : Hp), j < st.length → YFn (fun i => .int (0 + (i : Nat))) j H x H' → H' = H ∧ ∃ r, ((List.range st.length).map iN)[j]? = some r ∧ x = .int r := fun j H x H' hj ⟨h1, h2⟩ => ⟨h1, (j : Int), by rw [List.getElem?_map, List.getElem?_range hj]; rfl, by rw [h2]; show V.int (0 + (j : Int)) = _; rw [Int.zero_add]⟩
      have en : (((gd.map V.bl).length : Int)).toNat = st.length := by rw [List.length_map, hg]; rfl
      rw [en]
      refine dc_trueW (q := (List.range st.length).map iN) (walk_range (lo := 0) (n := st.length)) (by rw [List.length_map, List.length_range]) hyr (fun _ => True.intro) (nodupI List.nodup_range) (by rw [List.length_map, List.length_range]; omega) (by simp) (by simp [L2.start, N_classes_of]) ?_
      have s3 : Same H2 (upd H2 d0 (.dK (trueE ((List.range st.length).map iN)))) := same_upd hD
      have eD : (upd H2 d0 (.dK (trueE ((List.range st.length).map iN)))) d0 = some (.dK (trueN (List.range st.length))) := upd_same
      generalize (upd H2 d0 (.dK (trueE ((List.range st.length).map iN)))) = H3 at *
      refine ⟨by show 1 ≤ sizeLine; omega, fun aM hM => ?_⟩
      have s4 : Same H3 (upd H3 aM (.lst [.ref d0])) := same_upd hM
      have eM : (upd H3 aM (.lst [.ref d0])) aM = some (.lst [.ref d0]) := upd_same
      generalize (upd H3 aM (.lst [.ref d0])) = H4 at *
      have s34 := s3.trans s4
      have s04 := s02.trans s34
      have cm : CMH H4 aC aM [d0] (List.replicate st.length 0) [List.range st.length] := by
        refine ⟨s34 _ _ eC, eM, fun k a e => ?_, List.nodup_cons.mpr ⟨by simp, List.nodup_nil⟩, rfl, ne_of_none (s3 _ _ eC) hM⟩
        cases k with
        | zero => cases e; exact s4 _ _ eD
        | succ k => cases e
      refine ev_snapL (ρ := [.no, .val (.lst (gd.map D.bl)) .o, .no, .no, .no, .no, .no, .no, .no, .no, .no, .no, .no, .no, .no, .no]) eP rfl (tn.ext s04) (sl_set (ρ := List.replicate 16 Sl.no) (j := 1) sl_no ⟨rfl, _, rfl, hv2'.mono (fun a o e _ => @fun _ => s04 a o e) fun _ _ g => g⟩) ?_
      · -- pieces
        refine ⟨rfl, .n, fun i acc ρ => acc = ([false, true].take i).map (fun b => .lst (((List.range st.length).filter fun r => gG gd r == b).map natD)) ∧ ρ = [.no, .val (.lst (gd.map D.bl)) .o, .no, .no, .no, .no, .no, .no, .no, .no, .no, .no, .no, .no, .no, .no], ⟨rfl, rfl⟩, ?_, ?_⟩
        · rintro i d acc ρ hd ⟨rfl, rfl⟩
          obtain ⟨b, rfl, hb⟩ : ∃ b, d = .bl b ∧ [false, true][i]? = some b := by
            match i, hd with
            | 0, hd => cases hd; exact ⟨false, rfl, rfl⟩
            | 1, hd => cases hd; exact ⟨true, rfl, rfl⟩
          refine ⟨_, rfl, fun _ => ?_, fun h => Bool.noConfusion h⟩
          refine ⟨rfl, .z, fun j acc ρ => acc = ((List.range j).filter fun r => gG gd r == b).map natD ∧ ρ = [.no, .val (.lst (gd.map D.bl)) .o, .no, .no, .no, .no, .no, .no, .no, .val (.bl b) .z, .no, .no, .no, .no, .no, .no], ⟨rfl, rfl⟩, ?_, ?_⟩
          · rintro j d acc ρ hd ⟨rfl, rfl⟩
            unfold enD at hd
            rw [List.getElem?_mapIdx] at hd
            obtain ⟨x, hx, rfl⟩ := Option.map_eq_some_iff.mp hd
            rw [List.getElem?_map] at hx
            obtain ⟨y, hy, rfl⟩ := Option.map_eq_some_iff.mp hx
            have hj := (List.getElem?_eq_some_iff.mp hy).1
            have hgy : gG gd j = y := by show gd.getD j false = y; rw [List.getD_eq_getElem?_getD, hy]; rfl
            have hlj : (((List.range j).filter fun r => gG gd r == b).map natD).length < sizeLine := by
              rw [List.length_map]
              have := List.length_filter_le (fun r => gG gd r == b) (List.range j)
              rw [List.length_range] at this
              omega
            refine ⟨_, rfl, both_of (cmpN_bl (n := 1)).ok (cmpN_bl (n := 1)).ok, _, rfl, fun z => ?_, fun z => ?_⟩
            · have z : (false ^^ eqD (.bl y) (.bl b)) = true := z
              rw [Bool.false_xor] at z
              refine ⟨_, rfl, rfl, hlj, ?_, rfl⟩
              rw [List.range_succ, List.filter_append, List.map_append, List.filter_cons_of_pos (by rw [hgy, ← z, eqD_bl]; cases y <;> cases b <;> rfl)]; rfl
            · have z : (false ^^ eqD (.bl y) (.bl b)) = false := z
              rw [Bool.false_xor] at z
              refine ⟨?_, rfl⟩
              rw [List.range_succ, List.filter_append, List.map_append, List.filter_cons_of_neg (by rw [hgy]; show ¬ (y == b) = true; rw [show (y == b) = eqD (.bl y) (.bl b) from (eqD_bl y b).symm ▸ (by cases y <;> cases b <;> rfl), z]; exact Bool.false_ne_true), List.filter_nil, List.map_nil, List.append_nil]
          · rintro acc ρ ⟨rfl, rfl⟩
            rw [show (enD (gd.map D.bl)).length = st.length by unfold enD; rw [List.length_mapIdx, List.length_map, hg]]
            refine ⟨_, rfl, rfl, ?_, ?_, rfl⟩
            · rw [List.length_map]
              have := List.length_take_le' i [false, true]
              have e2 : [false, true].length = 2 := rfl
              omega
            · rw [take_snoc hb, List.map_append]; rfl
        · rintro acc ρ ⟨rfl, rfl⟩
          refine ⟨_, .n, rfl, .inl rfl, fun aP pw H5 A5 hP5 hP5' rs5 => ?_⟩
          have rs5 : Rs K (fun a => H4 a = none) H5 ([(List.range st.length).filter fun r => gG gd r == false, (List.range st.length).filter fun r => gG gd r == true].map rowD) pw := rs5
          obtain ⟨pl, rfl, hpl, hprow⟩ := rows_of rs5
          match pl, hpl with
          | [p0, p1], _ =>
          obtain ⟨hp0, np0⟩ := hprow 0 p0 rfl
          obtain ⟨hp1, np1⟩ := hprow 1 p1 rfl
          have cm5 := cm.all A5
          have hL4 := hL.keep (s2.trans s34)
          have hL5 := hL4.all A5
          have A05 := all_trans (All.full s04) A5
          have hC0 : H aC = none := s1.free hC
          have hM0 : H aM = none := s02.free (s3.free hM)
          have hd0 : H d0 = none := s02.free hD
          have naC : ∀ {a}, H4 a = none → a ≠ aC ∧ a ≠ aM := fun {a} e => ⟨(fun z => by rw [z, cm.c] at e; cases e), (fun z => by rw [z, cm.m] at e; cases e)⟩
          have pnd : ∀ r, (r ∈ (List.range st.length).filter fun r => gG gd r == false) ↔ r < st.length ∧ gG gd r = false := fun r => by
            rw [List.mem_filter, List.mem_range]; simp
          have pnd1 : ∀ r, (r ∈ (List.range st.length).filter fun r => gG gd r == true) ↔ r < st.length ∧ gG gd r = true := fun r => by
            rw [List.mem_filter, List.mem_range]; simp
          refine ⟨.ref aP, rfl, .ref aC, rfl, .ref aM, rfl, st.length, 0, aP, aC, aM, [d0], List.replicate st.length 0, [List.range st.length], [(p0, (List.range st.length).filter fun r => gG gd r == false), (p1, (List.range st.length).filter fun r => gG gd r == true)], rfl, hP5', fun b hb => ?_, (naC hP5).1, (naC hP5).2, cm5, Mo.start, Nat.zero_lt_one, by simp, ?_, fun r hr => ?_, hn, by simp, by simp, fun H6 aR ds6 cs6 ms6 ren fr6 cm6 C6 nR eR nd6 => ?_⟩
          · rcases List.mem_cons.mp hb with rfl | hb
            · exact ⟨hp0, naC np0⟩
            · rw [List.mem_singleton.mp hb]; exact ⟨hp1, naC np1⟩
          · show (((List.range st.length).filter fun r => gG gd r == false) ++ (((List.range st.length).filter fun r => gG gd r == true) ++ [])).Nodup
            rw [List.append_nil, List.nodup_append]
            refine ⟨List.nodup_range.filter _, List.nodup_range.filter _, fun a ha b hb e => ?_⟩
            subst e
            have h1 := ((pnd a).mp ha).2
            rw [((pnd1 a).mp hb).2] at h1; cases h1
          · have hr : r ∈ ((List.range st.length).filter fun r => gG gd r == false) ++ (((List.range st.length).filter fun r => gG gd r == true) ++ []) := hr
            show r ∈ List.range st.length
            rw [List.append_nil, List.mem_append] at hr
            rw [List.mem_range]
            exact hr.elim (fun z => ((pnd r).mp z).1) fun z => ((pnd1 r).mp z).1
          have W6 : Wh st.length m st gd cs6 ms6 ren := Wh.start ok C6 fun r r' hr hr' => by
            constructor
            · intro h
              have h0 := h _ (List.mem_cons_self ..)
              rw [pnd, pnd] at h0
              cases e : gG gd r with
              | false => exact (h0.mp ⟨hr, e⟩).2.symm
              | true => cases e' : gG gd r' with
                | true => rfl
                | false => rw [(h0.mpr ⟨hr', e'⟩).2] at e; cases e
            · intro e p hp
              have hp : p ∈ [(List.range st.length).filter fun r => gG gd r == false, (List.range st.length).filter fun r => gG gd r == true] := hp
              rcases List.mem_cons.mp hp with rfl | hp
              · rw [pnd, pnd, e]; simp [hr, hr']
              · rw [List.mem_singleton.mp hp, pnd1, pnd1, e]; simp [hr, hr']
          have A06 := all_fr A05 cm5 cm6 fr6 hC0 hM0 fun d hd => by rw [List.mem_singleton.mp hd]; exact hd0
          have nd6' : ∀ d ∈ ds6, H d = none := fun d hd => by
            rcases nd6 d hd with z | z
            · rw [List.mem_singleton.mp z]; exact hd0
            · cases e : H d with
              | none => rfl
              | some o => exact absurd z (A05.dm d (by rw [e]; exact Option.some_ne_none _))
          have nLC : ∀ l, l = aL ∨ l ∈ ls → l ≠ aC ∧ l ≠ aM := fun l hl => by
            have : ∃ o, H1 l = some o := by
              rcases hl with rfl | hl
              · exact ⟨_, hL.top⟩
              · obtain ⟨j, hj, e⟩ := List.getElem_of_mem hl
                exact ⟨_, hL.at_ j l (by rw [List.getElem?_eq_getElem hj, e])⟩
            obtain ⟨o, ho⟩ := this
            exact ⟨ne_of_none ho hC, ne_of_none (s3 _ _ (s2 _ _ ho)) hM⟩
          have hL6 : LdH H6 aL ls ld := by
            have nds : ∀ l xs, H5 l = some (.lst xs) → l ∉ [d0] := fun l xs e z => by
              rw [List.mem_singleton.mp z, cm5.d 0 d0 rfl] at e; cases e
            refine ⟨?_, fun r l e => ?_, hL5.nd, hL5.len, hL5.pn⟩
            · exact fr6 _ _ hL5.top (nLC aL (.inl rfl)).1 (nLC aL (.inl rfl)).2 (nds _ _ hL5.top)
            · have ml := List.mem_of_getElem? e
              exact fr6 _ _ (hL5.at_ r l e) (nLC l (.inr ml)).1 (nLC l (.inr ml)).2 (nds _ _ (hL5.at_ r l e))
          have nRC : aR ≠ aC ∧ aR ≠ aM := ⟨(fun z => by rw [z, cm5.c] at nR; cases nR), (fun z => by rw [z, cm5.m] at nR; cases nR)⟩
          clear fr6 nd6 hL5 hL4 C6 hprow hp0 hp1 rs5
          refine ⟨fun μ σ H7 => ∃ cs ms ren ds aR x4 x6 x8 x9 x11 x12 x13 x14 x15, σ = [some (.ref aS), some (.ref aG), some (.ref aL), some (.ref aC), x4, some (.ref aM), x6, some (.ref aP), x8, x9, some (.ref aR), x11, x12, x13, x14, x15] ∧
            All H H7 ∧ CMH H7 aC aM ds cs ms ∧ LdH H7 aL ls ld ∧ Wh st.length m st gd cs ms ren ∧ H7 aR = some (.lst (ren.map nV)) ∧ (∀ d ∈ ds, H d = none) ∧ (aR ≠ aC ∧ aR ≠ aM) ∧ μ = 2 * (st.length + 1 - ms.length) + (if ren = [] then 0 else 1), ⟨_, cs6, ms6, ren, ds6, aR, none, none, none, none, none, none, none, none, none, rfl, A06, cm6, hL6, W6, eR, nd6', nRC, rfl⟩, ?_⟩
          rintro μ σ H7 ⟨cs, ms, ren, ds, aR, x4, x6, x8, x9, x11, x12, x13, x14, x15, rfl, A7, cm7, hL7, W7, eR, hd7, nRC, rfl⟩
          clear A06 cm6 hL6 W6 nd6' nR
          refine ⟨.ref aR, rfl, !(ren.map nV).isEmpty, .inl ⟨_, SqL.of eR, rfl⟩, ite2 (fun hc => ?_) fun hc => ?_⟩
          · have hne : ren ≠ [] := fun z => by rw [z] at hc; cases hc
            refine ⟨fun σ' H' => ∃ m', m' < 2 * (st.length + 1 - ms.length) + (if ren = [] then 0 else 1) ∧ ∃ cs ms ren ds aR x4 x6 x8 x9 x11 x12 x13 x14 x15, σ' = [some (.ref aS), some (.ref aG), some (.ref aL), some (.ref aC), x4, some (.ref aM), x6, some (.ref aP), x8, x9, some (.ref aR), x11, x12, x13, x14, x15] ∧
              All H H' ∧ CMH H' aC aM ds cs ms ∧ LdH H' aL ls ld ∧ Wh st.length m st gd cs ms ren ∧ H' aR = some (.lst (ren.map nV)) ∧ (∀ d ∈ ds, H d = none) ∧ (aR ≠ aC ∧ aR ≠ aM) ∧ m' = 2 * (st.length + 1 - ms.length) + (if ren = [] then 0 else 1), fun σ' H' h => h, ?_⟩
            have rlt : ∀ r ∈ ren, r < st.length := fun r hr => by
              obtain ⟨cs0, N, _, p2, _⟩ := W7.prev
              exact ((p2 r).mp hr).1
            refine ev_snapL (ρ := [.no, .no, .val (.lst (ld.map rowD)) .o, .no, .no, .no, .no, .no, .no, .no, .val (.lst (ren.map natD)) .o, .no, .no, .no, .no, .no]) eT rfl (A7.tb tn) (sl_set (ρ := [.no, .no, .val (.lst (ld.map rowD)) .o, .no, .no, .no, .no, .no, .no, .no, .no, .no, .no, .no, .no, .no]) (j := 10) (sl_set (ρ := List.replicate 16 Sl.no) (j := 2) sl_no ⟨rfl, _, rfl, ?_⟩) ⟨rfl, _, rfl, ?_⟩) ?_
            · unfold R
              exact ⟨aL, _, rfl, hL7.top, True.intro, rows_to hL7.len fun i r e => ⟨hL7.at_ i r e, True.intro⟩⟩
            · unfold R
              exact ⟨aR, _, rfl, eR, True.intro, ints_rs ren⟩
            · refine ⟨rfl, fun d => ld.getD (match d with | .int i => i.toNat | _ => 0) [], fun d hd => ?_, fun k hk => ?_, fun ns hns hmem2 ns' hns' => ?_⟩
              · obtain ⟨r, hr, rfl⟩ := List.mem_map.mp hd
                have hrl : r < ld.length := by rw [hll]; exact rlt r hr
                refine ⟨_, rfl, ld.map rowD, (r : Int), rowD (ld.getD r []), rfl, rfl, L2.atI_nat (by rw [List.getElem?_map, getD_at (x := []) hrl]; rfl), rfl, fun d => (match d with | D.int i => i.toNat | _ => 0), ?_, fun d1 hd1 => ?_⟩
                · show ld.getD r [] = _
                  rw [List.map_map]
                  exact (List.map_id _).symm
                · obtain ⟨b, hb, rfl⟩ := List.mem_map.mp hd1
                  exact ⟨_, rfl, rfl, rfl⟩
              · obtain ⟨d, hd, hk⟩ := List.mem_flatMap.mp hk
                obtain ⟨r, hr, rfl⟩ := List.mem_map.mp hd
                have hk : k ∈ ld.getD r [] := hk
                have := ((hmem r k).mp hk).1
                omega
              · have en := kNt_inj (Rv.v.inj hns' |>.1 |> D.tk.inj)
                subst en
                have hT : ∀ k, k ∈ ns ↔ k < st.length ∧ Leads m st ren k := fun k => by
                  rw [hmem2]
                  constructor
                  · intro hk
                    obtain ⟨d, hd, hk⟩ := List.mem_flatMap.mp hk
                    obtain ⟨r, hr, rfl⟩ := List.mem_map.mp hd
                    have hk : k ∈ ld.getD r [] := hk
                    obtain ⟨h1, h2⟩ := (hmem r k).mp hk
                    obtain ⟨j, hj, e⟩ := List.getElem_of_mem h2
                    refine ⟨h1, j, by rw [← ok.rl k h1]; exact hj, ?_⟩
                    have : dl st k j = r := by
                      show (st.getD k []).getD j 0 = r
                      rw [List.getD_eq_getElem?_getD, List.getElem?_eq_getElem hj, e]; rfl
                    rw [this]; exact hr
                  · rintro ⟨h1, j, hj, h2⟩
                    refine List.mem_flatMap.mpr ⟨natD (dl st k j), List.mem_map.mpr ⟨_, h2, rfl⟩, ?_⟩
                    show k ∈ ld.getD (dl st k j) []
                    rw [hmem]
                    refine ⟨h1, ?_⟩
                    have hj2 : j < (st.getD k []).length := by rw [ok.rl k h1]; exact hj
                    have : dl st k j = (st.getD k [])[j] := by
                      show (st.getD k []).getD j 0 = _
                      rw [List.getD_eq_getElem?_getD, List.getElem?_eq_getElem hj2]; rfl
                    rw [this]
                    exact List.getElem_mem hj2
                have nsn : ns.Nodup := hns.imp fun h => Nat.ne_of_lt h
                refine ⟨_, .z, rfl, .inr (.inr rfl), fun aT vs8 H8 A8 nT eT8 rs8 => ?_⟩
                have ev8 := rs_ints (q := ns) rs8
                subst ev8
                have A08 := all_trans A7 A8
                have cm8 := cm7.all A8
                have hL8 := hL7.all A8
                refine ⟨.ref aT, rfl, .ref aS, rfl, .ref aC, rfl, aT, aS, aC, ns, rs, st, cs, m, rfl, SqL.of eT8, ⟨SqL.of (A08 _ _ hS), hrl, fun i r e => SqL.of (A08 _ _ (hrow i r e))⟩, SqL.of cm8.c, ok, W7.mo.len, hn, hm, nsn, fun r hr => ((hT r).mp hr).1, fun H9 aF F G sm9 nF nE nG hFo hFm => ?_⟩
                have SR := srt_of (n := st.length) (m := m) (T := Leads m st ren) hFo hFm hT
                refine ⟨Nat.zero_le _, fun aN hN => ?_⟩
                have A09 := all_trans A08 (All.full sm9)
                have cm9 := cm8.all (All.full sm9)
                have hL9 := hL8.all (All.full sm9)
                have sX : Same H9 (upd H9 aN (.lst [])) := same_upd hN
                have eN : (upd H9 aN (.lst [])) aN = some (.lst []) := upd_same
                have nNl : ∀ a o, H9 a = some o → a ≠ aN := fun a o e => ne_of_none e hN
                generalize (upd H9 aN (.lst [])) = HX at *
                have AX := all_trans A09 (All.full sX)
                have cmX := cm9.same sX
                have hLX := hL9.keep sX
                have hFX := hFo.keep sX
                have nNC : aN ≠ aC := (nNl _ _ cm9.c).symm
                have nNM : aN ≠ aM := (nNl _ _ cm9.m).symm
                have hNH : H aN = none := by
                  cases e : H aN with
                  | none => rfl
                  | some o => exact absurd hN (A09.dm aN (by rw [e]; exact Option.some_ne_none _))
                have hFH : H aF = none := by
                  cases e : H aF with
                  | none => rfl
                  | some o => exact absurd nF (A08.dm aF (by rw [e]; exact Option.some_ne_none _))
                have lfX : ∀ g ∈ G, HX g.2.2.1 = some (.lst (g.2.2.2.map nV)) ∧ g.2.2.1 ≠ aF ∧ g.2.2.1 ≠ aC ∧ g.2.2.1 ≠ aM ∧ g.2.2.1 ∉ ds ∧ g.2.2.1 ≠ aN := fun g hg => by
                  have e := hFX.leaf g hg
                  refine ⟨e, ne_of e hFX.top (fun z => nomatch z), fun z => ?_, fun z => ?_, fun z => ?_, nNl _ _ (hFo.leaf g hg)⟩
                  · have := nG g hg
                    rw [z, cm8.c] at this; cases this
                  · have := nG g hg
                    rw [z, cm8.m] at this; cases this
                  · obtain ⟨_, _, kv, q2⟩ := cmX.dne z
                    rw [q2] at e; cases e
                have mdX : ∀ e ∈ F, HX e.2 = some (.dT (gkv G e.2)) ∧ e.2 ≠ aF ∧ e.2 ≠ aC ∧ e.2 ≠ aM ∧ e.2 ∉ ds ∧ e.2 ≠ aN := fun e he => by
                  have q1 := hFX.mid e he
                  refine ⟨q1, ne_of q1 hFX.top (fun z => nomatch z), ne_of q1 cmX.c (fun z => nomatch z), ne_of q1 cmX.m (fun z => nomatch z), fun z => ?_, ne_of q1 eN (fun z => nomatch z)⟩
                  obtain ⟨_, _, kv, q2⟩ := cmX.dne z
                  rw [q2] at q1; cases q1
                have aFC : aF ≠ aC := ne_of hFX.top cmX.c fun z => nomatch z
                have aFM : aF ≠ aM := ne_of hFX.top cmX.m fun z => nomatch z
                have aFN : aF ≠ aN := ne_of hFX.top eN fun z => nomatch z
                have aFd : aF ∉ ds := fun z => by
                  have := hd7 aF z
                  rw [← Option.not_isSome_iff_eq_none] at this
                  obtain ⟨i, hi, e⟩ := List.getElem_of_mem z
                  have q2 := cm8.d i aF (by rw [List.getElem?_eq_getElem hi, e])
                  rw [nF] at q2; cases q2
                have hkl : ∀ e ∈ F, e.1 < ms.length := fun e he => by
                  have s1 := SR.each _ (List.mem_map.mpr ⟨e, he, rfl⟩)
                  obtain ⟨p, hp⟩ := List.exists_mem_of_ne_nil _ s1.ne
                  obtain ⟨r, hr⟩ := List.exists_mem_of_ne_nil _ (s1.nn p hp)
                  obtain ⟨h1, h2⟩ := s1.inn r (List.mem_flatten.mpr ⟨p, hp, hr⟩)
                  have h2 : gC cs r = e.1 := h2
                  rw [← h2]; exact W7.mo.lt r h1
                refine ⟨aF, .dK (fkv F), hFX.top, True.intro, fun od => ?_⟩
                have kF : ∀ a o, HX a = some o → a ≠ aF → (upd HX aF (.frz od (.dK (fkv F)))) a = some o := fun a o e n => by rw [upd_ne n]; exact e
                have oF : (upd HX aF (.frz od (.dK (fkv F)))) aF = some (.frz od (.dK (fkv F))) := upd_same
                refine ⟨.ref aF, rfl, aF, od, fkv F, rfl, oF, for_it (walk_items (kvs := fkv F) (d := aF) (o := od)) (fun i σ H' => ∃ csi msi reni dsi y14 y15, σ = [some (.ref aS), some (.ref aG), some (.ref aL), some (.ref aC), x4, some (.ref aM), x6, some (.ref aP), x8, x9, some (.ref aN), some (.ref aT), x12, some (.ref aF), y14, y15] ∧
                  H' aF = some (.frz od (.dK (fkv F))) ∧ (∀ a o, HX a = some o → a ≠ aF → a ≠ aC → a ≠ aM → a ∉ ds → a ≠ aN → H' a = some o) ∧ CMH H' aC aM dsi csi msi ∧ H' aN = some (.lst (reni.map nV)) ∧
                  Rnd st.length cs ms (Leads m st ren) (rowC st cs) ((F.take i).map (·.1)) csi msi reni ∧ ∀ d ∈ dsi, d ∈ ds ∨ HX d = none) ?_ (fun i σ H' _ ⟨_, _, _, _, _, _, _, e, _⟩ => e) ?_ ?_⟩
                · refine ⟨cs, ms, [], ds, x14, x15, rfl, oF, fun a o e n _ _ _ _ => kF a o e n, cmX.keep fun a o e h => kF a o e ?_, kF _ _ eN aFN.symm, Rnd.start W7.mo W7.ne, fun d hd => .inl hd⟩
                  rcases h with rfl | rfl | h
                  · exact aFC.symm
                  · exact aFM.symm
                  · exact fun z => aFd (by rw [← z]; exact h)
                · rintro i x σ H' H2 hi ⟨csi, msi, reni, dsi, y14, y15, rfl, kf, fr, cmi, ein, rnd, ndi⟩ ⟨Tp, u1, u2, rfl, nT2, rfl, e1, e2⟩
                  have hi : i < F.length := by unfold fkv at hi; rwa [List.length_map] at hi
                  have e1 : ((fkv F)[i]?.map fun kv => kV kv.1) = some u1 := e1
                  have e2 : (fkv F)[i]?.map Prod.snd = some u2 := e2
                  unfold fkv at e1 e2
                  rw [List.getElem?_map, List.getElem?_eq_getElem hi] at e1 e2
                  cases e1
                  cases e2
                  have hmF : F[i] ∈ F := List.getElem_mem hi
                  have tkF : (F.take (i + 1)).map (·.1) = (F.take i).map (·.1) ++ [F[i].1] := by rw [List.take_add_one, List.getElem?_eq_getElem hi, List.map_append]; rfl
                  have hkn : F[i].1 ∉ (F.take i).map (·.1) := fun z => by
                    obtain ⟨x, hx, e⟩ := List.mem_map.mp z
                    obtain ⟨j, hj, q2⟩ := List.getElem_of_mem hx
                    rw [List.length_take] at hj
                    rw [List.getElem_take] at q2
                    have := nd_ix hFo.kn (i := j) (j := i) (x := F[i].1) (by rw [List.getElem?_map, List.getElem?_eq_getElem (by omega), q2]; exact congrArg some e) (by rw [List.getElem?_map, List.getElem?_eq_getElem hi]; rfl)
                    omega
                  have S1 := SR.each _ (List.mem_map.mpr ⟨F[i], hmF, rfl⟩)
                  have hkm := hkl _ hmF
                  generalize F[i] = e at *
                  have sT : Same H' (upd H' Tp (.tup [kV (kI e.1), .ref e.2])) := same_upd nT2
                  have oT : (upd H' Tp (.tup [kV (kI e.1), .ref e.2])) Tp = some (.tup [kV (kI e.1), .ref e.2]) := upd_same
                  have nT3 : ∀ {a}, (upd H' Tp (.tup [kV (kI e.1), .ref e.2])) a = none → H' a = none := fun {a} z => sT.free z
                  refine ⟨Tp, [kV (kI e.1), .ref e.2], rfl, .inl (.inl oT), rfl, _, _, rfl, _, [], rfl, rfl, ?_⟩
                  generalize (upd H' Tp (.tup [kV (kI e.1), .ref e.2])) = HT at *
                  obtain ⟨md1, md2, md3, md4, md5, md6⟩ := mdX e hmF
                  have mdT := sT _ _ (fr _ _ md1 md2 md3 md4 md5 md6)
                  refine ⟨.ref aN, rfl, Or.inl ⟨rfl, _, SqL.of (sT _ _ ein)⟩, nV e.1, rfl, .ref e.2, rfl, e.2, gkv G e.2, rfl, mdT, fun aV hV => ?_⟩
                  have sV : Same HT (upd HT aV (.lst ((gkv G e.2).map (·.2)))) := same_upd hV
                  have oV : (upd HT aV (.lst ((gkv G e.2).map (·.2)))) aV = some (.lst ((gkv G e.2).map (·.2))) := upd_same
                  generalize (upd HT aV (.lst ((gkv G e.2).map (·.2)))) = HV at *
                  have sTV := sT.trans sV
                  have cmV := cmi.same sTV
                  have nVn : ∀ a o, HT a = some o → a ≠ aV := fun a o z => ne_of_none z hV
                  have few := rnd.mo.few rnd.ne
                  have ePL : ((ofD G e.2).map fun g : GE => ((g.2.2.1, g.2.2.2) : PE1)).map (·.2) = (itm G e).2 := by rw [List.map_map]; rfl
                  have flat_n : (itm G e).2.flatten.length ≤ st.length := by
                    have h2 := few_le _ (List.range st.length) S1.nd fun x hx => List.mem_range.mpr (S1.inn x hx).1
                    rwa [List.length_range] at h2
                  have hmsi : e.1 < msi.length := Nat.lt_of_lt_of_le hkm rnd.le
                  refine ⟨.ref aC, rfl, .ref aM, rfl, st.length, e.1, aV, aC, aM, dsi, csi, msi, (ofD G e.2).map (fun g : GE => ((g.2.2.1, g.2.2.2) : PE1)), rfl, ?_, fun b hb => ?_, (nVn _ _ (sT _ _ cmi.c)).symm, (nVn _ _ (sT _ _ cmi.m)).symm, cmV, rnd.mo, hmsi, ?_, by rw [ePL]; exact S1.nd, fun r hr => ?_, hn, by omega, ?_, fun H3 p ds2 cs2 ms2 ren2 fr2 cm2 C2 np ep nd2 => ?_⟩
                  · rw [oV]
                    unfold gkv
                    rw [List.map_map, List.map_map]; rfl
                  · obtain ⟨g, hg, rfl⟩ := List.mem_map.mp hb
                    obtain ⟨l1, l2, l3, l4, l5, l6⟩ := lfX g (mem_ofD.mp hg).1
                    exact ⟨sTV _ _ (fr _ _ l1 l2 l3 l4 l5 l6), l3, l4⟩
                  · intro z
                    have : (itm G e).2 = [] := by rw [← ePL, z]; rfl
                    exact S1.ne this
                  · rw [ePL] at hr
                    obtain ⟨h1, h2⟩ := S1.inn r hr
                    rw [rnd.oth e.1 hkm hkn, W7.mo.mem e.1 hkm r]
                    exact ⟨h1, h2⟩
                  · have h1 := len_le_flat S1.nn
                    rw [← ePL, List.length_map] at h1
                    rw [ePL] at h1
                    omega
                  · rw [ePL] at C2
                    have R2 := rnd.step S1 hkm hkn C2
                    have nds : ∀ l xs, HV l = some (.lst xs) → l ∉ dsi := fun l xs z y => by
                      obtain ⟨_, _, kv, q2⟩ := cmV.dne y
                      rw [q2] at z; cases z
                    have ein3 := fr2 _ _ (sTV _ _ ein) nNC nNM (nds _ _ (sTV _ _ ein))
                    have rl2 : (reni ++ ren2).length ≤ st.length := by
                      have h2 := few_le _ (List.range st.length) R2.nd fun x hx => List.mem_range.mpr ((R2.rn x).mp hx).1
                      rwa [List.length_range] at h2
                    have kf3 : H3 aF = some (.frz od (.dK (fkv F))) := fr2 _ _ (sTV _ _ kf) aFC aFM fun y => by
                      obtain ⟨_, _, kv, q2⟩ := cmV.dne y
                      rw [sTV _ _ kf] at q2; cases q2
                    refine ⟨aN, p, reni.map nV, ren2.map nV, rfl, rfl, ein3, ep, by rw [← List.length_append, ← List.map_append, List.length_map]; omega, ?_⟩
                    refine ⟨cs2, ms2, reni ++ ren2, ds2, _, _, rfl, by rw [upd_ne aFN]; exact kf3, fun a o z z1 z2 z3 z4 z5 => ?_, cm2.keep fun a o z h => ?_, by rw [upd_same, List.map_append], by rw [tkF]; exact R2, fun d hd => ?_⟩
                    · rw [upd_ne z5]
                      refine fr2 _ _ (sTV _ _ (fr a o z z1 z2 z3 z4 z5)) z2 z3 fun y => ?_
                      rcases ndi a y with y | y
                      · exact z4 y
                      · rw [z] at y; cases y
                    · rw [upd_ne]
                      · exact z
                      · intro y
                        subst y
                        rcases h with h | h | h
                        · exact nNC h
                        · exact nNM h
                        · obtain ⟨_, _, kv, q2⟩ := cm2.dne h
                          rw [ein3] at q2; cases q2
                    · rcases nd2 d hd with y | y
                      · exact ndi d y
                      · cases z : HX d with
                        | none => exact .inr rfl
                        | some o =>
                          by_cases c4 : d ∈ ds
                          · exact .inl c4
                          · have c1 : d ≠ aF := fun w => by rw [w, sTV _ _ kf] at y; cases y
                            have c2 : d ≠ aC := fun w => by rw [w, cmV.c] at y; cases y
                            have c3 : d ≠ aM := fun w => by rw [w, cmV.m] at y; cases y
                            have c5 : d ≠ aN := fun w => by rw [w, sTV _ _ ein] at y; cases y
                            rw [sTV _ _ (fr d o z c1 c2 c3 c4 c5)] at y; cases y
                · rintro σ H' ⟨csi, msi, reni, dsi, y14, y15, rfl, kf, fr, cmi, ein, rnd, ndi⟩
                  have efl : (fkv F).length = F.length := by unfold fkv; exact List.length_map _
                  rw [efl, List.take_length] at rnd
                  have ek : (F.map (itm G)).map (·.1) = F.map (·.1) := by rw [List.map_map]; rfl
                  rw [← ek] at rnd
                  have WN := W7.round ok SR rnd
                  refine ⟨kf, ?_⟩
                  have kk : ∀ a o, HX a = some o → a ≠ aF → a ≠ aC → a ≠ aM → a ∉ ds → a ≠ aN → (upd H' aF (.dK (fkv F))) a = some o := fun a o z z1 z2 z3 z4 z5 => by rw [upd_ne z1]; exact fr a o z z1 z2 z3 z4 z5
                  have cmN : CMH (upd H' aF (.dK (fkv F))) aC aM dsi csi msi := cmi.keep fun a o z h => by
                    rw [upd_ne]
                    · exact z
                    · intro y
                      subst y
                      rcases h with h | h | h
                      · exact aFC h
                      · exact aFM h
                      · obtain ⟨_, _, kv, q2⟩ := cmi.dne h
                        rw [kf] at q2; cases q2
                  have nH : ∀ a o, HX a = some o → H a ≠ none → a ≠ aF ∧ a ≠ aC ∧ a ≠ aM ∧ a ∉ ds ∧ a ≠ aN := fun a o z h => ⟨(fun y => h (by rw [y]; exact hFH)), (fun y => h (by rw [y]; exact hC0)), (fun y => h (by rw [y]; exact hM0)), (fun y => h (hd7 a y)), (fun y => h (by rw [y]; exact hNH))⟩
                  have AN : All H (upd H' aF (.dK (fkv F))) := by
                    refine ⟨fun a o z => @fun nt => ?_, fun a z => ?_, fun t => tb_im (fun a o z i => ?_) (AX.tb t)⟩
                    · obtain ⟨h1, h2, h3, h4, h5⟩ := nH a o (AX a o z) (by rw [z]; exact Option.some_ne_none _)
                      exact kk a o (AX a o z) h1 h2 h3 h4 h5
                    · cases y : HX a with
                      | none => exact absurd y (AX.dm a z)
                      | some o =>
                        obtain ⟨h1, h2, h3, h4, h5⟩ := nH a o y z
                        rw [kk a o y h1 h2 h3 h4 h5]; exact Option.some_ne_none _
                    · refine kk a o z (fun y => ?_) (fun y => ?_) (fun y => ?_) (fun y => ?_) fun y => ?_
                      · rw [y, hFX.top] at z; cases z; exact i
                      · rw [y, cmX.c] at z; cases z; exact i
                      · rw [y, cmX.m] at z; cases z; exact i
                      · obtain ⟨_, _, kv, q2⟩ := cmX.dne y
                        rw [q2] at z; cases z; exact i
                      · rw [y, eN] at z; cases z; exact i
                  have kL : ∀ l xs, HX l = some (.lst xs) → (l = aL ∨ l ∈ ls) → (upd H' aF (.dK (fkv F))) l = some (.lst xs) := fun l xs z hl => by
                    obtain ⟨n1, n2⟩ := nLC l hl
                    refine kk l _ z (ne_of z hFX.top fun z => nomatch z) n1 n2 (fun y => ?_) fun y => ?_
                    · obtain ⟨_, _, kv, q2⟩ := cmX.dne y
                      rw [q2] at z; cases z
                    · rcases hl with hl | hl
                      · exact nNl _ _ hL9.top (hl ▸ y)
                      · obtain ⟨j, hj, e⟩ := List.getElem_of_mem hl
                        exact nNl _ _ (hL9.at_ j l (by rw [List.getElem?_eq_getElem hj, e])) y
                  have hLN : LdH (upd H' aF (.dK (fkv F))) aL ls ld := ⟨kL _ _ hLX.top (.inl rfl), fun r l e => kL _ _ (hLX.at_ r l e) (.inr (List.mem_of_getElem? e)), hLX.nd, hLX.len, hLX.pn⟩
                  refine ⟨_, ?_, csi, msi, reni, dsi, aN, x4, x6, x8, x9, _, x12, _, y14, y15, rfl, AN, cmN, hLN, WN, by rw [upd_ne aFN.symm]; exact ein, fun d hd => ?_, ⟨nNC, nNM⟩, rfl⟩
                  · have f1 := rnd.mo.few rnd.ne
                    have f2 := rnd.le
                    rw [if_neg hne]
                    by_cases z : reni = []
                    · rw [if_pos z]; omega
                    · have := rnd.more z
                      rw [if_neg z]; omega
                  · rcases ndi d hd with y | y
                    · exact hd7 d y
                    · cases z : H d with
                      | none => rfl
                      | some o => exact absurd y (AX.dm d (by rw [z]; exact Option.some_ne_none _))
          · have he : ren = [] := by
              cases e : ren with
              | nil => rfl
              | cons a l => rw [e] at hc; exact absurd rfl hc
            subst he
            have dn := W7.done ok
            have few := W7.mo.few W7.ne
            refine ⟨.ref aC, rfl, q (.lst (cs.map natD)) (.ref aC) H7 (hP cs W7.mo.len (fun r hr => ?_) dn) A7 ?_⟩
            · have := W7.mo.lt r hr
              omega
            · unfold R
              exact ⟨aC, _, rfl, cm7.c, hC0, ints_rs cs⟩
end
end M

namespace M
open PySem L2 DL
variable [Tabs]
/-! ### the least machine -/
section
variable {P : Program} {w : World} {K : PySem.W.Frag} {mg : Str → Option Value} {base : Heap} {f : Addr} {fd : FuncData}
/- least: 0 machine, 1 marks, 2 steps, 3 good, 4 classes, 5 speakers, 6 room, 7 number, 8 beyond, 9 numbers, 10 new_steps -/
abbrev s_least : Stmt := top 6
abbrev N_least : List Str := ["machine", "marks", "steps", "good", "classes", "speakers", "room", "number", "beyond", "numbers", "new_steps"]
theorem sc_least : FnScope N_least ["machine"] (defScope s_least) := ⟨rfl, rfl, rfl, by decide +kernel, rfl, by decide +kernel, by decide +kernel⟩
abbrev N_beyondL : List Str := ["number", "classes", "speakers", "steps", "target"]
abbrev st_beyondL : Stmt := (defBody s_least).getD 3 (.Pass ⟨0, 0, 0, 0⟩)
theorem sc_beyondL : NdefX.NScope N_beyondL ["number"] ["classes", "speakers", "steps"] (C8.fnScope st_beyondL) := ⟨rfl, rfl, rfl, by decide +kernel, rfl, by decide +kernel, by decide +kernel, by decide +kernel, by decide +kernel⟩
def nmL : Nat → Nat → Str := fun _ _ => "least.<locals>.beyond"
theorem hn_bL : nmL 6 4 = ("least" : Str) ++ ".<locals>." ++ "beyond" := by decide +kernel
theorem fr_bL : ∀ y ∈ (C8.fnScope st_beyondL).names, y.2 = .free → (defScope s_least).names.lookup y.1 = some .cell ∨ (defScope s_least).names.lookup y.1 = some .free := by decide +kernel
theorem in_bL : ∀ y ∈ (["classes", "speakers", "steps"] : List Str), (y, NameKind.free) ∈ (C8.fnScope st_beyondL).names := by decide +kernel
theorem noC_natL : ∀ {l : List Nat}, noCs (l.map natD) = true
  | [] => rfl
  | x :: l => by show (true && noCs (l.map natD)) = true; rw [noC_natL]; rfl
theorem noC_rowsL : ∀ {l : List (List Nat)}, noCs (l.map rowD) = true
  | [] => rfl
  | x :: l => by show (noCs (x.map natD) && noCs (l.map rowD)) = true; rw [noC_rowsL, noC_natL]; rfl
def csL (nf : Addr → NdefX.NF) : CS := ⟨nf, ["classes", "speakers", "steps"], [4, 5, 2], fun dc ds P => ∃ (cs : List Nat) (l : List (Nat × Nat)) (st : List (List Nat)) (c s : Nat), dc = [.lst (cs.map natD), .dic (ksN l) (dsN l), .lst (st.map rowD)] ∧ ds = [natD c] ∧
  lk (ksN l) (dsN l) (kNt c) = some (intD s) ∧ s < st.length ∧ (st.getD s []).length ≤ 1000 ∧ (∀ t ∈ st.getD s [], t < cs.length) ∧ P (.lst ((st.getD s []).map fun t => natD (gC cs t)))⟩
theorem ok_beyondL {q : Str} {cl : List (Str × Addr)} {c' : Addr} {G0 : Addr → Prop} {nf : Addr → NdefX.NF} : NdefX.NOk P w K mg base CX0 2 f (NdefX.NF.of st_beyondL "beyond" q cl c') ["number"] ["classes", "speakers", "steps"] (spNQ K G0 (csL nf).sp) := by
  refine dfnNQ (k := 1) (N := N_beyondL) sc_beyondL (fun doc pm ctv us h => match us, h with | [_], _ => rfl) (by decide) (fun dc ds Q ⟨_, _, _, _, _, _, e, _⟩ => by rw [e]; rfl) rfl (fun A outer s H E hr => (de_lc rfl sc_beyondL.nd (di_list (de_ix (de_name 3) (de_dgetG hr (de_name 2) (de_name 0)))) (blkOk_by (own := [("target", 4)]) (N := N_beyondL) (sc := C8.fnScope st_beyondL) (by decide +kernel)) (g := (.one 4)) (by decide) (fun _ => (dg_name (i := 4) sc_beyondL.nd)) (fun _ => dts_nil) (fun _ => (de_ix (de_name 1) (de_name 4))))) ?_
  rintro dc ds Q ⟨cs, l, st, c, s, rfl, rfl, hlk, hs, hl, ht, hQ⟩ _
  refine ⟨.k (ksN l) (dsN l), intD s, rfl, congrArg some hlk, st.map rowD, (s : Int), rowD (st.getD s []), rfl, rfl, L2.atI_nat (by rw [List.getElem?_map, getD_at (x := []) hs]; rfl), ?_⟩
  refine ⟨rfl, .z, fun i acc ρ => acc = ((st.getD s []).take i).map (fun t => natD (gC cs t)) ∧ ρ = [.val (natD c) .p, .val (.lst (cs.map natD)) .p, .val (.dic (ksN l) (dsN l)) .p, .val (.lst (st.map rowD)) .p, .no], ⟨rfl, rfl⟩, ?_, ?_⟩
  · rintro i d acc ρ hd ⟨rfl, rfl⟩
    rw [List.getElem?_map] at hd
    obtain ⟨t, hx, rfl⟩ := Option.map_eq_some_iff.mp hd
    have htc := ht t (List.mem_of_getElem? hx)
    refine ⟨_, rfl, fun _ => ?_, fun h => Bool.noConfusion h⟩
    refine ⟨cs.map natD, (t : Int), natD (gC cs t), rfl, rfl, L2.atI_nat (by rw [List.getElem?_map, getD_at (x := 0) htc]; rfl), _, rfl, rfl, ?_, ?_, rfl⟩
    · rw [List.length_map]
      exact big_lt (Nat.le_trans (List.length_take_le' _ _) (by omega))
    · rw [take_snoc hx, List.map_append]; rfl
  · rintro acc ρ ⟨rfl, rfl⟩
    rw [List.length_map, List.take_length]
    exact ⟨_, rfl, .inr (.inl rfl), hQ⟩
def mcD (dm : D) (st : List (List Nat)) (gd : List Bool) : D := .tup [dm, .lst (st.map rowD), .lst (gd.map D.bl)]
def spLeast : SpD := fun ds P => ∃ (dm : D) (m : Nat) (st : List (List Nat)) (gd : List Bool), ds = [mcD dm st gd] ∧ nol dm = true ∧ StOk st.length m st ∧ gd.length = st.length ∧ 0 < st.length ∧ st.length ≤ 4000 ∧ m ≤ 100 ∧
  ∀ (n' : Nat) (st' : List (List Nat)) (gd' : List Bool), Canon n' m st' gd' → n' ≤ st.length → (∀ w : List Nat, (∀ k ∈ w, k < m) → gG gd' (walkR st' 0 w) = gG gd (walkR st 0 w)) → P (mcD dm st' gd')
theorem ok_least {oc kV doc pm ct : Value} {od an : Option Addr} {osl : Array (Option Value)} {cS PS : Addr} (lk : K.lookup f = some ⟨oc, od, .func (PySem.W.fnOf "least" "least" (defArgs s_least) (defBody s_least) (defScope s_least) .none kV doc pm an (.ref cS) ct), osl⟩)
    (hcd : PySem.W.codeIn K (.ref cS) "least" = true) (TB : LamX.TabB base mg cS PS) (hm : (PS, nmL) ∈ Tabs.T) (hu : ∀ p ∈ Tabs.T, p.1 = PS → p.2 = nmL) (m_enumerate : mg "enumerate" = none) (C_classes_of : Cal P w K mg base "classes_of" 2 (spP K spClasses)) (C_by_coming : Cal P w K mg base "by_coming" 3 (spP K (spComingI (cloQ P w K mg base 2)))) :
    FnOk P w K mg base CX0 5 f (PySem.W.fnOf "least" "least" (defArgs s_least) (defBody s_least) (defScope s_least) .none kV doc pm an (.ref cS) ct) ["machine"] (spP K spLeast) := by
  refine dfnF (N := N_least) (fun X => (NdefX.NF.of st_beyondL "beyond" (X.env.qual ++ "beyond") (cloFrom X.env.cells (C8.fnScope st_beyondL).names []) : Addr → NdefX.NF)) lk hcd sc_least (by decide) (fun ds Q ⟨_, _, _, _, e, _⟩ => by rw [e]; rfl) (fun A outer s H E hr F hF =>
    have D_beyond : DS (cxOf CX0 P w K mg base N_least "least" (defScope s_least) f (.ref cS) A outer s H E).nox st_beyondL (dDef 8 F) := ds_def (nm := nmL) TB hm hu rfl hn_bL rfl fr_bL rfl rfl rfl sc_least.nd rfl (.inl rfl) (.inl rfl) (by rw [hF])
    have hcs : CsOkQ (cxOf CX0 P w K mg base N_least "least" (defScope s_least) f (.ref cS) A outer s H E).nox 2 [none, some (csL F)] := by
      subst hF
      exact ⟨⟨["number"], fun f c' G0 => ok_beyondL⟩, fun c' ok => NdefX.Caps.made ok fr_bL in_bL rfl, True.intro⟩
    (dss_cons (ds_unp (de_nameF 0) (dg_tup rfl (dgs_cons (i := 1) sc_least.nd (dgs_cons (i := 2) sc_least.nd (dgs_cons (i := 3) sc_least.nd dgs_nil))) (fun h => pg_tup rfl h)))
  (dss_cons (ds_set (i := 4) (de_call C_classes_of hr (by omega) (da_cons (de_name 2) (da_cons (de_name 3) da_nil))) sc_least.nd)
  (dss_cons (ds_set (i := 5) (de_dcEn (i := 6) (j := 7) rfl sc_least.nd m_enumerate (da_cons (de_name 4) da_nil) (blkOk_by (own := [("room", 6), ("number", 7)]) (N := N_least) (sc := defScope s_least) (by decide +kernel)) (fun _ _ _ _ _ => pg_tup rfl (pgs_cons (pg_name (i := 6) sc_least.nd rfl (.inl rfl)) (pgs_cons (pg_name (i := 7) sc_least.nd rfl (.inl rfl)) pgs_nil))) (fun _ _ _ _ _ => pv 7) (fun _ _ _ _ _ => pv 6)) sc_least.nd)
  (dss_cons D_beyond
  (dss_cons (ds_unp (de_callWZ (kk := 2) (cloQ P w K mg base 2) (ps := [none, some (csL F)]) C_by_coming hr (by omega) (fun _ => rfl) rfl rfl hcs (da_cons (de_ix (de_name 4) de_int) (da_cons (de_nameF 8) da_nil))) (dg_tup rfl (dgs_cons (i := 9) sc_least.nd (dgs_cons (i := 10) sc_least.nd dgs_nil)) (fun h => pg_tup rfl h)))
  (dss_one (ds_ret (de_tup (da_cons (de_nameF 1) (da_cons (de_nameF 10) (da_cons (de_lc rfl sc_least.nd (di_list (de_nameF 9)) (blkOk_by (own := [("number", 7)]) (N := N_least) (sc := defScope s_least) (by decide +kernel)) (g := (.one 7)) (by decide) (fun _ => (dg_name (i := 7) sc_least.nd)) (fun _ => dts_nil) (fun _ => (de_ix (de_name 3) (de_dgetG hr (de_name 5) (de_name 7))))) da_nil)))))))))))) ?_
  rintro F ds Q ⟨dm, m, st, gd, rfl, hno, ok, hg, hn0, hn, hm', hQ⟩
  refine ⟨_, _, rfl, rfl, ?_⟩
  refine ⟨st, gd, m, rfl, ok, hg, hn, hm', fun cs hcl hcb hce => ⟨by simp [ini], ?_⟩⟩
  show dSeq _ _ _ [.val (mcD dm st gd) .p, .val dm .p, .val (.lst (st.map rowD)) .p, .val (.lst (gd.map D.bl)) .p, .val (.lst (cs.map natD)) .n, .no, .no, .no, .no, .no, .no]
  refine ⟨cs, _, rfl, rfl, by decide, by simp, by simp, by rw [hcl]; exact big_lt (by omega), fun l hl hlk => ⟨by simp, ?_⟩⟩
  show dSeq _ _ _ [.val (mcD dm st gd) .p, .val dm .p, .val (.lst (st.map rowD)) .p, .val (.lst (gd.map D.bl)) .p, .val (.lst (cs.map natD)) .n, .md (ksN l) (dsN l) .z, .no, .no, .no, .no, .no]
  refine ⟨by simp, fun f1 k1 Hd a1 a2 => ?_⟩
  -- a speaker for each class
  have hl0 : 0 < cs.length := by rw [hcl]; exact hn0
  obtain ⟨sp, hsp⟩ : ∃ sp : Nat → Nat, ∀ r, r < st.length → sp (gC cs r) < st.length ∧ gC cs (sp (gC cs r)) = gC cs r ∧ DL.lk (ksN l) (dsN l) (kNt (gC cs r)) = some (intD (sp (gC cs r))) := by
    refine ⟨fun c => match DL.lk (ksN l) (dsN l) (kNt c) with | some (.int i) => i.toNat | _ => 0, fun r hr => ?_⟩
    obtain ⟨s, s1, s2, s3⟩ := hlk r (by rw [hcl]; exact hr)
    have s3 : DL.lk (ksN l) (dsN l) (kNt (gC cs r)) = some (intD s) := s3
    have e : (match DL.lk (ksN l) (dsN l) (kNt (gC cs r)) with | some (.int i) => i.toNat | _ => 0) = s := by rw [s3]; rfl
    dsimp only
    rw [e, s3]
    exact ⟨by rw [← hcl]; exact s1, s2, rfl⟩
  have hS : ∀ x ∈ (List.range st.length).map (gC cs), ∃ r, r < st.length ∧ x = gC cs r := fun x hx => by
    obtain ⟨r, hr, e⟩ := List.mem_map.mp hx
    exact ⟨r, List.mem_range.mp hr, e.symm⟩
  have h0S : gC cs 0 ∈ (List.range st.length).map (gC cs) := List.mem_map.mpr ⟨0, List.mem_range.mpr hn0, rfl⟩
  have rowlt : ∀ s, s < st.length → ∀ t ∈ st.getD s [], t < st.length := fun s hs t ht => by
    obtain ⟨k, hk, e⟩ := List.getElem_of_mem ht
    rw [ok.rl _ hs] at hk
    have := dl_at ok hs hk
    rw [List.getElem?_eq_getElem (by rw [ok.rl _ hs]; exact hk), e] at this
    rw [Option.some.inj this]; exact ok.rb _ k hs hk
  have nxin : ∀ x ∈ (List.range st.length).map (gC cs), ∀ p ∈ nxL st cs sp x, p.2 ∈ (List.range st.length).map (gC cs) := fun x hx p hp => by
    obtain ⟨r, hr, rfl⟩ := hS x hx
    obtain ⟨t, ht, rfl⟩ := List.mem_map.mp hp
    exact List.mem_map.mpr ⟨t, List.mem_range.mpr (rowlt _ (hsp r hr).1 t ht), rfl⟩
  refine ⟨cs.map natD, 0, natD (gC cs 0), rfl, rfl, L2.atI_nat (j := 0) (by rw [List.getElem?_map, getD_at (x := 0) hl0]; rfl), ?_⟩
  refine fun H0 => ⟨_, .val (.clo a1 a2 ⟨_, _, rfl, by simp, rfl, _, _, rfl, by simp, rfl, _, _, rfl, by simp, rfl, rfl⟩ (fun es Pd ⟨_, _, _, _, _, _, e, _⟩ => by rw [e]; rfl) .nil), nxL st cs sp, gC cs 0, (List.range st.length).map (gC cs), H0, _, rfl, h0S, by rw [List.length_map, List.length_range]; omega, ?_, ?_⟩
  · intro x hx
    obtain ⟨r, hr, rfl⟩ := hS x hx
    obtain ⟨s1, s2, s3⟩ := hsp r hr
    have hrl := ok.rl _ s1
    refine ⟨?_, nxin _ hx, fun P hP => ⟨cs, l, st, gC cs r, sp (gC cs r), rfl, rfl, s3, s1, by omega, fun t ht => by rw [hcl]; exact rowlt _ s1 t ht, ?_⟩⟩
    · unfold nxL
      rw [List.length_map]; omega
    · unfold nxL at hP
      rw [List.map_map] at hP
      exact hP
  · intro K hK
    have hWl : (W (nxL st cs sp) (gC cs 0) K).length ≤ st.length := by
      have := W_len (nx := nxL st cs sp) (s0 := gC cs 0) h0S (fun x hx p hp => nxin x hx p hp) K
      rwa [List.length_map, List.length_range] at this
    have hWi := W_in (S := fun x => x ∈ (List.range st.length).map (gC cs)) (nx := nxL st cs sp) (s0 := gC cs 0) h0S (fun x hx p hp => nxin x hx p hp) K
    obtain ⟨q1, q2⟩ := least_math (K := K) ok hn0 hce (fun r hr => ⟨(hsp r hr).1, (hsp r hr).2.1⟩) hK
    have hQK := hQ _ _ _ q1 hWl q2
    generalize W (nxL st cs sp) (gC cs 0) K = L at *
    refine ⟨?_, ?_⟩
    · show (noCs (txI L) && (noCs ((rowsW (nxL st cs sp) L).map rowD) && true)) = true
      have : noCs (txI L) = true := by
        unfold txI
        have := noC_natL (l := L.map (·.rm))
        rwa [List.map_map] at this
      rw [this, noC_rowsL]; rfl
    refine ⟨_, _, rfl, rfl, ?_⟩
    dsimp only
    show dRet _ _ [.val (mcD dm st gd) .p, .val dm .p, .val (.lst (st.map rowD)) .p, .val (.lst (gd.map D.bl)) .p, .val (.lst (cs.map natD)) .n, .md (ksN l) (dsN l) .z, .no, .no, .val (.clo Hd fun v => v = V.ref f1) .n, .val (.lst (txI L)) .n, .val (.lst ((rowsW (nxL st cs sp) L).map rowD)) .n]
    refine ⟨rfl, .z, fun i acc ρ => acc = (L.take i).map (fun e => .bl (gG gd (sp e.rm))) ∧ ρ = [.val (mcD dm st gd) .p, .val dm .p, .val (.lst (st.map rowD)) .p, .val (.lst (gd.map D.bl)) .p, .val (.lst (cs.map natD)) .n, .md (ksN l) (dsN l) .z, .no, .no, .val (.clo Hd fun v => v = V.ref f1) .n, .val (.lst (txI L)) .n, .val (.lst ((rowsW (nxL st cs sp) L).map rowD)) .n], ⟨rfl, rfl⟩, ?_, ?_⟩
    · rintro i d acc ρ hd ⟨rfl, rfl⟩
      rw [List.getElem?_map] at hd
      obtain ⟨e, hx, rfl⟩ := Option.map_eq_some_iff.mp hd
      obtain ⟨r, hr, er⟩ := hS _ (hWi e (List.mem_of_getElem? hx))
      obtain ⟨s1, s2, s3⟩ := hsp r hr
      rw [← er] at s1 s3
      refine ⟨_, rfl, fun _ => ?_, fun h => Bool.noConfusion h⟩
      refine ⟨.k (ksN l) (dsN l), intD (sp e.rm), rfl, congrArg some s3, gd.map D.bl, (sp e.rm : Int), .bl (gG gd (sp e.rm)), rfl, rfl, L2.atI_nat (by rw [List.getElem?_map, getD_at (x := false) (by rw [hg]; exact s1)]; rfl), _, rfl, rfl, ?_, ?_, rfl⟩
      · rw [List.length_map]
        exact big_lt (Nat.le_trans (List.length_take_le' _ _) (by omega))
      · rw [take_snoc hx, List.map_append]; rfl
    · rintro acc ρ ⟨rfl, rfl⟩
      rw [show (txI L).length = L.length from List.length_map .., List.take_length]
      refine ⟨_, rfl, ?_, ?_⟩
      · show frOk (fmin (fup _ dm) (fmin (fup _ (.lst _)) (fmin (fup _ (.lst _)) .z))) _ = true
        have e1 : ∀ f, fup f dm = .z := fun f => by unfold fup; rw [if_pos hno]
        rw [e1]
        have e2 : ∀ xs, fup .n (.lst xs) = .n := fun xs => by unfold fup; rw [if_neg (by unfold nol; decide)]
        have e3 : ∀ xs, fup .h (.lst xs) = .h := fun xs => by unfold fup; rw [if_neg (by unfold nol; decide)]
        show frOk (fmin .z (fmin (fup .h (.lst ((rowsW (nxL st cs sp) L).map rowD))) (fmin (fup .n (.lst (L.map fun e => D.bl (gG gd (sp e.rm))))) .z))) _ = true
        rw [e3, e2]; rfl
      · have e : (gdL gd sp L).map D.bl = L.map fun e => D.bl (gG gd (sp e.rm)) := by unfold gdL; rw [List.map_map]; rfl
        rw [← e]
        exact hQK
end
end M

namespace M
open PySem L2 DL
variable [Tabs]
theorem inF_nat {t : Nat} : ∀ {N : List Nat}, inF (natD t) (N.map natD) = decide (t ∈ N)
  | [] => by simp [inF]
  | r :: N => by
    have ih := inF_nat (t := t) (N := N)
    unfold inF at ih ⊢
    rw [List.map_cons, List.any_cons, ih]
    have : DL.eqF (natD r) (natD t) = decide (r = t) := by
      show ((r : Int) == (t : Int)) = _
      by_cases h : r = t
      · subst h; simp
      · rw [decide_eq_false h]; exact beq_false_of_ne (by omega)
    rw [this]
    by_cases h : r = t
    · subst h; simp
    · have h2 : ¬ t = r := fun z => h z.symm
      simp [h, h2]
theorem nat_flat : ∀ {N : List Nat}, (N.map natD).all flat = true
  | [] => rfl
  | r :: N => by rw [List.map_cons, List.all_cons, nat_flat]; rfl
theorem txI_nat {L : List (Ent Nat)} : txI L = (L.map (·.rm)).map natD := by unfold txI; rw [List.map_map]; rfl
section
variable {P : Program} {w : World} {K : PySem.W.Frag} {mg : Str → Option Value} {base : Heap} {f : Addr} {fd : FuncData}
/- _law_by_coming: 0 _law_machine_here, 1 _law_met, 2 _law_place, 3 _law_room -/
abbrev s_l_by_coming : Stmt := top 17
abbrev N_l_by_coming : List Str := ["_law_machine_here", "_law_met", "_law_place", "_law_room"]
theorem sc_l_by_coming : FnScope N_l_by_coming ["_law_machine_here"] (defScope s_l_by_coming) := ⟨rfl, rfl, rfl, by decide +kernel, rfl, by decide +kernel, by decide +kernel⟩
def spByC : SpD := fun ds P => ∃ (dm : D) (n m : Nat) (st : List (List Nat)) (gd : List Bool), ds = [mcD dm st gd] ∧ Canon n m st gd ∧ n ≤ 100000 ∧ m ≤ 1000 ∧ P (.bl true)
theorem ok_lbyc (F : Fun K "_law_by_coming" "_law_by_coming" s_l_by_coming f fd) (m_len : mg "len" = none) (m_list : mg "list" = none) (m_range : mg "range" = none) : FnOk P w K mg base CX0 1 f fd ["_law_machine_here"] (spP K spByC) := by
  refine dfn (N := N_l_by_coming) F sc_l_by_coming (by decide) (fun ds Q ⟨_, _, _, _, _, e, _⟩ => by rw [e]; rfl) (fun cdv A outer s H E hr => (dss_cons (ds_set (i := 1) (de_lst (da_cons de_int da_nil)) sc_l_by_coming.nd)
  (dss_cons (ds_set (i := 2) de_int sc_l_by_coming.nd)
  (dss_cons (ds_while (dt_lt (de_name 2) (de_len m_len (da_cons (de_name 1) da_nil)))
  (dss_cons (ds_for (di_list (de_ix (de_ix (de_name 0) de_int) (de_ix (de_name 1) (de_name 2)))) (dg_name (i := 3) sc_l_by_coming.nd)
  (dss_one (ds_if (dt_notin (de_name 3) (de_name 1))
  (dss_one (ds_app (m := 1) (de_nameF 3)))
  dss_nil)) (fun hg hi hb => ps_for PassesOwn.never rfl hi hg hb))
  (dss_one (ds_set (i := 2) (de_add (de_name 2) de_int) sc_l_by_coming.nd))) (fun hc hb => ps_while PassesOwn.never hc hb))
  (dss_one (ds_ret (de_eq hr (de_name 1) (de_listRg rfl m_list m_range (de_len m_len (da_cons (de_ix (de_name 0) de_int) da_nil)))))))))) ?_
  rintro ds Q ⟨dm, n, m, st, gd, rfl, cn, hn, hm, hQ⟩
  have h0S : 0 ∈ List.range n := List.mem_range.mpr cn.n0
  have hsS : ∀ x ∈ List.range n, ∀ p ∈ nxS st x, p.2 ∈ List.range n := fun x hx p hp => by
    obtain ⟨i, hi, e⟩ := List.getElem_of_mem hp
    obtain ⟨h1, h2⟩ := (nxS_at cn.ok (List.mem_range.mp hx)).2 i p (by rw [List.getElem?_eq_getElem hi, e])
    rw [h2]; exact List.mem_range.mpr (cn.ok.rb x i (List.mem_range.mp hx) h1)
  have hle : ∀ k, (W (nxS st) 0 k).length ≤ n := fun k => by
    have := W_len (nx := nxS st) (s0 := 0) h0S hsS k
    rwa [List.length_range] at this
  have hin : ∀ k, ∀ e ∈ W (nxS st) 0 k, e.rm < n := fun k e he => List.mem_range.mp (W_in (S := fun x => x ∈ List.range n) (nx := nxS st) h0S hsS k e he)
  refine ⟨by simp [ini], by simp [ini], ?_⟩
  refine ⟨fun a ρ => ∃ (k : Nat) (g g2 : Fr) (b3 : Sl), a = n - k ∧ k ≤ (W (nxS st) 0 k).length ∧ ρ = [.val (mcD dm st gd) .p, .ml (txI (W (nxS st) 0 k)) g, .val (natD k) g2, b3], ⟨n, 0, _, _, _, rfl, Nat.zero_le _, rfl⟩, ?_⟩
  rintro a ρ ⟨k, g, g2, b3, rfl, hk, rfl⟩
  have ltx : (txI (W (nxS st) 0 k)).length = (W (nxS st) 0 k).length := List.length_map ..
  refine ⟨_, rfl, True.intro, _, rfl, fun z => ?_, fun z => ?_⟩
  · have hlt : k < (W (nxS st) 0 k).length := by
      have := of_decide_eq_true z
      rw [ltx] at this
      omega
    obtain ⟨e, he⟩ : ∃ e, (W (nxS st) 0 k)[k]? = some e := ⟨_, List.getElem?_eq_getElem hlt⟩
    have hen := hin k e (List.mem_of_getElem? he)
    have her : e.rm < st.length := by rw [cn.ok.len]; exact hen
    refine ⟨_, 1, .lst (st.map rowD), rfl, rfl, rfl, txI (W (nxS st) 0 k), (k : Int), natD e.rm, rfl, rfl, L2.atI_nat (by rw [List.getElem?_map, he]; rfl), st.map rowD, (e.rm : Int), rowD (st.getD e.rm []), rfl, rfl, L2.atI_nat (by rw [List.getElem?_map, getD_at (x := []) her]; rfl), ?_⟩
    refine ⟨fun j ρ => ∃ (g : Fr) (b3 : Sl), ρ = [.val (mcD dm st gd) .p, .ml (txI (addP e ((nxS st e.rm).take j) (W (nxS st) 0 k))) g, .val (natD k) g2, b3], ⟨g, b3, rfl⟩, ?_, ?_⟩
    · rintro j d ρ hd ⟨g, b3, rfl⟩
      rw [List.getElem?_map] at hd
      obtain ⟨t, ht, rfl⟩ := Option.map_eq_some_iff.mp hd
      have hp : (nxS st e.rm)[j]? = some (D.non, t) := by unfold nxS; rw [List.getElem?_map, ht]; rfl
      have htake : (nxS st e.rm).take (j + 1) = (nxS st e.rm).take j ++ [(D.non, t)] := by rw [List.take_add_one, hp]; rfl
      have hLl : (addP e ((nxS st e.rm).take j) (W (nxS st) 0 k)).length ≤ 200000 := by
        have h1 := addP_lenG (e := e) (ps := (nxS st e.rm).take j) (L := W (nxS st) 0 k)
        have h2 := List.length_take_le' j (nxS st e.rm)
        have h3 := (nxS_at cn.ok hen).1
        have := hle k
        omega
      refine ⟨_, rfl, _, rfl, rfl, by rw [txI_nat]; exact nat_flat, _, rfl, fun z => ?_, fun z => ?_⟩
      · have z : (true ^^ inF (natD t) (txI (addP e ((nxS st e.rm).take j) (W (nxS st) 0 k)))) = true := z
        rw [txI_nat, inF_nat] at z
        have hnt : t ∉ (addP e ((nxS st e.rm).take j) (W (nxS st) 0 k)).map (·.rm) := by simpa using z
        refine ⟨rfl, _, rfl, by rw [List.length_map]; exact big_lt (by omega), ?_⟩
        rcases add_casesG (L := addP e ((nxS st e.rm).take j) (W (nxS st) 0 k)) (e := e) (m := D.non) (t := t) with ⟨h1, _⟩ | ⟨_, h2⟩
        · exact absurd h1 hnt
        · show ∃ (g : Fr) (b3 : Sl), _ = [Sl.val (mcD dm st gd) .p, .ml (txI (addP e ((nxS st e.rm).take (j + 1)) (W (nxS st) 0 k))) g, .val (natD k) g2, b3]
          rw [htake, addP_snoc, h2]
          unfold txI
          rw [List.map_append]; exact ⟨_, _, rfl⟩
      · have z : (true ^^ inF (natD t) (txI (addP e ((nxS st e.rm).take j) (W (nxS st) 0 k)))) = false := z
        rw [txI_nat, inF_nat] at z
        have hnt : t ∈ (addP e ((nxS st e.rm).take j) (W (nxS st) 0 k)).map (·.rm) := by simpa using z
        rcases add_casesG (L := addP e ((nxS st e.rm).take j) (W (nxS st) 0 k)) (e := e) (m := D.non) (t := t) with ⟨_, h2⟩ | ⟨h1, _⟩
        · show ∃ (g : Fr) (b3 : Sl), _ = [Sl.val (mcD dm st gd) .p, .ml (txI (addP e ((nxS st e.rm).take (j + 1)) (W (nxS st) 0 k))) g, .val (natD k) g2, b3]
          rw [htake, addP_snoc, h2]; exact ⟨_, _, rfl⟩
        · exact absurd hnt h1
    · rintro ρ ⟨g, b3, rfl⟩
      have el : ((st.getD e.rm []).map natD).length = (nxS st e.rm).length := by unfold nxS; rw [List.length_map, List.length_map]
      rw [el, List.take_length, ← W_nextG he]
      have hk1 := (List.getElem?_eq_some_iff.mp (W_get (Nat.le_succ k) he)).1
      refine ⟨by simp, n - (k + 1), by have := hle k; omega, k + 1, _, _, _, rfl, hk1, rfl⟩
  · have hge : (W (nxS st) 0 k).length ≤ k := by
      have := of_decide_eq_false z
      rw [ltx] at this
      omega
    have eW : txI (W (nxS st) 0 k) = (List.range n).map natD := by
      rw [txI_nat]
      have b := cn.by_ (max n k) (Nat.le_max_left _ _)
      have := W_end hge (max n k - k)
      rw [show k + (max n k - k) = max n k by omega] at this
      rw [this] at b
      rw [b]
    refine ⟨_, 1, .lst (st.map rowD), rfl, rfl, rfl, _, rfl, n, ?_, by omega, ?_⟩
    · show D.int ((st.map rowD).length : Int) = _
      rw [List.length_map, cn.ok.len]
    · have cm : cmpN 1 (.lst ((List.range n).map natD)) := cmpN_lst (n := 0) fun d hd => by
        obtain ⟨i, _, rfl⟩ := List.mem_map.mp hd
        exact natD_cmp
      have ca : cmpOk (.lst (txI (W (nxS st) 0 k))) = true := by rw [eW]; exact cm.ok
      refine ⟨both_of ca cm.ok, _, rfl, rfl, ?_⟩
      show Q (.bl (false ^^ eqD (.lst (txI (W (nxS st) 0 k))) (.lst ((List.range n).map natD))))
      rw [eqT (by rw [eW]; exact eqD_refl cm.1)]
      exact hQ
end
end M

namespace M
open PySem L2 DL
variable [Tabs]
/-! ### pairs of rooms -/
abbrev Pr := Nat × Nat
def pT (p : Pr) : D := .tup [natD p.1, natD p.2]
theorem pT_cmp {n : Nat} {p : Pr} : cmpN (n + 1) (pT p) := cmpN_tup fun d hd => by
  simp at hd
  rcases hd with rfl | rfl <;> exact natD_cmp
theorem pT_eq {p q : Pr} : eqD (pT p) (pT q) = decide (p = q) := by
  obtain ⟨a, b⟩ := p
  obtain ⟨x, y⟩ := q
  show (eqD (.int a) (.int x) && (eqD (.int b) (.int y) && true)) = _
  rw [eqD_int, eqD_int, Bool.and_true]
  by_cases h1 : a = x
  · by_cases h2 : b = y
    · subst h1 h2; simp
    · have : ¬ ((b : Int) = (y : Int)) := by omega
      simp [this, h2]
  · have : ¬ ((a : Int) = (x : Int)) := by omega
    simp [this, h1]
abbrev mxT (L : List (Ent Pr)) : List D := L.map fun e => pT e.rm
theorem any_pT {L : List (Ent Pr)} {t : Pr} : ((mxT L).any fun z => eqD z (pT t)) = decide (t ∈ L.map (·.rm)) := by
  rw [Bool.eq_iff_iff, List.any_eq_true, decide_eq_true_eq, List.mem_map]
  constructor
  · rintro ⟨z, hz, h⟩
    obtain ⟨e, he, rfl⟩ := List.mem_map.mp hz
    rw [pT_eq] at h
    exact ⟨e, he, of_decide_eq_true h⟩
  · rintro ⟨e, he, rfl⟩
    exact ⟨pT e.rm, List.mem_map.mpr ⟨e, he, rfl⟩, by rw [pT_eq]; simp⟩
theorem mxT_cmp {L : List (Ent Pr)} : cmpOk (.lst (mxT L)) = true := (cmpN_lst (n := 1) fun d hd => by
  obtain ⟨e, _, rfl⟩ := List.mem_map.mp hd
  exact pT_cmp).ok
def nxQ (m : Nat) (s1 s2 : List (List Nat)) (p : Pr) : List (D × Pr) := (List.range m).map fun k => (D.non, (dl s1 p.1 k, dl s2 p.2 k))
def allQ (n1 n2 : Nat) : List Pr := (List.range n1).flatMap fun a => (List.range n2).map fun b => (a, b)
theorem mem_allQ {n1 n2 : Nat} {p : Pr} : p ∈ allQ n1 n2 ↔ p.1 < n1 ∧ p.2 < n2 := by
  obtain ⟨a, b⟩ := p
  unfold allQ
  simp only [List.mem_flatMap, List.mem_range, List.mem_map, Prod.mk.injEq]
  constructor
  · rintro ⟨x, hx, y, hy, rfl, rfl⟩; exact ⟨hx, hy⟩
  · rintro ⟨h1, h2⟩; exact ⟨a, h1, b, h2, rfl, rfl⟩
theorem allQ_len {n1 n2 : Nat} : (allQ n1 n2).length = n1 * n2 := by
  unfold allQ
  induction n1 with
  | zero => simp
  | succ n ih => rw [List.range_succ, List.flatMap_append, List.length_append, ih, List.flatMap_singleton, List.length_map, List.length_range, Nat.succ_mul]
theorem nxQ_at {m : Nat} {s1 s2 : List (List Nat)} {p : Pr} {k : Nat} (hk : k < m) : (nxQ m s1 s2 p)[k]? = some (D.non, (dl s1 p.1 k, dl s2 p.2 k)) := by
  unfold nxQ
  rw [List.getElem?_map, List.getElem?_range hk]; rfl
theorem gG_at {gd : List Bool} {r : Nat} (h : r < gd.length) : atI (gd.map D.bl) (r : Int) = some (.bl (gG gd r)) := by
  refine atI_nat ?_
  rw [List.getElem?_map]
  unfold gG
  rw [getD_at (x := false) h]; rfl
theorem row_atS {st : List (List Nat)} {r : Nat} (h : r < st.length) : atI (st.map rowD) (r : Int) = some (rowD (st.getD r [])) := by
  refine atI_nat ?_
  rw [List.getElem?_map, getD_at (x := []) h]; rfl
theorem dl_atD {n m : Nat} {st : List (List Nat)} (ok : StOk n m st) {r k : Nat} (hr : r < n) (hk : k < m) : atI ((st.getD r []).map natD) (k : Int) = some (natD (dl st r k)) := by
  refine atI_nat ?_
  rw [List.getElem?_map, dl_at ok hr hk]; rfl
theorem bl_refl {i j : Bool} (h : i = j) : eqD (.bl i) (.bl j) = true := by rw [eqD_bl]; exact decide_eq_true h
theorem neN {i j : Nat} (h : ¬ i = j) : ¬ ((i : Int) = (j : Int)) := by omega
section
variable {P : Program} {w : World} {K : PySem.W.Frag} {mg : Str → Option Value} {base : Heap} {f : Addr} {fd : FuncData}
/- _law_same_rows: 0 _law_one, 1 _law_other, 2 _law_met, 3 _law_place, 4 _law_left, 5 _law_right, 6 _law_k, 7 _law_pair -/
abbrev s_l_same_rows : Stmt := top 18
abbrev N_l_same_rows : List Str := ["_law_one", "_law_other", "_law_met", "_law_place", "_law_left", "_law_right", "_law_k", "_law_pair"]
theorem sc_l_same_rows : FnScope N_l_same_rows ["_law_one", "_law_other"] (defScope s_l_same_rows) := ⟨rfl, rfl, rfl, by decide +kernel, rfl, by decide +kernel, by decide +kernel⟩
def spSame : SpD := fun ds P => ∃ (ms : List D) (dm2 : D) (st st2 : List (List Nat)) (gd gd2 : List Bool), ds = [mcD (.tux ms) st gd, mcD dm2 st2 gd2] ∧ StOk st.length ms.length st ∧ gd.length = st.length ∧ 0 < st.length ∧
  StOk st2.length ms.length st2 ∧ gd2.length = st2.length ∧ 0 < st2.length ∧ st.length * st2.length ≤ 900000 ∧ ms.length ≤ 1000 ∧ (∀ w : List Nat, (∀ k ∈ w, k < ms.length) → gG gd (walkR st 0 w) = gG gd2 (walkR st2 0 w)) ∧ P (.bl true)
theorem ok_lsame (F : Fun K "_law_same_rows" "_law_same_rows" s_l_same_rows f fd) (m_len : mg "len" = none) (m_range : mg "range" = none) : FnOk P w K mg base CX0 1 f fd ["_law_one", "_law_other"] (spP K spSame) := by
  refine dfn (N := N_l_same_rows) F sc_l_same_rows (by decide) (fun ds Q ⟨_, _, _, _, _, _, e, _⟩ => by rw [e]; rfl) (fun cdv A outer s H E hr => (dss_cons (ds_set (i := 2) (de_lst (da_cons (de_tup (da_cons de_int (da_cons de_int da_nil))) da_nil)) sc_l_same_rows.nd)
  (dss_cons (ds_set (i := 3) de_int sc_l_same_rows.nd)
  (dss_cons (ds_while (dt_lt (de_name 3) (de_len m_len (da_cons (de_name 2) da_nil)))
  (dss_cons (ds_unp (de_ix (de_name 2) (de_name 3)) (dg_tup rfl (dgs_cons (i := 4) sc_l_same_rows.nd (dgs_cons (i := 5) sc_l_same_rows.nd dgs_nil)) (fun h => pg_tup rfl h)))
  (dss_cons (ds_if (dt_ne hr (de_ix (de_ix (de_name 0) de_int) (de_name 4)) (de_ix (de_ix (de_name 1) de_int) (de_name 5)))
  (dss_one (ds_ret de_bl))
  dss_nil)
  (dss_cons (ds_for (di_range1 m_range (da_cons (de_len m_len (da_cons (de_ix (de_name 0) de_int) da_nil)) da_nil)) (dg_name (i := 6) sc_l_same_rows.nd)
  (dss_cons (ds_set (i := 7) (de_tup (da_cons (de_ix (de_ix (de_ix (de_name 0) de_int) (de_name 4)) (de_name 6)) (da_cons (de_ix (de_ix (de_ix (de_name 1) de_int) (de_name 5)) (de_name 6)) da_nil))) sc_l_same_rows.nd)
  (dss_one (ds_if (dt_notinD hr (de_name 7) (de_name 2))
  (dss_one (ds_app (m := 2) (de_nameF 7)))
  dss_nil))) (fun hg hi hb => ps_for PassesOwn.never rfl hi hg hb))
  (dss_one (ds_set (i := 3) (de_add (de_name 3) de_int) sc_l_same_rows.nd))))) (fun hc hb => ps_while PassesOwn.never hc hb))
  (dss_one (ds_ret de_bl)))))) ?_
  rintro ds Q ⟨ms, dm2, st, st2, gd, gd2, rfl, o1, g1, n1, o2, g2, n2, hb, hm, heq, hQ⟩
  refine ⟨by simp [ini], by simp [ini], ?_⟩
  have h0 : ((0, 0) : Pr) ∈ allQ st.length st2.length := mem_allQ.mpr ⟨n1, n2⟩
  have hs : ∀ x ∈ allQ st.length st2.length, ∀ p ∈ nxQ ms.length st st2 x, p.2 ∈ allQ st.length st2.length := fun x hx p hp => by
    obtain ⟨q1, q2⟩ := mem_allQ.mp hx
    obtain ⟨k, hk, rfl⟩ := List.mem_map.mp hp
    have hk := List.mem_range.mp hk
    exact mem_allQ.mpr ⟨o1.rb _ _ q1 hk, o2.rb _ _ q2 hk⟩
  have hle : ∀ k, (W (nxQ ms.length st st2) (0, 0) k).length ≤ st.length * st2.length := fun k => by
    rw [← allQ_len]; exact W_len h0 hs k
  have hin : ∀ k, ∀ e ∈ W (nxQ ms.length st st2) (0, 0) k, e.rm ∈ allQ st.length st2.length := W_in (S := fun x => x ∈ allQ st.length st2.length) h0 hs
  have hwd : ∀ k, ∀ e ∈ W (nxQ ms.length st st2) (0, 0) k, ∃ w : List Nat, (∀ k ∈ w, k < ms.length) ∧ e.rm = (walkR st 0 w, walkR st2 0 w) := W_in (S := fun x => ∃ w : List Nat, (∀ k ∈ w, k < ms.length) ∧ x = (walkR st 0 w, walkR st2 0 w)) ⟨[], (fun k z => by cases z), rfl⟩ fun x hx p hp => by
    obtain ⟨w, hw, rfl⟩ := hx
    obtain ⟨k, hk, rfl⟩ := List.mem_map.mp hp
    have hk := List.mem_range.mp hk
    refine ⟨w ++ [k], fun j hj => ?_, ?_⟩
    · rcases List.mem_append.mp hj with h | h
      · exact hw j h
      · rw [List.mem_singleton.mp h]; exact hk
    · unfold walkR; rw [List.foldl_append, List.foldl_append]; rfl
  refine ⟨fun n ρ => ∃ (k : Nat) (f3 : Fr) (b4 b5 b6 b7 : Sl), n = st.length * st2.length - k ∧ k ≤ (W (nxQ ms.length st st2) (0, 0) k).length ∧ ρ = [.val (mcD (.tux ms) st gd) .p, .val (mcD dm2 st2 gd2) .p, .ml (mxT (W (nxQ ms.length st st2) (0, 0) k)) .z, .val (natD k) f3, b4, b5, b6, b7], ⟨_, 0, _, _, _, _, _, rfl, Nat.zero_le _, rfl⟩, ?_⟩
  rintro n ρ ⟨k, f3, b4, b5, b6, b7, rfl, hk, rfl⟩
  have hleS := hle k
  refine ⟨_, rfl, True.intro, _, rfl, fun z => ?_, fun z => ?_⟩
  · have hlt : k < (W (nxQ ms.length st st2) (0, 0) k).length := by
      have := of_decide_eq_true z
      rw [List.length_map] at this
      omega
    obtain ⟨e, he⟩ : ∃ e, (W (nxQ ms.length st st2) (0, 0) k)[k]? = some e := ⟨_, List.getElem?_eq_getElem hlt⟩
    have hem := List.mem_of_getElem? he
    obtain ⟨q1, q2⟩ := mem_allQ.mp (hin k e hem)
    obtain ⟨wd, hw, ew⟩ := hwd k e hem
    have hat : atI (mxT (W (nxQ ms.length st st2) (0, 0) k)) (k : Int) = some (pT e.rm) := atI_nat (by rw [List.getElem?_map, he]; rfl)
    have hgg : gG gd e.rm.1 = gG gd2 e.rm.2 := by rw [ew]; exact heq wd hw
    refine ⟨_, _, _, rfl, rfl, hat, _, _, rfl, rfl, ?_⟩
    show dSeq _ _ _ [.val (mcD (.tux ms) st gd) .p, .val (mcD dm2 st2 gd2) .p, .ml (mxT (W (nxQ ms.length st st2) (0, 0) k)) .z, .val (natD k) f3, .val (natD e.rm.1) .z, .val (natD e.rm.2) .z, b6, b7]
    refine ⟨_, 2, .lst (gd.map D.bl), rfl, rfl, rfl, _, _, _, rfl, rfl, gG_at (by rw [g1]; exact q1), _, 2, .lst (gd2.map D.bl), rfl, rfl, rfl, _, _, _, rfl, rfl, gG_at (by rw [g2]; exact q2), both_of (cmpN_bl (n := 0)).ok (cmpN_bl (n := 0)).ok, false, neF (bl_refl hgg), fun z => Bool.noConfusion z, fun _ => ?_⟩
    have hnl : (nxQ ms.length st st2 e.rm).length = ms.length := by unfold nxQ; rw [List.length_map, List.length_range]
    refine ⟨_, 0, .tux ms, rfl, rfl, rfl, _, rfl, _, rfl, ⟨by omega, by omega⟩, ?_⟩
    refine ⟨fun j ρ => ∃ (b6 b7 : Sl), ρ = [.val (mcD (.tux ms) st gd) .p, .val (mcD dm2 st2 gd2) .p, .ml (mxT (addP e ((nxQ ms.length st st2 e.rm).take j) (W (nxQ ms.length st st2) (0, 0) k))) .z, .val (natD k) f3, .val (natD e.rm.1) .z, .val (natD e.rm.2) .z, b6, b7], ⟨_, _, rfl⟩, ?_, ?_⟩
    · rintro j d ρ hd ⟨b6, b7, rfl⟩
      obtain ⟨hj, rfl⟩ := upto_at hd
      rw [Int.toNat_natCast] at hj
      have htake : (nxQ ms.length st st2 e.rm).take (j + 1) = (nxQ ms.length st st2 e.rm).take j ++ [(D.non, (dl st e.rm.1 j, dl st2 e.rm.2 j))] := by rw [List.take_add_one, nxQ_at hj]; rfl
      have lL : (addP e ((nxQ ms.length st st2 e.rm).take j) (W (nxQ ms.length st st2) (0, 0) k)).length ≤ 950000 := by
        have h1 := addP_lenG (e := e) (ps := (nxQ ms.length st st2 e.rm).take j) (L := W (nxQ ms.length st st2) (0, 0) k)
        have h2 := List.length_take_le' j (nxQ ms.length st st2 e.rm)
        omega
      have hL2 : addP e ((nxQ ms.length st st2 e.rm).take (j + 1)) (W (nxQ ms.length st st2) (0, 0) k) = add (addP e ((nxQ ms.length st st2 e.rm).take j) (W (nxQ ms.length st st2) (0, 0) k)) e D.non (dl st e.rm.1 j, dl st2 e.rm.2 j) := by rw [htake, addP_snoc]
      generalize addP e ((nxQ ms.length st st2 e.rm).take j) (W (nxQ ms.length st st2) (0, 0) k) = L at lL hL2
      refine ⟨_, rfl, ?_⟩
      refine ⟨_, 1, .lst (st.map rowD), rfl, rfl, rfl, _, _, _, rfl, rfl, row_atS q1, _, _, _, rfl, rfl, dl_atD o1 q1 hj, ?_⟩
      refine ⟨_, 1, .lst (st2.map rowD), rfl, rfl, rfl, _, _, _, rfl, rfl, row_atS q2, _, _, _, rfl, rfl, dl_atD o2 q2 hj, by simp, ?_⟩
      dsimp only
      refine ⟨_, .inl rfl, (pT_cmp (n := 1) (p := (dl st e.rm.1 j, dl st2 e.rm.2 j))).ok, mxT_cmp (L := L), _, rfl, fun z => ?_, fun z => ?_⟩
      · have z : (true ^^ (mxT L).any fun z => eqD z (pT (dl st e.rm.1 j, dl st2 e.rm.2 j))) = true := z
        rw [any_pT, Bool.true_xor, Bool.not_eq_true', decide_eq_false_iff_not] at z
        have ha := (add_casesG (L := L) (e := e) (m := D.non) (t := (dl st e.rm.1 j, dl st2 e.rm.2 j))).resolve_left fun h => z h.1
        have q3 : mxT (addP e ((nxQ ms.length st st2 e.rm).take (j + 1)) (W (nxQ ms.length st st2) (0, 0) k)) = mxT L ++ [pT (dl st e.rm.1 j, dl st2 e.rm.2 j)] := by rw [hL2, ha.2]; unfold mxT; rw [List.map_append]; rfl
        refine ⟨rfl, _, rfl, by rw [List.length_map]; exact big_lt (by omega), ?_⟩
        show ∃ (b6 b7 : Sl), _ = [Sl.val (mcD (.tux ms) st gd) .p, .val (mcD dm2 st2 gd2) .p, .ml (mxT (addP e ((nxQ ms.length st st2 e.rm).take (j + 1)) (W (nxQ ms.length st st2) (0, 0) k))) .z, .val (natD k) f3, .val (natD e.rm.1) .z, .val (natD e.rm.2) .z, b6, b7]
        rw [q3]
        exact ⟨_, _, rfl⟩
      · have z : (true ^^ (mxT L).any fun z => eqD z (pT (dl st e.rm.1 j, dl st2 e.rm.2 j))) = false := z
        rw [any_pT, Bool.true_xor, Bool.not_eq_false', decide_eq_true_eq] at z
        have ha := (add_casesG (L := L) (e := e) (m := D.non) (t := (dl st e.rm.1 j, dl st2 e.rm.2 j))).resolve_right fun h => h.1 z
        have q3 : mxT (addP e ((nxQ ms.length st st2 e.rm).take (j + 1)) (W (nxQ ms.length st st2) (0, 0) k)) = mxT L := by rw [hL2, ha.2]
        show ∃ (b6 b7 : Sl), _ = [Sl.val (mcD (.tux ms) st gd) .p, .val (mcD dm2 st2 gd2) .p, .ml (mxT (addP e ((nxQ ms.length st st2 e.rm).take (j + 1)) (W (nxQ ms.length st st2) (0, 0) k))) .z, .val (natD k) f3, .val (natD e.rm.1) .z, .val (natD e.rm.2) .z, b6, b7]
        rw [q3]
        exact ⟨_, _, rfl⟩
    · rintro ρ ⟨b6, b7, rfl⟩
      have hk1 := (List.getElem?_eq_some_iff.mp (W_get (Nat.le_succ k) he)).1
      rw [upto_len, Int.toNat_natCast, List.take_of_length_le (by rw [hnl]; exact Nat.le_refl _), ← W_nextG he]
      refine ⟨by simp, st.length * st2.length - (k + 1), by omega, k + 1, _, _, _, _, _, rfl, hk1, rfl⟩
  · exact ⟨_, rfl, rfl, hQ⟩
end
end M

namespace M
open PySem L2 DL
variable [Tabs]
section
variable {P : Program} {w : World} {K : PySem.W.Frag} {mg : Str → Option Value} {base : Heap} {f : Addr} {fd : FuncData}
/- _law_doubled: 0 _law_script, 1 _law_tape, 2 _law_machine_here, 3 _law_many, 4 _law_one, 5 _law_steps, 6 _law_row, 7 _law_other, 8 _law_room -/
abbrev s_l_doubled : Stmt := top 20
abbrev N_l_doubled : List Str := ["_law_script", "_law_tape", "_law_machine_here", "_law_many", "_law_one", "_law_steps", "_law_row", "_law_other", "_law_room"]
theorem sc_l_doubled : FnScope N_l_doubled ["_law_script", "_law_tape", "_law_machine_here"] (defScope s_l_doubled) := ⟨rfl, rfl, rfl, by decide +kernel, rfl, by decide +kernel, by decide +kernel⟩
def spDoubled : SpT := fun ds es P => ∃ (ns : List Int) (n : Nat) (c : Mc), ds = [scD ns, c.dt] ∧ es = tp n ∧ n < 900000 ∧ ns.length ≤ 63 ∧ McOk c ∧ c.st.length ≤ 10 ∧ ∀ (c' : Mc) (n' : Nat), McOk c' → c'.ms = c.ms → c'.st.length ≤ 11 → n ≤ n' → n' ≤ n + 100 → P c'.dt (tp n')
theorem ok_doubled (F : Fun K "_law_doubled" "_law_doubled" s_l_doubled f fd) (m_len : mg "len" = none) (C_l_draw : Cal P w K mg base "_law_draw" 1 (spT K 1 spDraw)) : FnOk P w K mg base CX0 2 f fd ["_law_script", "_law_tape", "_law_machine_here"] (spT K 1 spDoubled) := by
  refine dfnT (N := N_l_doubled) F sc_l_doubled (by decide) (by decide) (fun ds es Q ⟨_, _, _, e, _⟩ => by rw [e]; rfl) (fun cdv A outer s H E hr => (dss_cons (ds_set (i := 3) (de_len m_len (da_cons (de_ix (de_name 2) de_int) da_nil)) sc_l_doubled.nd)
  (dss_cons (ds_set (i := 4) (de_mod (de_callT C_l_draw hr (by omega) (da_cons (de_name 0) (da_cons (de_name 1) (da_cons de_int da_nil)))) (de_name 3)) sc_l_doubled.nd)
  (dss_cons (ds_set (i := 5) (de_lst da_nil) sc_l_doubled.nd)
  (dss_cons (ds_for (di_list (de_add (de_ix (de_name 2) de_int) (de_lst (da_cons (de_ix (de_ix (de_name 2) de_int) (de_name 4)) da_nil)))) (dg_name (i := 6) sc_l_doubled.nd)
  (dss_cons (ds_set (i := 7) (de_lst da_nil) sc_l_doubled.nd)
  (dss_cons (ds_for (di_list (de_nameF 6)) (dg_name (i := 8) sc_l_doubled.nd)
  (dss_cons (ds_cut (ds_if (dt_w (dw_and (dt_eq hr (de_name 8) (de_name 4)) (dw_and1 (dt_eq hr (de_callT C_l_draw hr (by omega) (da_cons (de_name 0) (da_cons (de_name 1) (da_cons de_int da_nil)))) de_int))))
  (dss_one (ds_set (i := 8) (de_nameF 3) sc_l_doubled.nd))
  dss_nil))
  (dss_one (ds_app (m := 7) (de_nameF 8)))) (fun hg hi hb => ps_for PassesOwn.never rfl hi hg hb))
  (dss_one (ds_app (m := 5) (de_nameF 7))))) (fun hg hi hb => ps_for PassesOwn.never rfl hi hg hb))
  (dss_one (ds_ret (de_tup (da_cons (de_ix (de_name 2) de_int) (da_cons (de_nameF 5) (da_cons (de_addG (de_ix (de_name 2) de_int) (de_lst (da_cons (de_ix (de_ix (de_name 2) de_int) (de_name 4)) da_nil))) da_nil))))))))))) ?_
  rintro ds es Q ⟨ns, n, c, rfl, rfl, hn, hl, ok, h10, hQ⟩
  have hn0 := ok.n0
  have hml := ok.ml
  refine ⟨_, 1, .lst (c.st.map rowD), rfl, rfl, rfl, _, rfl, by simp [iniT], ?_⟩
  rw [List.length_map]
  refine ⟨rfl, ns, n, 1000, rfl, rfl, by omega, by omega, hl, fun a ha => ?_⟩
  obtain ⟨q, hq, eq⟩ := mod_nat (x := (a : Int)) (m := c.st.length) hn0
  refine ⟨(show (0 : Int) < (c.st.length : Int) by omega), by simp [iniT], by simp [iniT], ?_⟩
  show dSeq _ _ _ [.val (scD ns) .p, .mp 0 (tp (n + 1)), .val c.dt .p, .val (natD c.st.length) .n, .val (.int ((a : Int) % (c.st.length : Int))) .n, .ml [] .z, .no, .no, .no]
  rw [eq]
  have hrow := row_atS (st := c.st) (r := q) hq
  refine ⟨_, 1, .lst (c.st.map rowD), rfl, rfl, rfl, _, 1, .lst (c.st.map rowD), rfl, rfl, rfl, _, _, _, rfl, rfl, hrow, ?_⟩
  have eR : c.st.map rowD ++ [rowD (c.st.getD q [])] = (c.st ++ [c.st.getD q []]).map rowD := by rw [List.map_append]; rfl
  have hR : ∀ r ∈ c.st ++ [c.st.getD q []], r.length = c.ms.length ∧ ∀ x ∈ r, x < c.st.length := fun r h => by
    have hm : r ∈ c.st := by
      rcases List.mem_append.mp h with h | h
      · exact h
      · rw [List.mem_singleton.mp h]; exact (getD_mem hq).1
    exact ⟨ok.rl r hm, ok.rb r hm⟩
  refine ⟨by show (c.st.map rowD).length + 1 ≤ sizeLine; rw [List.length_map]; exact Nat.le_of_lt (len_lt (by omega)), ?_⟩
  refine ⟨fun i ρ => ∃ (sts : List (List Nat)) (k : Nat) (g : Fr) (b6 b7 b8 : Sl), (g = .z ∨ g = .h) ∧ sts.length = i ∧ (∀ r ∈ sts, r.length = c.ms.length ∧ ∀ x ∈ r, x < c.st.length + 1) ∧ n + 1 ≤ k ∧ k ≤ n + 1 + 4 * i ∧ ρ = [.val (scD ns) .p, .mp 0 (tp k), .val c.dt .p, .val (natD c.st.length) .n, .val (natD q) .n, .ml (sts.map rowD) g, b6, b7, b8], ⟨[], n + 1, .z, _, _, _, .inl rfl, rfl, (fun r hr => nomatch hr), by omega, by omega, rfl⟩, ?_, ?_⟩
  · rintro i d ρ hd ⟨sts, k, g, b6, b7, b8, hg, hst, hr, hk1, hk2, rfl⟩
    have hd : (c.st.map rowD ++ [rowD (c.st.getD q [])])[i]? = some d := hd
    rw [eR] at hd
    have hi := (List.getElem?_eq_some_iff.mp hd).1
    rw [List.length_map, List.length_append, List.length_singleton] at hi
    obtain ⟨row, hrow2, rfl⟩ := List.mem_map.mp (List.mem_of_getElem? hd)
    obtain ⟨hrl, hrb⟩ := hR row hrow2
    refine ⟨_, rfl, by simp, ?_⟩
    dsimp only
    refine ⟨fun j ρ => ∃ (r : List Nat) (k' : Nat) (f6 : Fr) (b8 : Sl), r.length = j ∧ (∀ x ∈ r, x < c.st.length + 1) ∧ k ≤ k' ∧ k' ≤ k + j ∧ ρ = [.val (scD ns) .p, .mp 0 (tp k'), .val c.dt .p, .val (natD c.st.length) .n, .val (natD q) .n, .ml (sts.map rowD) g, .val (rowD row) f6, .ml (r.map natD) .z, b8], ⟨[], k, _, _, rfl, (fun r hr => nomatch hr), by omega, by omega, rfl⟩, ?_, ?_⟩
    · rintro j d ρ hd ⟨r, k', f6, b8, rfl, hx, hk3, hk4, rfl⟩
      have hj := (List.getElem?_eq_some_iff.mp hd).1
      rw [List.length_map, hrl] at hj
      obtain ⟨x, hx2, rfl⟩ := List.mem_map.mp (List.mem_of_getElem? hd)
      have hxb := hrb x hx2
      refine ⟨_, rfl, ?_⟩
      refine ⟨fun ρ => ∃ (x : Nat) (k2 : Nat) (f8 : Fr), x < c.st.length + 1 ∧ k' ≤ k2 ∧ k2 ≤ k' + 1 ∧ ρ = [.val (scD ns) .p, .mp 0 (tp k2), .val c.dt .p, .val (natD c.st.length) .n, .val (natD q) .n, .ml (sts.map rowD) g, .val (rowD row) f6, .ml (r.map natD) .z, .val (natD x) f8], ?_, ?_⟩
      · refine ⟨both_of (cmpN_int (n := 0)).ok (cmpN_int (n := 0)).ok, _, rfl, fun z => ?_, fun z => ?_⟩
        · refine ⟨rfl, ns, k', 2, rfl, rfl, by omega, by omega, hl, fun b hb => ⟨rfl, _, rfl, fun z => ?_, fun z => ?_⟩⟩
          · exact ⟨by simp, c.st.length, k' + 1, _, by omega, by omega, by omega, rfl⟩
          · exact ⟨x, k' + 1, _, by omega, by omega, by omega, rfl⟩
        · exact ⟨fun z => Bool.noConfusion z, fun _ => ⟨x, k', _, by omega, by omega, by omega, rfl⟩⟩
      · rintro ρ ⟨y, k2, f8, hy, hk5, hk6, rfl⟩
        refine ⟨rfl, _, rfl, by rw [List.length_map]; exact len_lt (by omega), r ++ [y], k2, f6, .val (natD y) f8, by simp, ?_, by omega, by omega, ?_⟩
        · intro x h
          rcases List.mem_append.mp h with h | h
          · exact hx x h
          · rw [List.mem_singleton.mp h]; exact hy
        · rw [List.map_append]; rfl
    · rintro ρ ⟨r, k', f6, b8, hrl2, hx, hk3, hk4, rfl⟩
      have hrl2 : r.length = c.ms.length := by rw [hrl2, List.length_map, hrl]
      rw [List.length_map, hrl] at hk4
      have hg2 : fmin g (fup .h (.lst (r.map natD))) = .h := by rcases hg with rfl | rfl <;> rfl
      refine ⟨rfl, _, rfl, by rw [List.length_map]; exact len_lt (by omega), sts ++ [r], k', .h, .val (rowD row) f6, .val (.lst (r.map natD)) .n, b8, .inr rfl, by simp [hst], ?_, by omega, by omega, ?_⟩
      · intro r' h
        rcases List.mem_append.mp h with h | h
        · exact hr r' h
        · rw [List.mem_singleton.mp h]; exact ⟨hrl2, hx⟩
      · rw [List.map_append, ← hg2]
        rfl
  · rintro ρ ⟨sts, k, g, b6, b7, b8, hg, hst, hr, hk1, hk2, rfl⟩
    have hlen : (c.st.map rowD ++ [rowD (c.st.getD q [])]).length = c.st.length + 1 := by rw [List.length_append, List.length_map]; rfl
    have hst : sts.length = c.st.length + 1 := by rw [hst]; exact hlen
    have hk2 : k ≤ n + 1 + 4 * (c.st.length + 1) := by rw [← hlen]; exact hk2
    have hgl := ok.gl
    have ok' : McOk ⟨c.ms, sts, c.gd ++ [gG c.gd q]⟩ := ⟨by show 0 < sts.length; omega, by show sts.length ≤ 900; omega, by show (c.gd ++ [gG c.gd q]).length = sts.length; rw [List.length_append, List.length_singleton]; omega, fun r h => (hr r h).1, fun r h x hx => by show x < sts.length; rw [hst]; exact (hr r h).2 x hx, hml, ok.mo⟩
    refine ⟨_, 0, .tux c.ms, rfl, rfl, rfl, ?_⟩
    have hbl : nols (c.gd.map D.bl ++ [D.bl (gG c.gd q)]) = true := by
      have e2 : (c.gd ++ [gG c.gd q]).map D.bl = c.gd.map D.bl ++ [.bl (gG c.gd q)] := by rw [List.map_append]; rfl
      rw [← e2]; exact bls_nol
    refine ⟨_, 2, .lst (c.gd.map D.bl), rfl, rfl, rfl, _, 2, .lst (c.gd.map D.bl), rfl, rfl, rfl, _, _, _, rfl, rfl, gG_at (gd := c.gd) (r := q) (by omega), c.gd.map D.bl, [.bl (gG c.gd q)], .z, rfl, rfl, ?_, .inr ⟨hbl, rfl⟩, ?_⟩
    · show (c.gd.map D.bl).length + 1 ≤ sizeLine
      rw [List.length_map]; exact Nat.le_of_lt (len_lt (by omega))
    have hQ2 := hQ _ k ok' rfl (by show sts.length ≤ 11; omega) (by omega) (by omega)
    have e2 : (c.gd ++ [gG c.gd q]).map D.bl = c.gd.map D.bl ++ [.bl (gG c.gd q)] := by rw [List.map_append]; rfl
    unfold Mc.dt at hQ2
    rw [e2] at hQ2
    refine ⟨_, rfl, ?_, _, rfl, hQ2⟩
    rcases hg with rfl | rfl
    · exact frMc2 ok.mo (by first | exact .inl rfl | exact .inr rfl) (by first | exact .inl rfl | exact .inr rfl)
    · exact frMc2 ok.mo (by first | exact .inl rfl | exact .inr rfl) (by first | exact .inl rfl | exact .inr rfl)
end
end M

namespace M
open PySem L2 DL
variable [Tabs]
section
variable {P : Program} {w : World} {K : PySem.W.Frag} {mg : Str → Option Value} {base : Heap} {f : Addr} {fd : FuncData}
/- _law_told_apart: 0 _law_machine_here, 1 _law_many, 2 _law_told, 3 _law_before, 4 _law_left, 5 _law_right, 6 _law_unlike, 7 _law_k, 8 _law_low, 9 _law_high -/
abbrev s_l_told_apart : Stmt := top 19
abbrev N_l_told_apart : List Str := ["_law_machine_here", "_law_many", "_law_told", "_law_before", "_law_left", "_law_right", "_law_unlike", "_law_k", "_law_low", "_law_high"]
theorem sc_l_told_apart : FnScope N_l_told_apart ["_law_machine_here"] (defScope s_l_told_apart) := ⟨rfl, rfl, rfl, by decide +kernel, rfl, by decide +kernel, by decide +kernel⟩
def spTold : SpD := fun ds P => ∃ (ms : List D) (n : Nat) (st : List (List Nat)) (gd : List Bool), ds = [mcD (.tux ms) st gd] ∧ Canon n ms.length st gd ∧ n ≤ 1000 ∧ ms.length ≤ 1000 ∧ P (.bl true)
theorem ok_ltold (F : Fun K "_law_told_apart" "_law_told_apart" s_l_told_apart f fd) (m_len : mg "len" = none) (m_range : mg "range" = none) (m_min : mg "min" = none) (m_max : mg "max" = none) : FnOk P w K mg base CX0 1 f fd ["_law_machine_here"] (spP K spTold) := by
  refine dfn (N := N_l_told_apart) F sc_l_told_apart (by decide) (fun ds Q ⟨_, _, _, _, e, _⟩ => by rw [e]; rfl) (fun cdv A outer s H E hr => (dss_cons (ds_set (i := 1) (de_len m_len (da_cons (de_ix (de_name 0) de_int) da_nil)) sc_l_told_apart.nd)
  (dss_cons (ds_set (i := 2) de_dnewT sc_l_told_apart.nd)
  (dss_cons (ds_set (i := 3) (de_neg de_int) sc_l_told_apart.nd)
  (dss_cons (ds_while (dt_lt (de_name 3) (de_lenT m_len (da_cons (de_name 2) da_nil)))
  (dss_cons (ds_set (i := 3) (de_lenT m_len (da_cons (de_name 2) da_nil)) sc_l_told_apart.nd)
  (dss_one (ds_for (di_range1 m_range (da_cons (de_name 1) da_nil)) (dg_name (i := 4) sc_l_told_apart.nd)
  (dss_one (ds_for (di_range1 m_range (da_cons (de_name 4) da_nil)) (dg_name (i := 5) sc_l_told_apart.nd)
  (dss_cons (ds_set (i := 6) (de_ne hr (de_ix (de_ix (de_name 0) de_int) (de_name 4)) (de_ix (de_ix (de_name 0) de_int) (de_name 5))) sc_l_told_apart.nd)
  (dss_cons (ds_for (di_range1 m_range (da_cons (de_len m_len (da_cons (de_ix (de_name 0) de_int) da_nil)) da_nil)) (dg_name (i := 7) sc_l_told_apart.nd)
  (dss_cons (ds_set (i := 8) (de_min2 rfl m_min (da_cons (de_ix (de_ix (de_ix (de_name 0) de_int) (de_name 4)) (de_name 7)) (da_cons (de_ix (de_ix (de_ix (de_name 0) de_int) (de_name 5)) (de_name 7)) da_nil))) sc_l_told_apart.nd)
  (dss_cons (ds_set (i := 9) (de_max2 rfl m_max (da_cons (de_ix (de_ix (de_ix (de_name 0) de_int) (de_name 4)) (de_name 7)) (da_cons (de_ix (de_ix (de_ix (de_name 0) de_int) (de_name 5)) (de_name 7)) da_nil))) sc_l_told_apart.nd)
  (dss_one (ds_set (i := 6) (de_orV (de_name 6) (de_one (de_din hr (de_tupK (da_cons (de_nameF 8) (da_cons (de_nameF 9) da_nil))) (de_name 2)))) sc_l_told_apart.nd)))) (fun hg hi hb => ps_for PassesOwn.never rfl hi hg hb))
  (dss_one (ds_if (dt_val (de_name 6))
  (dss_one (ds_dput (m := 2) hr de_bl (de_tupK (da_cons (de_nameF 5) (da_cons (de_nameF 4) da_nil)))))
  dss_nil)))) (fun hg hi hb => ps_for PassesOwn.never rfl hi hg hb))) (fun hg hi hb => ps_for PassesOwn.never rfl hi hg hb)))) (fun hc hb => ps_while PassesOwn.never hc hb))
  (dss_one (ds_ret (de_eq hr (de_lenT m_len (da_cons (de_name 2) da_nil)) (de_fdiv (de_mul (de_name 1) (de_sub (de_name 1) de_int)) de_int))))))))) ?_
  rintro ds Q ⟨ms, n, st, gd, rfl, cn, hn, hm, hQ⟩
  have hl := cn.ok.len
  have hN : (allT n).length ≤ 500000 := by
    have h1 := (allT_len (n := n)).2
    have h2 : n * (n - 1) ≤ 1000 * 1000 := Nat.mul_le_mul hn (by omega)
    omega
  refine ⟨_, 1, .lst (st.map rowD), rfl, rfl, rfl, _, rfl, by simp [ini], by simp [ini], 1, rfl, by simp [ini], ?_⟩
  show dSeq _ _ _ [.val (mcD (.tux ms) st gd) .p, .val (.int ((st.map rowD).length : Nat)) .n, .mt [] [] .z, .val (.int (-1)) .n, .no, .no, .no, .no, .no, .no]
  rw [List.length_map, hl]
  refine ⟨fun x ρ => ∃ (T : List Pr) (b : Int) (g3 g : Fr) (b4 b5 b6 b7 b8 b9 : Sl), Tl n T ∧ -1 ≤ b ∧ b ≤ T.length ∧ (b = T.length → ∀ a b, a < b → b < n → Unl ms.length st gd T a b → (a, b) ∈ T) ∧ x = ((allT n).length - b).toNat ∧
    ρ = [.val (mcD (.tux ms) st gd) .p, .val (natD n) .n, .mt (tkT T) (tdT T) g, .val (.int b) g3, b4, b5, b6, b7, b8, b9], ⟨_, [], -1, _, _, _, _, _, _, _, _, ⟨List.nodup_nil, fun p hp => nomatch hp⟩, by omega, (by show (-1 : Int) ≤ 0; omega), (fun e => by have e : (-1 : Int) = 0 := e; omega), rfl, rfl⟩, ?_⟩
  rintro x ρ ⟨T0, b, g3, g, b4, b5, b6, b7, b8, b9, tl0, hb1, hb2, hcl, rfl, rfl⟩
  have hT0 := tl0.len
  refine ⟨True.intro, _, rfl, fun z => ?_, fun z => ?_⟩
  · have hlt : b < T0.length := by
      have z : decide (b < (((tkT T0).length : Nat) : Int)) = true := z
      have := of_decide_eq_true z
      rwa [show (tkT T0).length = T0.length from List.length_map ..] at this
    have e1 : (tkT T0).length = T0.length := List.length_map ..
    have e0 : List.set ([.val (mcD (.tux ms) st gd) .p, .val (natD n) .n, .mt (tkT T0) (tdT T0) g, .val (.int b) g3, b4, b5, b6, b7, b8, b9] : En) 3 (.val (.int (((tkT T0).length : Nat) : Int)) .n) = [.val (mcD (.tux ms) st gd) .p, .val (natD n) .n, .mt (tkT T0) (tdT T0) g, .val (natD T0.length) .n, b4, b5, b6, b7, b8, b9] := by rw [e1]; rfl
    refine ⟨by simp, ?_⟩
    dsimp only
    refine ⟨(n : Int), rfl, ⟨by omega, by omega⟩, ?_⟩
    refine ⟨fun l ρ => ∃ (T : List Pr) (g : Fr) (b4 b5 b6 b7 b8 b9 : Sl), InvP n ms.length st gd T0 T (fun _ y => y < l) ∧ ρ = [.val (mcD (.tux ms) st gd) .p, .val (natD n) .n, .mt (tkT T) (tdT T) g, .val (natD T0.length) .n, b4, b5, b6, b7, b8, b9], ⟨T0, g, _, _, _, _, _, _, InvP.start tl0 (fun a b h c => by omega), e0⟩, ?_, ?_⟩
    · rintro l d ρ hd ⟨T, g, b4, b5, b6, b7, b8, b9, inv, rfl⟩
      obtain ⟨hlN, rfl⟩ := upto_at hd
      rw [Int.toNat_natCast] at hlN
      refine ⟨_, rfl, ?_⟩
      dsimp only
      refine ⟨(l : Int), rfl, ⟨by omega, by omega⟩, ?_⟩
      refine ⟨fun r ρ => ∃ (T : List Pr) (g : Fr) (b5 b6 b7 b8 b9 : Sl), InvP n ms.length st gd T0 T (fun x y => y < l ∨ (y = l ∧ x < r)) ∧ ρ = [.val (mcD (.tux ms) st gd) .p, .val (natD n) .n, .mt (tkT T) (tdT T) g, .val (natD T0.length) .n, .val (natD l) .h, b5, b6, b7, b8, b9], ⟨T, g, _, _, _, _, _, inv.imp (fun x y h1 h2 c => by omega), rfl⟩, ?_, ?_⟩
      · rintro r d ρ hd ⟨T, g, b5, b6, b7, b8, b9, inv, rfl⟩
        obtain ⟨hr2, rfl⟩ := upto_at hd
        rw [Int.toNat_natCast] at hr2
        have hrN : r < n := by omega
        have hT := inv.tl.len
        refine ⟨_, rfl, ?_⟩
        show dSeq _ _ _ [.val (mcD (.tux ms) st gd) .p, .val (natD n) .n, .mt (tkT T) (tdT T) g, .val (natD T0.length) .n, .val (natD l) .h, .val (natD r) .h, b6, b7, b8, b9]
        refine ⟨_, 2, .lst (gd.map D.bl), rfl, rfl, rfl, _, _, _, rfl, rfl, gG_at (by rw [cn.gl]; exact hlN), _, 2, .lst (gd.map D.bl), rfl, rfl, rfl, _, _, _, rfl, rfl, gG_at (by rw [cn.gl]; exact hrN), both_of (cmpN_bl (n := 0)).ok (cmpN_bl (n := 0)).ok, by simp, ?_⟩
        refine ⟨_, 0, .tux ms, rfl, rfl, rfl, _, rfl, (ms.length : Int), rfl, ⟨by omega, by omega⟩, ?_⟩
        refine ⟨fun k ρ => ∃ (u : Bool) (b7 b8 b9 : Sl) (g6 : Fr), (u = true ↔ (gG gd l ≠ gG gd r ∨ ∃ j, j < k ∧ prT st r l j ∈ T)) ∧ ρ = [.val (mcD (.tux ms) st gd) .p, .val (natD n) .n, .mt (tkT T) (tdT T) g, .val (natD T0.length) .n, .val (natD l) .h, .val (natD r) .h, .val (.bl u) g6, b7, b8, b9], ⟨true ^^ eqD (.bl (gG gd l)) (.bl (gG gd r)), _, _, _, _, ?_, rfl⟩, ?_, ?_⟩
        · rw [eqD_bl]
          constructor
          · intro z
            rw [Bool.true_xor, Bool.not_eq_true', decide_eq_false_iff_not] at z
            exact .inl z
          · rintro (z | ⟨j, hj, _⟩)
            · rw [Bool.true_xor, Bool.not_eq_true', decide_eq_false_iff_not]; exact z
            · omega
        · rintro k d ρ hd ⟨u, b7, b8, b9, g6, hu, rfl⟩
          obtain ⟨hk, rfl⟩ := upto_at hd
          rw [Int.toNat_natCast] at hk
          have a1 := row_atS (st := st) (r := l) (by rw [hl]; exact hlN)
          have a2 := row_atS (st := st) (r := r) (by rw [hl]; exact hrN)
          have c1 := dl_atD cn.ok hlN hk
          have c2 := dl_atD cn.ok hrN hk
          refine ⟨_, rfl, ?_⟩
          show dSeq _ _ _ [.val (mcD (.tux ms) st gd) .p, .val (natD n) .n, .mt (tkT T) (tdT T) g, .val (natD T0.length) .n, .val (natD l) .h, .val (natD r) .h, .val (.bl u) g6, .val (natD k) .h, b8, b9]
          refine ⟨_, 1, .lst (st.map rowD), rfl, rfl, rfl, _, _, _, rfl, rfl, a1, _, _, _, rfl, rfl, c1, ?_⟩
          refine ⟨_, 1, .lst (st.map rowD), rfl, rfl, rfl, _, _, _, rfl, rfl, a2, _, _, _, rfl, rfl, c2, by simp, ?_⟩
          show dSeq _ _ _ [.val (mcD (.tux ms) st gd) .p, .val (natD n) .n, .mt (tkT T) (tdT T) g, .val (natD T0.length) .n, .val (natD l) .h, .val (natD r) .h, .val (.bl u) g6, .val (natD k) .h, .val (.int (if ((dl st r k : Nat) : Int) < ((dl st l k : Nat) : Int) then ((dl st r k : Nat) : Int) else ((dl st l k : Nat) : Int))) .n, b9]
          rw [min_int]
          refine ⟨_, 1, .lst (st.map rowD), rfl, rfl, rfl, _, _, _, rfl, rfl, a1, _, _, _, rfl, rfl, c1, ?_⟩
          refine ⟨_, 1, .lst (st.map rowD), rfl, rfl, rfl, _, _, _, rfl, rfl, a2, _, _, _, rfl, rfl, c2, by simp, ?_⟩
          dsimp only
          refine ⟨u, rfl, fun hu1 => ⟨by simp, true, _, _, _, _, ⟨fun _ => ?_, fun _ => rfl⟩, rfl⟩, fun hu0 => ?_⟩
          · rcases hu.mp hu1 with z | ⟨j, hj, hm⟩
            · exact .inl z
            · exact .inr ⟨j, by omega, hm⟩
          · refine ⟨_, _, _, rfl, by simp, rfl, _, _, rfl, rfl, by simp, _, _, _, _, _, ?_, rfl⟩
            show (lk (tkT T) (tdT T) [kNat (min (dl st l k) (dl st r k)), .inl (if ((dl st r k : Nat) : Int) > ((dl st l k : Nat) : Int) then ((dl st r k : Nat) : Int) else ((dl st l k : Nat) : Int))]).isSome = true ↔ _
            rw [max_int]
            show (lk (tkT T) (tdT T) (cdP (prT st r l k))).isSome = true ↔ _
            rw [lk_T, decide_eq_true_eq]
            constructor
            · intro z; exact .inr ⟨k, by omega, z⟩
            · rintro (z | ⟨j, hj, hm⟩)
              · rw [hu.mpr (.inl z)] at hu0; cases hu0
              · by_cases hjk : j = k
                · rw [← hjk]; exact hm
                · rw [hu.mpr (.inr ⟨j, by omega, hm⟩)] at hu0; cases hu0
        · rintro ρ ⟨u, b7, b8, b9, g6, hu, rfl⟩
          rw [upto_len, Int.toNat_natCast] at hu
          have hst := InvP.step (C' := fun x y => y < l ∨ (y = l ∧ x < r + 1)) inv hu hr2 hlN (fun x y c => by omega)
          refine ⟨u, rfl, fun z => ?_, fun z => ?_⟩
          · rw [z, if_pos rfl] at hst
            have q1 := (pk_T (T := T) (p := (r, l))).1
            have q2 := (pk_T (T := T) (p := (r, l))).2
            refine ⟨rfl, _, rfl, _, _, cdP (r, l), rfl, by simp, rfl, _, rfl, ?_, ?_⟩
            · rw [show (tkT T).length = T.length from List.length_map ..]; exact big_lt (by omega)
            · refine ⟨putT T (r, l), ?_⟩
              rw [← q1, ← q2]
              exact ⟨_, _, _, _, _, _, hst, rfl⟩
          · rw [z, if_neg (by decide)] at hst
            exact ⟨T, g, _, _, _, _, _, hst, rfl⟩
      · rintro ρ ⟨T, g, b5, b6, b7, b8, b9, inv, rfl⟩
        rw [upto_len, Int.toNat_natCast] at inv
        exact ⟨T, g, _, _, _, _, _, _, inv.imp (fun x y h1 h2 c => by omega), rfl⟩
    · rintro ρ ⟨T, g, b4, b5, b6, b7, b8, b9, inv, rfl⟩
      rw [upto_len, Int.toNat_natCast] at inv
      have hp := inv.pre.length_le
      have hT := inv.tl.len
      refine ⟨((allT n).length - (T0.length : Int)).toNat, by omega, T, (T0.length : Int), _, g, _, _, _, _, _, _, inv.tl, by omega, by omega, fun e a b h1 h2 u => ?_, rfl, rfl⟩
      have et : T0 = T := inv.pre.eq_of_length (by omega)
      rw [← et] at u ⊢
      exact inv.ck (by rw [et]) a b h1 h2 h2 u
  · have hge : ¬ b < T0.length := by
      have z : decide (b < (((tkT T0).length : Nat) : Int)) = false := z
      have := of_decide_eq_false z
      rwa [show (tkT T0).length = T0.length from List.length_map ..] at this
    have hfull := told_done cn.ok cn.red tl0 (hcl (by omega))
    have hh := (allT_len (n := n)).2
    refine ⟨True.intro, mulL (by omega) (by omega), ⟨by decide, by decide⟩, both_of (cmpN_int (n := 0)).ok (cmpN_int (n := 0)).ok, _, rfl, rfl, ?_⟩
    show Q (.bl (false ^^ eqD (.int ((tkT T0).length : Nat)) (.int ((n : Int) * ((n : Int) - 1) / 2))))
    rw [eqT (show eqD (.int ((tkT T0).length : Nat)) (.int ((n : Int) * ((n : Int) - 1) / 2)) = true from ?_)]
    · exact hQ
    · rw [eqD_int]
      refine decide_eq_true ?_
      rw [show (tkT T0).length = T0.length from List.length_map .., hfull]
      have hn0 := cn.n0
      have e : (n : Int) * ((n : Int) - 1) = ((n * (n - 1) : Nat) : Int) := by
        rw [Int.natCast_mul, Int.natCast_sub (by omega)]; rfl
      rw [e, ← hh]
      omega
end
end M

namespace M
open PySem L2 DL
variable [Tabs]
theorem mc_st {c : Mc} (ok : McOk c) : StOk c.st.length c.ms.length c.st := ⟨rfl, fun r hr => ok.rl _ (getD_mem hr).1, fun r k hr hk => by
  have h1 := (getD_mem (a := []) hr).1
  have h2 : k < (c.st.getD r []).length := by rw [ok.rl _ h1]; exact hk
  exact ok.rb _ h1 _ (getD_mem h2).1⟩
theorem canon_mc {n : Nat} {ms : List D} {st : List (List Nat)} {gd : List Bool} (cn : Canon n ms.length st gd) (hn : n ≤ 900) (hml : ms.length ≤ 4) (hmo : ∀ d ∈ ms, mkOk d) : McOk ⟨ms, st, gd⟩ := by
  have hl := cn.ok.len
  have hn0 := cn.n0
  have hg := cn.gl
  refine ⟨by show 0 < st.length; omega, by show st.length ≤ 900; omega, by show gd.length = st.length; omega, fun r h => ?_, fun r h x hx => ?_, hml, hmo⟩
  · obtain ⟨i, hi, rfl⟩ := List.getElem_of_mem h
    have hi : i < st.length := hi
    have := cn.ok.rl i (by omega)
    rw [List.getD_eq_getElem?_getD, List.getElem?_eq_getElem hi] at this
    exact this
  · obtain ⟨i, hi, rfl⟩ := List.getElem_of_mem h
    have hi : i < st.length := hi
    obtain ⟨k, hk, rfl⟩ := List.getElem_of_mem hx
    have e : st.getD i [] = st[i] := by rw [List.getD_eq_getElem?_getD, List.getElem?_eq_getElem hi]; rfl
    have h1 := cn.ok.rl i (by omega)
    rw [e] at h1
    have hk : k < (st[i]).length := hk
    have h2 := cn.ok.rb i k (by omega) (by omega)
    unfold dl at h2
    rw [e, List.getD_eq_getElem?_getD, List.getElem?_eq_getElem hk] at h2
    show _ < st.length
    rw [hl]; exact h2
section
variable {P : Program} {w : World} {K : PySem.W.Frag} {mg : Str → Option Value} {base : Heap} {f : Addr} {fd : FuncData}
/- law: 0 _law_script, 1 _law_tape, 2 _law_marks_here, 3 _law_machine_here, 4 _law_kept, 5 _law_found -/
abbrev s_law : Stmt := top 21
abbrev N_law : List Str := ["_law_script", "_law_tape", "_law_marks_here", "_law_machine_here", "_law_kept", "_law_found"]
theorem sc_law : FnScope N_law ["_law_script"] (defScope s_law) := ⟨rfl, rfl, rfl, by decide +kernel, rfl, by decide +kernel, by decide +kernel⟩
def spLawD : SpD := fun ds P => ∃ ns : List Int, ds = [scD ns] ∧ ns.length ≤ 63 ∧ P (.bl true)
theorem ok_law (F : Fun K "law" "law" s_law f fd) (m_len : mg "len" = none) (m_list : mg "list" = none)
    (C_l_draw : Cal P w K mg base "_law_draw" 1 (spT K 1 spDraw)) (C_l_things : Cal P w K mg base "_law_things" 3 (spT K 1 spThings)) (C_l_machine : Cal P w K mg base "_law_machine" 2 (spT K 1 spMachine)) (C_l_doubled : Cal P w K mg base "_law_doubled" 2 (spT K 1 spDoubled))
    (C_l_copy : Cal P w K mg base "_law_copy" 1 (spP K spCopy)) (C_l_is_machine : Cal P w K mg base "_law_is_machine" 2 (spP K spIsM)) (C_l_by_coming : Cal P w K mg base "_law_by_coming" 1 (spP K spByC)) (C_l_same_rows : Cal P w K mg base "_law_same_rows" 1 (spP K spSame)) (C_l_told_apart : Cal P w K mg base "_law_told_apart" 1 (spP K spTold)) (C_least : Cal P w K mg base "least" 5 (spP K spLeast)) :
    FnOk P w K mg base CX0 9 f fd ["_law_script"] (spP K spLawD) := by
  refine dfn (N := N_law) (k := 8) F sc_law (by decide) (fun ds Q ⟨_, e, _⟩ => by rw [e]; rfl) (fun cdv A outer s H E hr => (dss_cons (ds_set (i := 1) (de_lst (da_cons de_int da_nil)) sc_law.nd)
  (dss_cons (ds_set (i := 2) (de_callT C_l_things hr (by omega) (da_cons (de_name 0) (da_cons (de_name 1) (da_cons (de_add de_int (de_callT C_l_draw hr (by omega) (da_cons (de_name 0) (da_cons (de_name 1) (da_cons de_int da_nil))))) da_nil)))) sc_law.nd)
  (dss_cons (ds_set (i := 3) (de_callT C_l_machine hr (by omega) (da_cons (de_name 0) (da_cons (de_name 1) (da_cons (de_name 2) da_nil)))) sc_law.nd)
  (dss_cons (ds_cut (ds_if (dt_eq hr (de_callT C_l_draw hr (by omega) (da_cons (de_name 0) (da_cons (de_name 1) (da_cons de_int da_nil)))) de_int)
  (dss_one (ds_set (i := 3) (de_callT C_l_doubled hr (by omega) (da_cons (de_name 0) (da_cons (de_name 1) (da_cons (de_name 3) da_nil)))) sc_law.nd))
  dss_nil))
  (dss_cons (ds_set (i := 4) (de_call C_l_copy hr (by omega) (da_cons (de_name 3) da_nil)) sc_law.nd)
  (dss_reb (dss_cons (ds_set (i := 5) (de_call C_least hr (by omega) (da_cons (de_name 3) da_nil)) sc_law.nd)
  (dss_cons (ds_if (dt_w (dw_or (dt_not (dt_val (de_call C_l_is_machine hr (by omega) (da_cons (de_name 5) (da_cons (de_ix (de_name 4) de_int) da_nil))))) (dw_or (dt_ne hr (de_name 3) (de_name 4)) (dw_or1 (dt_not (dt_val (de_call C_l_by_coming hr (by omega) (da_cons (de_name 5) da_nil))))))))
  (dss_one (ds_ret de_bl))
  dss_nil)
  (dss_cons (ds_if (dt_w (dw_or (dt_not (dt_val (de_call C_l_same_rows hr (by omega) (da_cons (de_name 5) (da_cons (de_name 4) da_nil))))) (dw_or1 (dt_not (dt_val (de_call C_l_told_apart hr (by omega) (da_cons (de_name 5) da_nil)))))))
  (dss_one (ds_ret de_bl))
  dss_nil)
  (dss_mut (de_ix (de_ix (de_name 5) de_int) de_int) de_int
  (dss_mut (de_ix (de_name 5) de_int) de_bl
  (dss_one (ds_ret (de_eq hr (de_name 3) (de_name 4)))))))))))))))) ?_
  rintro ds Q ⟨ns, rfl, hl, hQ⟩
  refine ⟨by simp [ini], ?_⟩
  refine ⟨rfl, rfl, ns, 0, 4, rfl, rfl, by omega, by omega, hl, fun a ha => ?_⟩
  refine ⟨rfl, rfl, ns, 1, 1 + a, rfl, rfl, by omega, by omega, by omega, hl, fun ms hms hmo => ⟨by simp [ini], ?_⟩⟩
  refine ⟨rfl, rfl, ns, 4, ms, rfl, rfl, by omega, hl, by omega, hmo, fun c1 n1 o1 e1 hc1 hn1 hn1' => ⟨by simp [ini], ?_⟩⟩
  show dSeq _ _ _ [.val (scD ns) .p, .ml (tp n1) .z, .val (.lst ms) .n, .val c1.dt .n, .no, .no]
  refine ⟨fun ρ => ∃ (c : Mc) (n : Nat), McOk c ∧ c.ms = ms ∧ c.st.length ≤ 11 ∧ n ≤ 1000 ∧ ρ = [.val (scD ns) .p, .ml (tp n) .z, .val (.lst ms) .n, .val c.dt .n, .no, .no], ?_, ?_⟩
  · refine ⟨rfl, rfl, ns, n1, 2, rfl, rfl, by omega, by omega, hl, fun b hb => ⟨rfl, _, rfl, fun z => ?_, fun z => ?_⟩⟩
    · exact ⟨rfl, rfl, ns, n1 + 1, c1, rfl, rfl, by omega, hl, o1, hc1, fun c' n' o' e' hc' hn' hn'' => ⟨by simp, c', n', o', by rw [e', e1], hc', by omega, rfl⟩⟩
    · exact ⟨c1, n1 + 1, o1, e1, by omega, by omega, rfl⟩
  rintro ρ ⟨c, n2, o, em, hc, hn2, rfl⟩
  have hgl := o.gl
  have hml := o.ml
  refine ⟨c, rfl, by omega, by omega, o.mo, by simp, ?_⟩
  have cc := (Mc.cmp o.mo).ok
  have ec : eqD c.dt c.dt = true := eqD_refl (Mc.cmp o.mo).1
  have h0 : 0 < c.ms.length := by rw [em, hms]; omega
  dsimp only [dNext, dReb]
  show dSeq _ _ _ [.val (scD ns) .p, .val (.lst (tp n2)) .p, .val (.lst ms) .p, .val c.dt .p, .val c.dt .p, .no]
  refine ⟨.tux c.ms, c.ms.length, c.st, c.gd, rfl, mks_nol o.mo, mc_st o, hgl, o.n0, by omega, by omega, fun n' st' gd' cn hn' hw => ⟨by simp, ?_⟩⟩
  have o3 : McOk ⟨c.ms, st', gd'⟩ := canon_mc cn (by omega) hml o.mo
  generalize hc3 : (⟨c.ms, st', gd'⟩ : Mc) = c3 at o3
  have e3 : c3.ms = c.ms := by rw [← hc3]
  have ed : mcD (.tux c.ms) st' gd' = c3.dt := by rw [← hc3]; rfl
  rw [ed]
  show dSeq _ _ _ [.val (scD ns) .p, .val (.lst (tp n2)) .p, .val (.lst ms) .p, .val c.dt .p, .val c.dt .p, .val c3.dt .n]
  refine ⟨_, 0, .tux c.ms, rfl, rfl, rfl, c3, by rw [e3]; rfl, o3, by rw [e3]; exact h0, true, rfl, fun h => Bool.noConfusion h, fun _ => ?_⟩
  refine ⟨both_of cc cc, false, neF ec, fun h => Bool.noConfusion h, fun _ => ?_⟩
  refine ⟨.tux c.ms, n', c.ms.length, st', gd', by rw [ed]; rfl, cn, by omega, by omega, true, rfl, fun h => Bool.noConfusion h, fun _ => ?_⟩
  have hl3 := cn.ok.len
  have hsm : st'.length * c.st.length ≤ 900000 := by
    have := Nat.mul_le_mul (show st'.length ≤ 11 by omega) hc
    omega
  refine ⟨c.ms, .tux c.ms, st', c.st, gd', c.gd, by rw [ed]; rfl, hl3 ▸ cn.ok, by rw [cn.gl, hl3], by have := cn.n0; omega, mc_st o, hgl, o.n0, hsm, by omega, hw, true, rfl, fun h => Bool.noConfusion h, fun _ => ?_⟩
  refine ⟨c.ms, n', st', gd', by rw [ed]; rfl, cn, by omega, by omega, true, rfl, fun h => Bool.noConfusion h, fun _ => ?_⟩
  have hr0 : (c3.st.getD 0 []).length ≤ 4 := by rw [o3.rl _ (getD_mem o3.n0).1]; exact o3.ml
  refine ⟨_, 1, .lst (c3.st.map rowD), rfl, rfl, rfl, _, 0, _, rfl, rfl, Mc.row_at o3 o3.n0, _, _, rfl, .inl rfl, ?_, ?_⟩
  · show ((c3.st.getD 0 []).map natD).length < _
    rw [List.length_map]; exact len_lt (by omega)
  have hmS : mutS (.val c3.dt .n) = .val (mutD c3.dt) .n := by
    unfold mutS
    rw [if_neg]
    show ¬ ((Fr.n == .p || Fr.n == .z || (nols (_ :: _ :: _ :: []))) = true)
    unfold nols nols
    rw [show nol (.lst (c3.st.map rowD)) = false by unfold nol; rfl]
    simp
  show dMut _ _ _ _ [.val (scD ns) .p, .val (.lst (tp n2)) .p, .val (.lst ms) .p, .val c.dt .p, .val c.dt .p, mutS (.val c3.dt .n)]
  rw [hmS]
  refine ⟨_, 2, .un ((c3.gd.map D.bl).length + 1), rfl, rfl, rfl, _, _, rfl, .inl rfl, ?_, ?_⟩
  · show (c3.gd.map D.bl).length + 1 < _
    rw [List.length_map, o3.gl]
    have := o3.n1
    exact len_lt (by omega)
  refine ⟨both_of cc cc, _, rfl, rfl, rfl, ?_⟩
  show Q (.bl (false ^^ eqD c.dt c.dt))
  rw [eqT ec]; exact hQ
end
end M

set_option maxHeartbeats 4000000
namespace M
open PySem L2 DL LamX
theorem all_mk {l : PySem.W.OpenLaw} {w : World} {K : PySem.W.Frag} {h : Heap} {mg : Str → Option Value} {fa f_least f_classes f_leading f_sout f_split f_coming f_ldraw f_lmarks f_lthings f_lmach f_lcopy f_lwhole f_lism f_lbyc f_lsame f_ltold f_ldoub f_law cS_least PS_least : Addr} (X : K.In h) (G : h.Ns mainGlobals mg) (hfa : mg "law" = some (.ref fa))
    {od_least an_least : Option Addr} {sl_least : Array (Option Value)} {oc_least kV_least dc_least pm_least ct_least : Value}
    {od_classes an_classes : Option Addr} {sl_classes : Array (Option Value)} {oc_classes kV_classes dc_classes pm_classes cd_classes ct_classes : Value}
    {od_leading an_leading : Option Addr} {sl_leading : Array (Option Value)} {oc_leading kV_leading dc_leading pm_leading cd_leading ct_leading : Value}
    {od_sout an_sout : Option Addr} {sl_sout : Array (Option Value)} {oc_sout kV_sout dc_sout pm_sout cd_sout ct_sout : Value}
    {od_split an_split : Option Addr} {sl_split : Array (Option Value)} {oc_split kV_split dc_split pm_split cd_split ct_split : Value}
    {od_coming an_coming : Option Addr} {sl_coming : Array (Option Value)} {oc_coming kV_coming dc_coming pm_coming cd_coming ct_coming : Value}
    {od_ldraw an_ldraw : Option Addr} {sl_ldraw : Array (Option Value)} {oc_ldraw kV_ldraw dc_ldraw pm_ldraw cd_ldraw ct_ldraw : Value}
    {od_lmarks an_lmarks : Option Addr} {sl_lmarks : Array (Option Value)} {oc_lmarks kV_lmarks dc_lmarks pm_lmarks cd_lmarks ct_lmarks : Value}
    {od_lthings an_lthings : Option Addr} {sl_lthings : Array (Option Value)} {oc_lthings kV_lthings dc_lthings pm_lthings cd_lthings ct_lthings : Value}
    {od_lmach an_lmach : Option Addr} {sl_lmach : Array (Option Value)} {oc_lmach kV_lmach dc_lmach pm_lmach cd_lmach ct_lmach : Value}
    {od_lcopy an_lcopy : Option Addr} {sl_lcopy : Array (Option Value)} {oc_lcopy kV_lcopy dc_lcopy pm_lcopy cd_lcopy ct_lcopy : Value}
    {od_lwhole an_lwhole : Option Addr} {sl_lwhole : Array (Option Value)} {oc_lwhole kV_lwhole dc_lwhole pm_lwhole cd_lwhole ct_lwhole : Value}
    {od_lism an_lism : Option Addr} {sl_lism : Array (Option Value)} {oc_lism kV_lism dc_lism pm_lism cd_lism ct_lism : Value}
    {od_lbyc an_lbyc : Option Addr} {sl_lbyc : Array (Option Value)} {oc_lbyc kV_lbyc dc_lbyc pm_lbyc cd_lbyc ct_lbyc : Value}
    {od_lsame an_lsame : Option Addr} {sl_lsame : Array (Option Value)} {oc_lsame kV_lsame dc_lsame pm_lsame cd_lsame ct_lsame : Value}
    {od_ltold an_ltold : Option Addr} {sl_ltold : Array (Option Value)} {oc_ltold kV_ltold dc_ltold pm_ltold cd_ltold ct_ltold : Value}
    {od_ldoub an_ldoub : Option Addr} {sl_ldoub : Array (Option Value)} {oc_ldoub kV_ldoub dc_ldoub pm_ldoub cd_ldoub ct_ldoub : Value}
    {od_law an_law : Option Addr} {sl_law : Array (Option Value)} {oc_law kV_law dc_law pm_law cd_law ct_law : Value}
    (t_least : h.get? PS_least = some { cls := .none, data := .fields #[] })
    (a_least : PySem.W.nsIn K mainGlobals "least" = some (some (.ref f_least)))
    (l_least : K.lookup f_least = some ⟨oc_least, od_least, .func (PySem.W.fnOf "least" "least" (defArgs s_least) (defBody s_least) (defScope s_least) .none kV_least dc_least pm_least an_least (.ref cS_least) ct_least), sl_least⟩)
    (c_least : PySem.W.codeIn K (.ref cS_least) "least" = true) (k_least : PySem.W.keepIn K (.ref f_least) = true)
    (a_classes : PySem.W.nsIn K mainGlobals "classes_of" = some (some (.ref f_classes)))
    (l_classes : K.lookup f_classes = some ⟨oc_classes, od_classes, .func (PySem.W.fnOf "classes_of" "classes_of" (defArgs s_classes_of) (defBody s_classes_of) (defScope s_classes_of) .none kV_classes dc_classes pm_classes an_classes cd_classes ct_classes), sl_classes⟩)
    (c_classes : PySem.W.codeIn K cd_classes "classes_of" = true) (k_classes : PySem.W.keepIn K (.ref f_classes) = true)
    (a_leading : PySem.W.nsIn K mainGlobals "leading_to" = some (some (.ref f_leading)))
    (l_leading : K.lookup f_leading = some ⟨oc_leading, od_leading, .func (PySem.W.fnOf "leading_to" "leading_to" (defArgs s_leading_to) (defBody s_leading_to) (defScope s_leading_to) .none kV_leading dc_leading pm_leading an_leading cd_leading ct_leading), sl_leading⟩)
    (c_leading : PySem.W.codeIn K cd_leading "leading_to" = true) (k_leading : PySem.W.keepIn K (.ref f_leading) = true)
    (a_sout : PySem.W.nsIn K mainGlobals "sorted_out" = some (some (.ref f_sout)))
    (l_sout : K.lookup f_sout = some ⟨oc_sout, od_sout, .func (PySem.W.fnOf "sorted_out" "sorted_out" (defArgs s_sorted_out) (defBody s_sorted_out) (defScope s_sorted_out) .none kV_sout dc_sout pm_sout an_sout cd_sout ct_sout), sl_sout⟩)
    (c_sout : PySem.W.codeIn K cd_sout "sorted_out" = true) (k_sout : PySem.W.keepIn K (.ref f_sout) = true)
    (a_split : PySem.W.nsIn K mainGlobals "split" = some (some (.ref f_split)))
    (l_split : K.lookup f_split = some ⟨oc_split, od_split, .func (PySem.W.fnOf "split" "split" (defArgs s_split) (defBody s_split) (defScope s_split) .none kV_split dc_split pm_split an_split cd_split ct_split), sl_split⟩)
    (c_split : PySem.W.codeIn K cd_split "split" = true) (k_split : PySem.W.keepIn K (.ref f_split) = true)
    (a_coming : PySem.W.nsIn K mainGlobals "by_coming" = some (some (.ref f_coming)))
    (l_coming : K.lookup f_coming = some ⟨oc_coming, od_coming, .func (PySem.W.fnOf "by_coming" "by_coming" (defArgs s_by_coming) (defBody s_by_coming) (defScope s_by_coming) .none kV_coming dc_coming pm_coming an_coming cd_coming ct_coming), sl_coming⟩)
    (c_coming : PySem.W.codeIn K cd_coming "by_coming" = true) (k_coming : PySem.W.keepIn K (.ref f_coming) = true)
    (a_ldraw : PySem.W.nsIn K mainGlobals "_law_draw" = some (some (.ref f_ldraw)))
    (l_ldraw : K.lookup f_ldraw = some ⟨oc_ldraw, od_ldraw, .func (PySem.W.fnOf "_law_draw" "_law_draw" (defArgs s_l_draw) (defBody s_l_draw) (defScope s_l_draw) .none kV_ldraw dc_ldraw pm_ldraw an_ldraw cd_ldraw ct_ldraw), sl_ldraw⟩)
    (c_ldraw : PySem.W.codeIn K cd_ldraw "_law_draw" = true) (k_ldraw : PySem.W.keepIn K (.ref f_ldraw) = true)
    (a_lmarks : PySem.W.nsIn K mainGlobals "_law_marks" = some (some (.ref f_lmarks)))
    (l_lmarks : K.lookup f_lmarks = some ⟨oc_lmarks, od_lmarks, .func (PySem.W.fnOf "_law_marks" "_law_marks" (defArgs s_l_marks) (defBody s_l_marks) (defScope s_l_marks) .none kV_lmarks dc_lmarks pm_lmarks an_lmarks cd_lmarks ct_lmarks), sl_lmarks⟩)
    (c_lmarks : PySem.W.codeIn K cd_lmarks "_law_marks" = true) (k_lmarks : PySem.W.keepIn K (.ref f_lmarks) = true)
    (a_lthings : PySem.W.nsIn K mainGlobals "_law_things" = some (some (.ref f_lthings)))
    (l_lthings : K.lookup f_lthings = some ⟨oc_lthings, od_lthings, .func (PySem.W.fnOf "_law_things" "_law_things" (defArgs s_l_things) (defBody s_l_things) (defScope s_l_things) .none kV_lthings dc_lthings pm_lthings an_lthings cd_lthings ct_lthings), sl_lthings⟩)
    (c_lthings : PySem.W.codeIn K cd_lthings "_law_things" = true) (k_lthings : PySem.W.keepIn K (.ref f_lthings) = true)
    (a_lmach : PySem.W.nsIn K mainGlobals "_law_machine" = some (some (.ref f_lmach)))
    (l_lmach : K.lookup f_lmach = some ⟨oc_lmach, od_lmach, .func (PySem.W.fnOf "_law_machine" "_law_machine" (defArgs s_l_machine) (defBody s_l_machine) (defScope s_l_machine) .none kV_lmach dc_lmach pm_lmach an_lmach cd_lmach ct_lmach), sl_lmach⟩)
    (c_lmach : PySem.W.codeIn K cd_lmach "_law_machine" = true) (k_lmach : PySem.W.keepIn K (.ref f_lmach) = true)
    (a_lcopy : PySem.W.nsIn K mainGlobals "_law_copy" = some (some (.ref f_lcopy)))
    (l_lcopy : K.lookup f_lcopy = some ⟨oc_lcopy, od_lcopy, .func (PySem.W.fnOf "_law_copy" "_law_copy" (defArgs s_l_copy) (defBody s_l_copy) (defScope s_l_copy) .none kV_lcopy dc_lcopy pm_lcopy an_lcopy cd_lcopy ct_lcopy), sl_lcopy⟩)
    (c_lcopy : PySem.W.codeIn K cd_lcopy "_law_copy" = true) (k_lcopy : PySem.W.keepIn K (.ref f_lcopy) = true)
    (a_lwhole : PySem.W.nsIn K mainGlobals "_law_whole" = some (some (.ref f_lwhole)))
    (l_lwhole : K.lookup f_lwhole = some ⟨oc_lwhole, od_lwhole, .func (PySem.W.fnOf "_law_whole" "_law_whole" (defArgs s_l_whole) (defBody s_l_whole) (defScope s_l_whole) .none kV_lwhole dc_lwhole pm_lwhole an_lwhole cd_lwhole ct_lwhole), sl_lwhole⟩)
    (c_lwhole : PySem.W.codeIn K cd_lwhole "_law_whole" = true) (k_lwhole : PySem.W.keepIn K (.ref f_lwhole) = true)
    (a_lism : PySem.W.nsIn K mainGlobals "_law_is_machine" = some (some (.ref f_lism)))
    (l_lism : K.lookup f_lism = some ⟨oc_lism, od_lism, .func (PySem.W.fnOf "_law_is_machine" "_law_is_machine" (defArgs s_l_is_machine) (defBody s_l_is_machine) (defScope s_l_is_machine) .none kV_lism dc_lism pm_lism an_lism cd_lism ct_lism), sl_lism⟩)
    (c_lism : PySem.W.codeIn K cd_lism "_law_is_machine" = true) (k_lism : PySem.W.keepIn K (.ref f_lism) = true)
    (a_lbyc : PySem.W.nsIn K mainGlobals "_law_by_coming" = some (some (.ref f_lbyc)))
    (l_lbyc : K.lookup f_lbyc = some ⟨oc_lbyc, od_lbyc, .func (PySem.W.fnOf "_law_by_coming" "_law_by_coming" (defArgs s_l_by_coming) (defBody s_l_by_coming) (defScope s_l_by_coming) .none kV_lbyc dc_lbyc pm_lbyc an_lbyc cd_lbyc ct_lbyc), sl_lbyc⟩)
    (c_lbyc : PySem.W.codeIn K cd_lbyc "_law_by_coming" = true) (k_lbyc : PySem.W.keepIn K (.ref f_lbyc) = true)
    (a_lsame : PySem.W.nsIn K mainGlobals "_law_same_rows" = some (some (.ref f_lsame)))
    (l_lsame : K.lookup f_lsame = some ⟨oc_lsame, od_lsame, .func (PySem.W.fnOf "_law_same_rows" "_law_same_rows" (defArgs s_l_same_rows) (defBody s_l_same_rows) (defScope s_l_same_rows) .none kV_lsame dc_lsame pm_lsame an_lsame cd_lsame ct_lsame), sl_lsame⟩)
    (c_lsame : PySem.W.codeIn K cd_lsame "_law_same_rows" = true) (k_lsame : PySem.W.keepIn K (.ref f_lsame) = true)
    (a_ltold : PySem.W.nsIn K mainGlobals "_law_told_apart" = some (some (.ref f_ltold)))
    (l_ltold : K.lookup f_ltold = some ⟨oc_ltold, od_ltold, .func (PySem.W.fnOf "_law_told_apart" "_law_told_apart" (defArgs s_l_told_apart) (defBody s_l_told_apart) (defScope s_l_told_apart) .none kV_ltold dc_ltold pm_ltold an_ltold cd_ltold ct_ltold), sl_ltold⟩)
    (c_ltold : PySem.W.codeIn K cd_ltold "_law_told_apart" = true) (k_ltold : PySem.W.keepIn K (.ref f_ltold) = true)
    (a_ldoub : PySem.W.nsIn K mainGlobals "_law_doubled" = some (some (.ref f_ldoub)))
    (l_ldoub : K.lookup f_ldoub = some ⟨oc_ldoub, od_ldoub, .func (PySem.W.fnOf "_law_doubled" "_law_doubled" (defArgs s_l_doubled) (defBody s_l_doubled) (defScope s_l_doubled) .none kV_ldoub dc_ldoub pm_ldoub an_ldoub cd_ldoub ct_ldoub), sl_ldoub⟩)
    (c_ldoub : PySem.W.codeIn K cd_ldoub "_law_doubled" = true) (k_ldoub : PySem.W.keepIn K (.ref f_ldoub) = true)
    (a_law : PySem.W.nsIn K mainGlobals "law" = some (some (.ref f_law)))
    (l_law : K.lookup f_law = some ⟨oc_law, od_law, .func (PySem.W.fnOf "law" "law" (defArgs s_law) (defBody s_law) (defScope s_law) .none kV_law dc_law pm_law an_law cd_law ct_law), sl_law⟩)
    (c_law : PySem.W.codeIn K cd_law "law" = true) (k_law : PySem.W.keepIn K (.ref f_law) = true)
    (z_range : PySem.W.nsIn K mainGlobals "range" = some none)
    (z_len : PySem.W.nsIn K mainGlobals "len" = some none)
    (z_all : PySem.W.nsIn K mainGlobals "all" = some none)
    (z_isinstance : PySem.W.nsIn K mainGlobals "isinstance" = some none)
    (z_bool : PySem.W.nsIn K mainGlobals "bool" = some none)
    (z_int : PySem.W.nsIn K mainGlobals "int" = some none)
    (z_tuple : PySem.W.nsIn K mainGlobals "tuple" = some none)
    (z_list : PySem.W.nsIn K mainGlobals "list" = some none)
    (z_min : PySem.W.nsIn K mainGlobals "min" = some none)
    (z_max : PySem.W.nsIn K mainGlobals "max" = some none)
    (z_sorted : PySem.W.nsIn K mainGlobals "sorted" = some none)
    (z_enumerate : PySem.W.nsIn K mainGlobals "enumerate" = some none)
    (h_least : PySem.W.codeHdIn K cS_least PS_least = true) (n_least : K.lookup PS_least = none) :
    LawAtS l w K CX0 20 63 "_law_script" mg fa h := by
  have e := hfa.symm.trans (PySem.W.mg_of X G a_law)
  cases e
  letI : DL.Tabs := ⟨[(PS_least, nmL)]⟩
  have F_least := fun_mk (st := s_least) l_least c_least k_least
  have b_least := F_least.binds (ps := ["machine"]) fun _ _ _ _ _ _ us hl => match us, hl with | [_], _ => rfl
  have g_least := PySem.W.mg_of X G a_least
  have F_classes := fun_mk (st := s_classes_of) l_classes c_classes k_classes
  have b_classes := F_classes.binds (ps := ["steps", "good"]) fun _ _ _ _ _ _ us hl => match us, hl with | [_, _], _ => rfl
  have g_classes := PySem.W.mg_of X G a_classes
  have F_leading := fun_mk (st := s_leading_to) l_leading c_leading k_leading
  have b_leading := F_leading.binds (ps := ["steps"]) fun _ _ _ _ _ _ us hl => match us, hl with | [_], _ => rfl
  have g_leading := PySem.W.mg_of X G a_leading
  have F_sout := fun_mk (st := s_sorted_out) l_sout c_sout k_sout
  have b_sout := F_sout.binds (ps := ["rooms", "steps", "classes"]) fun _ _ _ _ _ _ us hl => match us, hl with | [_, _, _], _ => rfl
  have g_sout := PySem.W.mg_of X G a_sout
  have F_split := fun_mk (st := s_split) l_split c_split k_split
  have b_split := F_split.binds (ps := ["number", "pieces", "classes", "members"]) fun _ _ _ _ _ _ us hl => match us, hl with | [_, _, _, _], _ => rfl
  have g_split := PySem.W.mg_of X G a_split
  have F_coming := fun_mk (st := s_by_coming) l_coming c_coming k_coming
  have b_coming := F_coming.binds (ps := ["first", "beyond"]) fun _ _ _ _ _ _ us hl => match us, hl with | [_, _], _ => rfl
  have g_coming := PySem.W.mg_of X G a_coming
  have F_ldraw := fun_mk (st := s_l_draw) l_ldraw c_ldraw k_ldraw
  have b_ldraw := F_ldraw.binds (ps := ["_law_script", "_law_tape", "_law_many"]) fun _ _ _ _ _ _ us hl => match us, hl with | [_, _, _], _ => rfl
  have g_ldraw := PySem.W.mg_of X G a_ldraw
  have F_lmarks := fun_mk (st := s_l_marks) l_lmarks c_lmarks k_lmarks
  have b_lmarks := F_lmarks.binds (ps := ["_law_script", "_law_tape", "_law_many"]) fun _ _ _ _ _ _ us hl => match us, hl with | [_, _, _], _ => rfl
  have g_lmarks := PySem.W.mg_of X G a_lmarks
  have F_lthings := fun_mk (st := s_l_things) l_lthings c_lthings k_lthings
  have b_lthings := F_lthings.binds (ps := ["_law_script", "_law_tape", "_law_many"]) fun _ _ _ _ _ _ us hl => match us, hl with | [_, _, _], _ => rfl
  have g_lthings := PySem.W.mg_of X G a_lthings
  have F_lmach := fun_mk (st := s_l_machine) l_lmach c_lmach k_lmach
  have b_lmach := F_lmach.binds (ps := ["_law_script", "_law_tape", "_law_marks_here"]) fun _ _ _ _ _ _ us hl => match us, hl with | [_, _, _], _ => rfl
  have g_lmach := PySem.W.mg_of X G a_lmach
  have F_lcopy := fun_mk (st := s_l_copy) l_lcopy c_lcopy k_lcopy
  have b_lcopy := F_lcopy.binds (ps := ["_law_machine_here"]) fun _ _ _ _ _ _ us hl => match us, hl with | [_], _ => rfl
  have g_lcopy := PySem.W.mg_of X G a_lcopy
  have F_lwhole := fun_mk (st := s_l_whole) l_lwhole c_lwhole k_lwhole
  have b_lwhole := F_lwhole.binds (ps := ["_law_found"]) fun _ _ _ _ _ _ us hl => match us, hl with | [_], _ => rfl
  have g_lwhole := PySem.W.mg_of X G a_lwhole
  have F_lism := fun_mk (st := s_l_is_machine) l_lism c_lism k_lism
  have b_lism := F_lism.binds (ps := ["_law_found", "_law_marks_here"]) fun _ _ _ _ _ _ us hl => match us, hl with | [_, _], _ => rfl
  have g_lism := PySem.W.mg_of X G a_lism
  have F_lbyc := fun_mk (st := s_l_by_coming) l_lbyc c_lbyc k_lbyc
  have b_lbyc := F_lbyc.binds (ps := ["_law_machine_here"]) fun _ _ _ _ _ _ us hl => match us, hl with | [_], _ => rfl
  have g_lbyc := PySem.W.mg_of X G a_lbyc
  have F_lsame := fun_mk (st := s_l_same_rows) l_lsame c_lsame k_lsame
  have b_lsame := F_lsame.binds (ps := ["_law_one", "_law_other"]) fun _ _ _ _ _ _ us hl => match us, hl with | [_, _], _ => rfl
  have g_lsame := PySem.W.mg_of X G a_lsame
  have F_ltold := fun_mk (st := s_l_told_apart) l_ltold c_ltold k_ltold
  have b_ltold := F_ltold.binds (ps := ["_law_machine_here"]) fun _ _ _ _ _ _ us hl => match us, hl with | [_], _ => rfl
  have g_ltold := PySem.W.mg_of X G a_ltold
  have F_ldoub := fun_mk (st := s_l_doubled) l_ldoub c_ldoub k_ldoub
  have b_ldoub := F_ldoub.binds (ps := ["_law_script", "_law_tape", "_law_machine_here"]) fun _ _ _ _ _ _ us hl => match us, hl with | [_, _, _], _ => rfl
  have g_ldoub := PySem.W.mg_of X G a_ldoub
  have F_law := fun_mk (st := s_law) l_law c_law k_law
  have b_law := F_law.binds (ps := ["_law_script"]) fun _ _ _ _ _ _ us hl => match us, hl with | [_], _ => rfl
  have g_law := PySem.W.mg_of X G a_law
  have m_range := PySem.W.mg_none_of X G z_range
  have m_len := PySem.W.mg_none_of X G z_len
  have m_all := PySem.W.mg_none_of X G z_all
  have m_isinstance := PySem.W.mg_none_of X G z_isinstance
  have m_bool := PySem.W.mg_none_of X G z_bool
  have m_int := PySem.W.mg_none_of X G z_int
  have m_tuple := PySem.W.mg_none_of X G z_tuple
  have m_list := PySem.W.mg_none_of X G z_list
  have m_min := PySem.W.mg_none_of X G z_min
  have m_max := PySem.W.mg_none_of X G z_max
  have m_sorted := PySem.W.mg_none_of X G z_sorted
  have m_enumerate := PySem.W.mg_none_of X G z_enumerate
  refine ⟨PySem.W.fnOf "law" "law" (defArgs s_law) (defBody s_law) (defScope s_law) .none kV_law dc_law pm_law an_law cd_law ct_law, [(cS_least, PS_least)], spLx K 63, (fun p hp => by simp at hp; subst hp; exact t_least), (fun p hp => by simp at hp; subst hp; exact n_least), (fun p hp => by simp at hp; subst hp; exact PySem.W.codeHd_of_K X h_least), fun s v => .of_eq rfl, fun H a ns hl _ hT hS => ⟨a, ns, rfl, hl, fun p hp => ?_, hS, fun _ => rfl⟩, fun base KB NB TB => ?_⟩
  · have hp : p ∈ [(PS_least, nmL)] := hp
    simp at hp
    subst hp; exact NdefX.TabN.nil (hT (cS_least, PS_least) (by simp))
  have C_leading_to := Cal.mk ⟨_, _, _, ok_leading (P := l.prog) (w := w) (base := base) F_leading m_enumerate, g_leading, k_leading, b_leading⟩
  have C_sorted_out := Cal.mk ⟨_, _, _, ok_sorted_out (P := l.prog) (w := w) (base := base) F_sout m_tuple, g_sout, k_sout, b_sout⟩
  have C_split := Cal.mk ⟨_, _, _, ok_split (P := l.prog) (w := w) (base := base) F_split m_sorted m_len m_list, g_split, k_split, b_split⟩
  have C_classes_of := Cal.mk ⟨_, _, _, ok_classes_of F_classes m_len m_range m_enumerate m_sorted m_list C_leading_to C_split C_sorted_out, g_classes, k_classes, b_classes⟩
  have C_by_coming := Cal.mk ⟨_, _, _, ok_comingI (P := l.prog) (w := w) (base := base) F_coming m_len, g_coming, k_coming, b_coming⟩
  have C_least := Cal.mk ⟨_, _, _, ok_least l_least c_least (TB (cS_least, PS_least) (by simp)) (show _ ∈ [(PS_least, nmL)] from List.mem_singleton.mpr rfl) (fun p hp _ => by have hp : p ∈ [(PS_least, nmL)] := hp; simp at hp; rw [hp]) m_enumerate C_classes_of C_by_coming, g_least, k_least, b_least⟩
  have C_l_draw := Cal.mk ⟨_, _, _, ok_draw (P := l.prog) (w := w) (base := base) F_ldraw m_len, g_ldraw, k_ldraw, b_ldraw⟩
  have C_l_marks := Cal.mk ⟨_, _, _, ok_marks F_lmarks m_range C_l_draw, g_lmarks, k_lmarks, b_lmarks⟩
  have C_l_things := Cal.mk ⟨_, _, _, ok_things F_lthings m_range C_l_draw C_l_marks, g_lthings, k_lthings, b_lthings⟩
  have C_l_machine := Cal.mk ⟨_, _, _, ok_machine F_lmach m_range m_min m_tuple C_l_draw, g_lmach, k_lmach, b_lmach⟩
  have C_l_copy := Cal.mk ⟨_, _, _, ok_lcopy (P := l.prog) (w := w) (base := base) F_lcopy m_list, g_lcopy, k_lcopy, b_lcopy⟩
  have C_l_whole := Cal.mk ⟨_, _, _, ok_whole (P := l.prog) (w := w) (base := base) F_lwhole m_isinstance m_int m_bool, g_lwhole, k_lwhole, b_lwhole⟩
  have C_l_is_machine := Cal.mk ⟨_, _, _, ok_is_machine F_lism m_isinstance m_tuple m_list m_bool m_len m_all m_min m_max C_l_whole, g_lism, k_lism, b_lism⟩
  have C_l_by_coming := Cal.mk ⟨_, _, _, ok_lbyc (P := l.prog) (w := w) (base := base) F_lbyc m_len m_list m_range, g_lbyc, k_lbyc, b_lbyc⟩
  have C_l_same_rows := Cal.mk ⟨_, _, _, ok_lsame (P := l.prog) (w := w) (base := base) F_lsame m_len m_range, g_lsame, k_lsame, b_lsame⟩
  have C_l_told_apart := Cal.mk ⟨_, _, _, ok_ltold (P := l.prog) (w := w) (base := base) F_ltold m_len m_range m_min m_max, g_ltold, k_ltold, b_ltold⟩
  have C_l_doubled := Cal.mk ⟨_, _, _, ok_doubled F_ldoub m_len C_l_draw, g_ldoub, k_ldoub, b_ldoub⟩
  exact frz_ok (fun ns hl => ⟨ns, rfl, hl, rfl⟩) ((ok_law F_law m_len m_list C_l_draw C_l_things C_l_machine C_l_doubled C_l_copy C_l_is_machine C_l_by_coming C_l_same_rows C_l_told_apart C_least).mono (by decide))
end M

open PySem PySem.W PyProof.Rows
set_option maxRecDepth 100000 in
set_option maxHeartbeats 0 in
theorem PySem.Challenge.cw_placesay_k05_whole_least_holds : PySem.Challenge.rw_placesay_k05_whole_least.Holds := by
  w_on; o_law; k_head; (case hw => w_witness2)
  k_fill
  refine LamX.walk_ofTs (l := PySem.Challenge.rw_placesay_k05_whole_least) (n := 63) (k := 20) (x := "_law_script") (CX := fun _ => L2.CX0) rfl (by rw [sizeLine_eq]; decide) rfl ⟨rfl, by decide, by decide⟩ (fun w h Y => PySem.W.km_in_of Y) ?F fun _ _ _ _ _ z => z
  case F =>
    intro w mg fa h Y KX G hmg
    refine' M.all_mk (PS_least := 36) KX G hmg (PySem.W.km_tabs_of Y 36 (by simp)) ?a_least ?l_least ?c_least ?k_least ?a_classes ?l_classes ?c_classes ?k_classes ?a_leading ?l_leading ?c_leading ?k_leading ?a_sout ?l_sout ?c_sout ?k_sout ?a_split ?l_split ?c_split ?k_split ?a_coming ?l_coming ?c_coming ?k_coming ?a_ldraw ?l_ldraw ?c_ldraw ?k_ldraw ?a_lmarks ?l_lmarks ?c_lmarks ?k_lmarks ?a_lthings ?l_lthings ?c_lthings ?k_lthings ?a_lmach ?l_lmach ?c_lmach ?k_lmach ?a_lcopy ?l_lcopy ?c_lcopy ?k_lcopy ?a_lwhole ?l_lwhole ?c_lwhole ?k_lwhole ?a_lism ?l_lism ?c_lism ?k_lism ?a_lbyc ?l_lbyc ?c_lbyc ?k_lbyc ?a_lsame ?l_lsame ?c_lsame ?k_lsame ?a_ltold ?l_ltold ?c_ltold ?k_ltold ?a_ldoub ?l_ldoub ?c_ldoub ?k_ldoub ?a_law ?l_law ?c_law ?k_law ?z_range ?z_len ?z_all ?z_isinstance ?z_bool ?z_int ?z_tuple ?z_list ?z_min ?z_max ?z_sorted ?z_enumerate ?h_least ?n_least
    (case a_least => k_is)
    (case l_least => k_is)
    (case c_least => k_is)
    (case k_least => k_is)
    (case a_classes => k_is)
    (case l_classes => k_is)
    (case c_classes => k_is)
    (case k_classes => k_is)
    (case a_leading => k_is)
    (case l_leading => k_is)
    (case c_leading => k_is)
    (case k_leading => k_is)
    (case a_sout => k_is)
    (case l_sout => k_is)
    (case c_sout => k_is)
    (case k_sout => k_is)
    (case a_split => k_is)
    (case l_split => k_is)
    (case c_split => k_is)
    (case k_split => k_is)
    (case a_coming => k_is)
    (case l_coming => k_is)
    (case c_coming => k_is)
    (case k_coming => k_is)
    (case a_ldraw => k_is)
    (case l_ldraw => k_is)
    (case c_ldraw => k_is)
    (case k_ldraw => k_is)
    (case a_lmarks => k_is)
    (case l_lmarks => k_is)
    (case c_lmarks => k_is)
    (case k_lmarks => k_is)
    (case a_lthings => k_is)
    (case l_lthings => k_is)
    (case c_lthings => k_is)
    (case k_lthings => k_is)
    (case a_lmach => k_is)
    (case l_lmach => k_is)
    (case c_lmach => k_is)
    (case k_lmach => k_is)
    (case a_lcopy => k_is)
    (case l_lcopy => k_is)
    (case c_lcopy => k_is)
    (case k_lcopy => k_is)
    (case a_lwhole => k_is)
    (case l_lwhole => k_is)
    (case c_lwhole => k_is)
    (case k_lwhole => k_is)
    (case a_lism => k_is)
    (case l_lism => k_is)
    (case c_lism => k_is)
    (case k_lism => k_is)
    (case a_lbyc => k_is)
    (case l_lbyc => k_is)
    (case c_lbyc => k_is)
    (case k_lbyc => k_is)
    (case a_lsame => k_is)
    (case l_lsame => k_is)
    (case c_lsame => k_is)
    (case k_lsame => k_is)
    (case a_ltold => k_is)
    (case l_ltold => k_is)
    (case c_ltold => k_is)
    (case k_ltold => k_is)
    (case a_ldoub => k_is)
    (case l_ldoub => k_is)
    (case c_ldoub => k_is)
    (case k_ldoub => k_is)
    (case a_law => k_is)
    (case l_law => k_is)
    (case c_law => k_is)
    (case k_law => k_is)
    (case z_range => k_is)
    (case z_len => k_is)
    (case z_all => k_is)
    (case z_isinstance => k_is)
    (case z_bool => k_is)
    (case z_int => k_is)
    (case z_tuple => k_is)
    (case z_list => k_is)
    (case z_min => k_is)
    (case z_max => k_is)
    (case z_sorted => k_is)
    (case z_enumerate => k_is)
    (case h_least => first | k_is | rfl)
    (case n_least => first | k_is | rfl)
