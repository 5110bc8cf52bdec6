import PyProof.Rows.All
import PySem.Spec
import Wide.All
import OpenK.AllK
import Wide.FinOn
import HandS.ForMost
import HandS.Exc
import HandS.ExcOwn
import HandS.ExcInit
import HandS.WordsExc
import HandS.Defaults
import HandS.IsInst
import HandS.Gcd
import HandS.Wide
import HandS.WideBits
import HandS.Conv
import HandS.Style
import HandS.Flow
import HandS.Zip
import HandS.GenList
import HandS.AnyAll
import HandS.TupAny
import HandS.ExcField
import KE.KStateDown
import HandS.Head0
import HandS.Head1
import HandS.Head2
import HandS.Head3
import HandS.HeadEnd
import HandS.HeadHook1
import HandS.HeadHook2
import HandS.HeadHook3
import HandS.HeadHook4
import HandS.HeadWalk
import PyProof.TupleOfGen
import PySem.Challenge.RW_sevenruns_k00_values
set_option exponentiation.threshold 10000
namespace Sv
/-- the defs that make generator expressions (of this law) -/
def tabNames : List PySem.Str := ["wide_sides", "point_box"]
end Sv
set_option Elab.async false
set_option linter.all false
set_option maxRecDepth 100000
set_option maxHeartbeats 4000000
/-! Programs over data: a def's body as a function of data, proved once for each construct. -/
namespace Sv
open PySem PySem.Spec PyProof.Rows L2

/-- data: what a value is, tuples and unchanging lists with all in them, a changing list by its number -/
inductive D where
  | non
  | bl (b : Bool)
  | int (i : Int)
  | str (x : Str)
  | tup (ds : List D)
  | lv (ds : List D)
  | fz (ds : List D)
  | loc (l : Nat)
  | ty (n : String)
abbrev S := List (List D)
abbrev En := List (Option D)
/-- the changing lists by number; the lists that are being made -/
structure Ms where
  l : List Addr
  h : List Addr
  t : List Addr
instance : Membership Addr Ms := ⟨fun m a => a ∈ m.l ∨ a ∈ m.h ∨ a ∈ m.t⟩
/-- x's code object at c, its table at P -/
def CodeTab (K : PySem.W.Frag) (x : Str) (c P : Addr) : Prop := ∃ (f : Addr) (oc : Value) (od : Option Addr) (fd : FuncData) (sl : Array (Option Value)) (e : Value) (dd : Option Addr) (vs : Array Value) (sl2 : Array (Option Value)),
  PySem.W.nsIn K mainGlobals x = some (some (.ref f)) ∧ K.lookup f = some ⟨oc, od, .func fd, sl⟩ ∧ fd.code = .ref c ∧ K.lookup c = some ⟨e, dd, .fields vs, sl2⟩ ∧ vs[11]? = some (.ref P)
def NeedTab (K : PySem.W.Frag) (P : Addr) : Prop := ∃ x ∈ tabNames, ∃ c, CodeTab K x c P
inductive R (α : Type) where
  | ok (x : α) (st : S)
  | err (c : Str) (fs : List (Str × D)) (st : S)
  | bad
inductive O where
  | nx (r : En) (st : S)
  | rt (d : D) (st : S)
  | bk (r : En) (st : S)
  | ct (r : En) (st : S)
  | err (c : Str) (fs : List (Str × D)) (r : En) (st : S)
  | bad
def R.bind {α β : Type} (x : R α) (f : α → S → R β) : R β := match x with
  | .ok a st => f a st
  | .err c fs st => .err c fs st
  | .bad => .bad

/-- a list that is read alone: of the heap, none of the changing ones; of the module -/
def FzL (K : PySem.W.Frag) (m : Ms) (H : Hp) (a : Addr) (vs : List V) : Prop := (Rd H a (.lst vs) ∧ a ∉ m) ∨
  ∃ (o : Obj) (its : Array Value) (n : Nat), K.lookup a = some o ∧ o.cls = .type "list" ∧ o.dict = none ∧ o.data = .seq its n ∧ its.size ≤ sizeLine ∧ Vals vs its.toList
theorem FzL.sq {K : PySem.W.Frag} {m : Ms} {H : Hp} {a : Addr} {vs : List V} (h : FzL K m H a vs) : SqL K H a vs := h.elim (fun z => Or.inl z.1) Or.inr
mutual
/-- the value v stands for the data d -/
def Rep (K : PySem.W.Frag) (m : Ms) (H : Hp) : D → V → Prop
  | .non, v => v = .non
  | .bl b, v => v = .bl b
  | .int i, v => v = .int i
  | .str x, v => v = .str x
  | .tup ds, v => ∃ a vs, v = .ref a ∧ SqT K H a vs ∧ Reps K m H ds vs
  | .lv ds, v => ∃ a vs, v = .ref a ∧ H a = some (.lst vs) ∧ a ∉ m ∧ Reps K m H ds vs
  | .fz ds, v => ∃ a vs, v = .ref a ∧ FzL K m H a vs ∧ Reps K m H ds vs
  | .ty n, v => v = .ty n
  | .loc l, v => ∃ a, v = .ref a ∧ m.l[l]? = some a
def Reps (K : PySem.W.Frag) (m : Ms) (H : Hp) : List D → List V → Prop
  | [], vs => vs = []
  | d :: ds, vs => ∃ v r, vs = v :: r ∧ Rep K m H d v ∧ Reps K m H ds r
end
/-- the changing lists -/
structure SO (K : PySem.W.Frag) (m : Ms) (H : Hp) (st : S) : Prop where
  len : m.l.length = st.length
  nd : m.l.Nodup
  dis : ∀ a ∈ m.h, a ∉ m.l
  hid : ∀ a ∈ m.h, ∃ vs, H a = some (.lst vs)
  tab : ∀ a ∈ m.t, GxR.TabG H a
  need : ∀ a, NeedTab K a → a ∈ m.t
  lst : ∀ (l : Nat) (a : Addr) (ds : List D), m.l[l]? = some a → st[l]? = some ds → ∃ vs, H a = some (.lst vs) ∧ Reps K m H ds vs
/-- the heap goes on: new lists may change, all else stands -/
structure Gr (m : Ms) (H : Hp) (m' : Ms) (H' : Hp) : Prop where
  more : ∃ new, m'.l = m.l ++ new ∧ ∀ a ∈ new, H a = none
  hid : ∃ nh, m'.h = nh ++ m.h ∧ ∀ a ∈ nh, H a = none
  tbl : m'.t = m.t
  keepL : ∀ a o, H a = some o → a ∉ m.l → a ∉ m.t → H' a = some o
  there : ∀ a o, H a = some o → ∃ o', H' a = some o'
/-- .. and lists in the making may change -/
structure Gw (m : Ms) (H : Hp) (m' : Ms) (H' : Hp) : Prop where
  more : ∃ new, m'.l = m.l ++ new ∧ ∀ a ∈ new, H a = none
  hid : ∃ nh, m'.h = nh ++ m.h ∧ ∀ a ∈ nh, H a = none
  tbl : m'.t = m.t
  keep : ∀ a o, H a = some o → a ∉ m → H' a = some o
  there : ∀ a o, H a = some o → ∃ o', H' a = some o'
/-- the names -/
structure EO (K : PySem.W.Frag) (m : Ms) (H : Hp) (σ : L2.St) (r : En) : Prop where
  len : σ.length = r.length
  get : ∀ (i : Nat) (d : D), r[i]? = some (some d) → ∃ v, σ[i]? = some (some v) ∧ Rep K m H d v

section
variable {K : PySem.W.Frag} {m m' m2 : Ms} {H H' H2 : Hp} {st st' : S} {σ : L2.St} {r : En} {d : D} {v : V}
theorem SO.mem (s : SO K m H st) {a : Addr} (h : a ∈ m) : ∃ o, H a = some o ∧ ((∃ vs, o = .lst vs) ∨ ∃ ps, o = .tbl ps) := by
  rcases h with h | h | h
  case inr.inr =>
    obtain ⟨ps, q, _⟩ := s.tab a h
    exact ⟨_, q, Or.inr ⟨ps, rfl⟩⟩
  case inr.inl =>
    obtain ⟨vs, q⟩ := s.hid a h
    exact ⟨_, q, Or.inl ⟨vs, rfl⟩⟩
  obtain ⟨l, hl, e⟩ := List.mem_iff_getElem.mp h
  have h2 : l < st.length := by rw [← s.len]; exact hl
  obtain ⟨vs, q, _⟩ := s.lst l a st[l] (by rw [List.getElem?_eq_getElem hl, e]) (List.getElem?_eq_getElem h2)
  exact ⟨_, q, Or.inl ⟨vs, rfl⟩⟩
theorem SO.memO (s : SO K m H st) {a : Addr} {o : HO} (h : a ∈ m) (e : H a = some o) : (∃ vs, o = .lst vs) ∨ ∃ ps, o = .tbl ps := by
  obtain ⟨o', q, r⟩ := s.mem h
  rw [e] at q
  cases q
  exact r
theorem SO.neT (s : SO K m H st) {a : Addr} {vs : List V} (h : H a = some (.lst vs)) : a ∉ m.t := fun z => by
  obtain ⟨ps, q, _⟩ := s.tab a z
  rw [h] at q
  cases q
theorem SO.tabN (s : SO K m H st) {H' : Hp} (h : ∀ a ps, H a = some (.tbl ps) → H' a = some (.tbl ps)) : ∀ a ∈ m.t, GxR.TabG H' a := fun a ha => by
  obtain ⟨ps, q, t⟩ := s.tab a ha
  exact ⟨ps, h a ps q, t⟩
theorem Gr.w (g : Gr m H m' H') : Gw m H m' H' := ⟨g.more, g.hid, g.tbl, fun a o h hn => g.keepL a o h (fun z => hn (Or.inl z)) fun z => hn (Or.inr (Or.inr z)), g.there⟩
theorem Gw.loc (g : Gw m H m' H') {l : Nat} {a : Addr} (h : m.l[l]? = some a) : m'.l[l]? = some a := by
  obtain ⟨n1, e1, _⟩ := g.more
  rw [e1, List.getElem?_append_left (List.getElem?_eq_some_iff.mp h).1]
  exact h
theorem Gw.fresh (g : Gw m H m' H') {a : Addr} (h : H' a = none) : H a = none := by
  cases e : H a with
  | none => rfl
  | some o =>
    obtain ⟨o', z⟩ := g.there a o e
    rw [h] at z
    cases z
theorem Gr.keep (g : Gr m H m' H') : ∀ a o, H a = some o → a ∉ m → H' a = some o := g.w.keep
theorem Gr.loc (g : Gr m H m' H') {l : Nat} {a : Addr} (h : m.l[l]? = some a) : m'.l[l]? = some a := by
  obtain ⟨n1, e1, _⟩ := g.more
  rw [e1, List.getElem?_append_left (List.getElem?_eq_some_iff.mp h).1]
  exact h
theorem Gr.refl : Gr m H m H := ⟨⟨[], by simp, by simp⟩, ⟨[], rfl, by simp⟩, rfl, fun _ _ h _ _ => h, fun _ o h => ⟨o, h⟩⟩
theorem Gr.fresh (g : Gr m H m' H') {a : Addr} (h : H' a = none) : H a = none := by
  cases e : H a with
  | none => rfl
  | some o =>
    obtain ⟨o', z⟩ := g.there a o e
    rw [h] at z
    cases z
theorem Gr.trans (g : Gr m H m' H') (k : Gr m' H' m2 H2) : Gr m H m2 H2 := by
  obtain ⟨n1, e1, f1⟩ := g.more
  obtain ⟨n2, e2, f2⟩ := k.more
  obtain ⟨b1, c1, d1⟩ := g.hid
  obtain ⟨b2, c2, d2⟩ := k.hid
  refine ⟨⟨n1 ++ n2, by rw [e2, e1, List.append_assoc], fun a ha => ?_⟩, ⟨b2 ++ b1, by rw [c2, c1, List.append_assoc], fun a ha => (List.mem_append.mp ha).elim (fun z => g.fresh (d2 a z)) fun z => d1 a z⟩, k.tbl.trans g.tbl, fun a o h hn ht => ?_, fun a o h => ?_⟩
  · rcases List.mem_append.mp ha with z | z
    · exact f1 a z
    · exact g.fresh (f2 a z)
  · refine k.keepL a o (g.keepL a o h hn ht) (fun z => ?_) fun z => ht (by rw [← g.tbl]; exact z)
    rw [e1] at z
    rcases List.mem_append.mp z with z | z
    · exact hn z
    · rw [f1 a z] at h
      cases h
  · obtain ⟨o', z⟩ := g.there a o h
    exact k.there a o' z
theorem Gw.notin (g : Gw m H m' H') {a : Addr} {o : HO} (h : H a = some o) (hn : a ∉ m) : a ∉ m' := fun z => by
  obtain ⟨n1, e1, f1⟩ := g.more
  rcases z with z | z | z
  · rw [e1] at z
    rcases List.mem_append.mp z with z | z
    · exact hn (Or.inl z)
    · rw [f1 a z] at h
      cases h
  · obtain ⟨b1, c1, d1⟩ := g.hid
    rw [c1] at z
    rcases List.mem_append.mp z with z | z
    · rw [d1 a z] at h
      cases h
    · exact hn (Or.inr (Or.inl z))
  · rw [g.tbl] at z
    exact hn (Or.inr (Or.inr z))
theorem Gw.trans (g : Gw m H m' H') (k : Gw m' H' m2 H2) : Gw m H m2 H2 := by
  obtain ⟨n1, e1, f1⟩ := g.more
  obtain ⟨n2, e2, f2⟩ := k.more
  obtain ⟨b1, c1, d1⟩ := g.hid
  obtain ⟨b2, c2, d2⟩ := k.hid
  refine ⟨⟨n1 ++ n2, by rw [e2, e1, List.append_assoc], fun a ha => ?_⟩, ⟨b2 ++ b1, by rw [c2, c1, List.append_assoc], fun a ha => (List.mem_append.mp ha).elim (fun z => g.fresh (d2 a z)) fun z => d1 a z⟩, k.tbl.trans g.tbl, fun a o h hn => ?_, fun a o h => ?_⟩
  · rcases List.mem_append.mp ha with z | z
    · exact f1 a z
    · exact g.fresh (f2 a z)
  · exact k.keep a o (g.keep a o h hn) (g.notin h hn)
  · obtain ⟨o', z⟩ := g.there a o h
    exact k.there a o' z
theorem Gw.rdT (g : Gw m H m' H') (s : SO K m H st) {a : Addr} {u : HO} (hu : ∀ vs, u ≠ .lst vs) (ht : ∀ ps, u ≠ .tbl ps) (h : Rd H a u) : Rd H' a u := by
  rcases h with h | ⟨o, h⟩
  · refine Or.inl (g.keep a _ h fun z => ?_)
    rcases s.memO z h with ⟨vs, q⟩ | ⟨vs, q⟩
    · exact hu vs q
    · exact ht vs q
  · refine Or.inr ⟨o, g.keep a _ h fun z => ?_⟩
    rcases s.memO z h with ⟨vs, q⟩ | ⟨vs, q⟩
    · cases q
    · cases q
theorem Gw.sqT (g : Gw m H m' H') (s : SO K m H st) {a : Addr} {vs : List V} (h : SqT K H a vs) : SqT K H' a vs := by
  rcases h with h | h
  · exact Or.inl (g.rdT s (fun _ z => by cases z) (fun _ z => by cases z) h)
  · exact Or.inr h
theorem Gw.rdL (g : Gw m H m' H') {a : Addr} {u : HO} (hn : a ∉ m) (h : Rd H a u) : Rd H' a u ∧ a ∉ m' := by
  rcases h with h | ⟨o, h⟩
  · exact ⟨Or.inl (g.keep a _ h hn), g.notin h hn⟩
  · exact ⟨Or.inr ⟨o, g.keep a _ h hn⟩, g.notin h hn⟩
mutual
theorem Rep.monoW (g : Gw m H m' H') (s : SO K m H st) : ∀ {d : D} {v : V}, Rep K m H d v → Rep K m' H' d v
  | .non, _, h => h
  | .bl _, _, h => h
  | .int _, _, h => h
  | .str _, _, h => h
  | .tup ds, v, h => by
    obtain ⟨a, vs, e, q, rs⟩ := h
    exact ⟨a, vs, e, g.sqT s q, Reps.monoW g s rs⟩
  | .lv ds, v, h => by
    obtain ⟨a, vs, e, q, n, rs⟩ := h
    exact ⟨a, vs, e, g.keep a _ q n, g.notin q n, Reps.monoW g s rs⟩
  | .ty _, _, h => h
  | .fz ds, v, h => by
    obtain ⟨a, vs, e, q, rs⟩ := h
    exact ⟨a, vs, e, q.imp (fun z => g.rdL z.2 z.1) fun z => z, Reps.monoW g s rs⟩
  | .loc l, v, h => by
    obtain ⟨a, e, q⟩ := h
    exact ⟨a, e, g.loc q⟩
theorem Reps.monoW (g : Gw m H m' H') (s : SO K m H st) : ∀ {ds : List D} {vs : List V}, Reps K m H ds vs → Reps K m' H' ds vs
  | [], _, h => h
  | d :: ds, vs, h => by
    obtain ⟨v, r, e, q, rs⟩ := h
    exact ⟨v, r, e, Rep.monoW g s q, Reps.monoW g s rs⟩
end
theorem Gr.notin (g : Gr m H m' H') {a : Addr} {o : HO} (h : H a = some o) (hn : a ∉ m) : a ∉ m' := g.w.notin h hn
theorem Gr.rdT (g : Gr m H m' H') (s : SO K m H st) {a : Addr} {u : HO} (hu : ∀ vs, u ≠ .lst vs) (ht : ∀ ps, u ≠ .tbl ps) (h : Rd H a u) : Rd H' a u := g.w.rdT s hu ht h
theorem Gr.sqT (g : Gr m H m' H') (s : SO K m H st) {a : Addr} {vs : List V} (h : SqT K H a vs) : SqT K H' a vs := g.w.sqT s h
theorem Gr.rdL (g : Gr m H m' H') {a : Addr} {u : HO} (hn : a ∉ m) (h : Rd H a u) : Rd H' a u ∧ a ∉ m' := g.w.rdL hn h
theorem Rep.mono (g : Gr m H m' H') (s : SO K m H st) {d : D} {v : V} (h : Rep K m H d v) : Rep K m' H' d v := Rep.monoW g.w s h
theorem Reps.mono (g : Gr m H m' H') (s : SO K m H st) {ds : List D} {vs : List V} (h : Reps K m H ds vs) : Reps K m' H' ds vs := Reps.monoW g.w s h
theorem Reps.len : ∀ {ds : List D} {vs : List V}, Reps K m H ds vs → vs.length = ds.length
  | [], _, h => by
    have e : _ = [] := h
    rw [e]
    rfl
  | d :: ds, vs, h => by
    obtain ⟨v, r, e, _, rs⟩ := h
    rw [e, List.length_cons, List.length_cons, Reps.len rs]
theorem Reps.get : ∀ {ds : List D} {vs : List V} {i : Nat} {d : D}, Reps K m H ds vs → ds[i]? = some d → ∃ v, vs[i]? = some v ∧ Rep K m H d v
  | [], _, i, d, _, e => by simp at e
  | d :: ds, vs, 0, d', h, e => by
    obtain ⟨v, r, ev, q, _⟩ := h
    have e' : d = d' := by simpa using e
    subst e'
    exact ⟨v, by rw [ev]; rfl, q⟩
  | d :: ds, vs, i + 1, d', h, e => by
    obtain ⟨v, r, ev, _, rs⟩ := h
    obtain ⟨w, h1, h2⟩ := Reps.get (i := i) (d := d') rs (by simpa using e)
    exact ⟨w, by rw [ev]; simpa using h1, h2⟩
theorem Reps.get' : ∀ {ds : List D} {vs : List V} {i : Nat} {v : V}, Reps K m H ds vs → vs[i]? = some v → ∃ d, ds[i]? = some d ∧ Rep K m H d v := fun {ds vs i v} h e => by
  have hl := Reps.len h
  have hi : i < ds.length := by rw [← hl]; exact (List.getElem?_eq_some_iff.mp e).1
  obtain ⟨w, h1, h2⟩ := Reps.get h (List.getElem?_eq_getElem hi)
  rw [e] at h1
  cases h1
  exact ⟨_, List.getElem?_eq_getElem hi, h2⟩
theorem Reps.of : ∀ {ds : List D} {vs : List V}, vs.length = ds.length → (∀ (i : Nat) (d : D) (v : V), ds[i]? = some d → vs[i]? = some v → Rep K m H d v) → Reps K m H ds vs
  | [], vs, e, _ => List.eq_nil_of_length_eq_zero e
  | d :: ds, [], e, _ => by simp at e
  | d :: ds, v :: vs, e, h => ⟨v, vs, rfl, h 0 d v rfl rfl, Reps.of (by simpa using e) fun i d' v' h1 h2 => h (i + 1) d' v' (by simpa using h1) (by simpa using h2)⟩
theorem Reps.append {ds es : List D} {vs ws : List V} (a : Reps K m H ds vs) (b : Reps K m H es ws) : Reps K m H (ds ++ es) (vs ++ ws) := by
  refine Reps.of (by rw [List.length_append, List.length_append, Reps.len a, Reps.len b]) fun i d v h1 h2 => ?_
  have la := Reps.len a
  by_cases hi : i < ds.length
  · rw [List.getElem?_append_left hi] at h1
    rw [List.getElem?_append_left (by omega)] at h2
    obtain ⟨w, h3, h4⟩ := Reps.get a h1
    rw [h2] at h3
    cases h3
    exact h4
  · rw [List.getElem?_append_right (by omega)] at h1
    rw [List.getElem?_append_right (by omega), la] at h2
    obtain ⟨w, h3, h4⟩ := Reps.get b h1
    rw [h2] at h3
    cases h3
    exact h4
theorem Reps.snoc {ds : List D} {vs : List V} {d : D} {v : V} (a : Reps K m H ds vs) (b : Rep K m H d v) : Reps K m H (ds ++ [d]) (vs ++ [v]) := Reps.append a ⟨v, [], rfl, b, rfl⟩
theorem EO.mono (g : Gr m H m' H') (s : SO K m H st) (h : EO K m H σ r) : EO K m' H' σ r := ⟨h.len, fun i d e => by
  obtain ⟨v, h1, h2⟩ := h.get i d e
  exact ⟨v, h1, Rep.mono g s h2⟩⟩
theorem EO.set (h : EO K m H σ r) (q : Rep K m H d v) (i : Nat) : EO K m H (σ.set i (some v)) (r.set i (some d)) := by
  refine ⟨by rw [List.length_set, List.length_set, h.len], fun j e he => ?_⟩
  by_cases hj : i = j
  · subst hj
    by_cases hl : i < r.length
    · rw [List.getElem?_set_self hl] at he
      cases he
      exact ⟨v, by rw [List.getElem?_set_self (by rw [h.len]; exact hl)], q⟩
    · rw [List.getElem?_eq_none_iff.mpr (by rw [List.length_set]; omega)] at he
      cases he
  · rw [List.getElem?_set_ne hj] at he
    obtain ⟨w, h1, h2⟩ := h.get j e he
    exact ⟨w, by rw [List.getElem?_set_ne hj]; exact h1, h2⟩
/-- a new object that is no changing list -/
theorem Gr.new {p : Addr} {o : HO} (h : H p = none) : Gr m H m (upd H p o) := by
  refine ⟨⟨[], by simp, by simp⟩, ⟨[], rfl, by simp⟩, rfl, fun a u e hn _ => ?_, fun a u e => ?_⟩
  · rw [upd_ne (ne_of_none e h)]
    exact e
  · exact ⟨u, by rw [upd_ne (ne_of_none e h)]; exact e⟩
theorem SO.new {p : Addr} {o : HO} (s : SO K m H st) (h : H p = none) : SO K m (upd H p o) st := by
  refine ⟨s.len, s.nd, s.dis, fun a ha => ?_, s.tabN fun a ps q => by rw [upd_ne (ne_of_none q h)]; exact q, s.need, fun l a ds e1 e2 => ?_⟩
  · obtain ⟨vs, q⟩ := s.hid a ha
    exact ⟨vs, by rw [upd_ne (ne_of_none q h)]; exact q⟩
  obtain ⟨vs, q, rs⟩ := s.lst l a ds e1 e2
  exact ⟨vs, by rw [upd_ne (ne_of_none q h)]; exact q, Reps.mono (Gr.new h) s rs⟩
/-- p is none of them -/
theorem SO.notin {p : Addr} (s : SO K m H st) (h : H p = none) : p ∉ m := fun z => by
  obtain ⟨o, q, _⟩ := s.mem z
  rw [h] at q
  cases q
/-- a new changing list -/
theorem SO.add {p : Addr} {ds : List D} {vs : List V} (s : SO K m H st) (hp : H p = none) (r : Reps K m H ds vs) : Gr m H ⟨m.l ++ [p], m.h, m.t⟩ (upd H p (.lst vs)) ∧ Rep K ⟨m.l ++ [p], m.h, m.t⟩ (upd H p (.lst vs)) (.loc st.length) (.ref p) ∧ SO K ⟨m.l ++ [p], m.h, m.t⟩ (upd H p (.lst vs)) (st ++ [ds]) := by
  have g : Gr m H ⟨m.l ++ [p], m.h, m.t⟩ (upd H p (.lst vs)) := by
    refine ⟨⟨[p], rfl, fun a ha => ?_⟩, ⟨[], rfl, by simp⟩, rfl, fun a u e hn _ => ?_, fun a u e => ⟨u, by rw [upd_ne (ne_of_none e hp)]; exact e⟩⟩
    · have z : a = p := by simpa using ha
      rw [z]
      exact hp
    · rw [upd_ne (ne_of_none e hp)]
      exact e
  have hn := s.notin hp
  refine ⟨g, ⟨p, rfl, ?_⟩, ⟨by simp [s.len], ?_, fun a ha z => ?_, fun a ha => ?_, s.tabN fun a ps q => by rw [upd_ne (ne_of_none q hp)]; exact q, s.need, fun l a ds' e1 e2 => ?_⟩⟩
  · rw [← s.len]
    simp
  · show (m.l ++ [p]).Nodup
    rw [List.nodup_append]
    refine ⟨s.nd, by simp, fun a ha b hb => ?_⟩
    have z : b = p := by simpa using hb
    rw [z]
    intro q
    rw [q] at ha
    exact hn (Or.inl ha)
  · rcases List.mem_append.mp (show a ∈ m.l ++ [p] from z) with z | z
    · exact s.dis a ha z
    · have z2 : a = p := by simpa using z
      rw [z2] at ha
      exact hn (Or.inr (Or.inl ha))
  · obtain ⟨ws, q⟩ := s.hid a ha
    exact ⟨ws, by rw [upd_ne (ne_of_none q hp)]; exact q⟩
  · have e1 : (m.l ++ [p])[l]? = some a := e1
    by_cases hl : l < m.l.length
    · rw [List.getElem?_append_left hl] at e1
      rw [List.getElem?_append_left (by rw [← s.len]; exact hl)] at e2
      obtain ⟨ws, q1, q2⟩ := s.lst l a ds' e1 e2
      exact ⟨ws, by rw [upd_ne (ne_of_none q1 hp)]; exact q1, Reps.mono g s q2⟩
    · rw [List.getElem?_append_right (by omega)] at e1
      rw [List.getElem?_append_right (by rw [← s.len]; omega), ← s.len] at e2
      have hz : l - m.l.length = 0 := by
        by_cases z : l - m.l.length = 0
        · exact z
        · rw [List.getElem?_eq_none_iff.mpr (by simp; omega)] at e1
          cases e1
      rw [hz] at e1 e2
      have z1 : p = a := by simpa using e1
      have z2 : ds = ds' := by simpa using e2
      subst z1 z2
      exact ⟨vs, upd_same, Reps.mono g s r⟩
mutual
theorem Rep.map (hl : ∀ (l : Nat) (a : Addr), m.l[l]? = some a → m'.l[l]? = some a) (ht : ∀ a vs, SqT K H a vs → SqT K H' a vs) (hL : ∀ a vs, H a = some (.lst vs) → a ∉ m → H' a = some (.lst vs) ∧ a ∉ m') (hf : ∀ a vs, Rd H a (.lst vs) → a ∉ m → Rd H' a (.lst vs) ∧ a ∉ m') :
    ∀ {d : D} {v : V}, Rep K m H d v → Rep K m' H' d v
  | .non, _, h => h
  | .bl _, _, h => h
  | .int _, _, h => h
  | .str _, _, h => h
  | .ty _, _, h => h
  | .tup ds, v, h => by
    obtain ⟨a, vs, e, q, rs⟩ := h
    exact ⟨a, vs, e, ht _ _ q, Reps.map hl ht hL hf rs⟩
  | .lv ds, v, h => by
    obtain ⟨a, vs, e, q, n, rs⟩ := h
    obtain ⟨q2, n2⟩ := hL a vs q n
    exact ⟨a, vs, e, q2, n2, Reps.map hl ht hL hf rs⟩
  | .fz ds, v, h => by
    obtain ⟨a, vs, e, q, rs⟩ := h
    exact ⟨a, vs, e, q.imp (fun z => hf a vs z.1 z.2) fun z => z, Reps.map hl ht hL hf rs⟩
  | .loc l, v, h => by
    obtain ⟨a, e, q⟩ := h
    exact ⟨a, e, hl l a q⟩
theorem Reps.map (hl : ∀ (l : Nat) (a : Addr), m.l[l]? = some a → m'.l[l]? = some a) (ht : ∀ a vs, SqT K H a vs → SqT K H' a vs) (hL : ∀ a vs, H a = some (.lst vs) → a ∉ m → H' a = some (.lst vs) ∧ a ∉ m') (hf : ∀ a vs, Rd H a (.lst vs) → a ∉ m → Rd H' a (.lst vs) ∧ a ∉ m') :
    ∀ {ds : List D} {vs : List V}, Reps K m H ds vs → Reps K m' H' ds vs
  | [], _, h => h
  | d :: ds, vs, h => by
    obtain ⟨v, r, e, q, rs⟩ := h
    exact ⟨v, r, e, Rep.map hl ht hL hf q, Reps.map hl ht hL hf rs⟩
end
/-- a list that is being made -/
theorem SO.hide {p : Addr} {vs : List V} (s : SO K m H st) (hp : H p = none) : Gr m H ⟨m.l, p :: m.h, m.t⟩ (upd H p (.lst vs)) ∧ SO K ⟨m.l, p :: m.h, m.t⟩ (upd H p (.lst vs)) st := by
  have g : Gr m H ⟨m.l, p :: m.h, m.t⟩ (upd H p (.lst vs)) := by
    refine ⟨⟨[], by simp, by simp⟩, ⟨[p], rfl, fun a ha => ?_⟩, rfl, fun a u e hn _ => ?_, fun a u e => ⟨u, by rw [upd_ne (ne_of_none e hp)]; exact e⟩⟩
    · have z : a = p := by simpa using ha
      rw [z]
      exact hp
    · rw [upd_ne (ne_of_none e hp)]
      exact e
  refine ⟨g, s.len, s.nd, fun a ha z => ?_, fun a ha => ?_, s.tabN fun a ps q => by rw [upd_ne (ne_of_none q hp)]; exact q, s.need, fun l a ds e1 e2 => ?_⟩
  · rcases List.mem_cons.mp (show a ∈ p :: m.h from ha) with q | q
    · rw [q] at z
      exact s.notin hp (Or.inl z)
    · exact s.dis a q z
  · rcases List.mem_cons.mp (show a ∈ p :: m.h from ha) with q | q
    · rw [q]
      exact ⟨vs, upd_same⟩
    · obtain ⟨ws, w⟩ := s.hid a q
      exact ⟨ws, by rw [upd_ne (ne_of_none w hp)]; exact w⟩
  · obtain ⟨ws, q1, q2⟩ := s.lst l a ds e1 e2
    exact ⟨ws, by rw [upd_ne (ne_of_none q1 hp)]; exact q1, Reps.mono g s q2⟩
section
variable {p : Addr} {vs : List V} (s : SO K m H st) (hp : p ∈ m.h)
include s hp
theorem Reps.made {ds : List D} {ws : List V} (r : Reps K m H ds ws) : Reps K m (upd H p (.lst vs)) ds ws := by
  obtain ⟨us, hu⟩ := s.hid p hp
  have ne : ∀ a o, H a = some o → (∀ q, o ≠ .lst q) → a ≠ p := fun a o h hn z => by
    rw [z, hu] at h
    exact hn us (Option.some.inj h).symm
  refine Reps.map (fun _ _ h => h) (fun a xs h => ?_) (fun a xs h hn => ⟨?_, hn⟩) (fun a xs h hn => ⟨?_, hn⟩) r
  · rcases h with (h | ⟨o, h⟩) | h
    · exact Or.inl (Or.inl (by rw [upd_ne (ne a _ h fun q z => by cases z)]; exact h))
    · exact Or.inl (Or.inr ⟨o, by rw [upd_ne (ne a _ h fun q z => by cases z)]; exact h⟩)
    · exact Or.inr h
  · rw [upd_ne (fun z => hn (by rw [z]; exact Or.inr (Or.inl hp)))]
    exact h
  · have np : a ≠ p := fun z => hn (by rw [z]; exact Or.inr (Or.inl hp))
    rcases h with h | ⟨o, h⟩
    · exact Or.inl (by rw [upd_ne np]; exact h)
    · exact Or.inr ⟨o, by rw [upd_ne np]; exact h⟩
theorem Rep.made {d : D} {w : V} (r : Rep K m H d w) : Rep K m (upd H p (.lst vs)) d w := by
  have z : Reps K m H [d] [w] := ⟨w, [], rfl, r, rfl⟩
  obtain ⟨w2, t, e, q, _⟩ := Reps.made (vs := vs) s hp z
  cases e
  exact q
theorem SO.made : SO K m (upd H p (.lst vs)) st := by
  refine ⟨s.len, s.nd, s.dis, fun a ha => ?_, s.tabN fun a ps q => ?_, s.need, fun l a ds e1 e2 => ?_⟩
  rotate_left
  · obtain ⟨us, hu⟩ := s.hid p hp
    rw [upd_ne (fun z => by rw [z, hu] at q; cases q)]
    exact q
  rotate_left
  · by_cases z : a = p
    · rw [z]
      exact ⟨vs, upd_same⟩
    · obtain ⟨ws, w⟩ := s.hid a ha
      exact ⟨ws, by rw [upd_ne z]; exact w⟩
  · obtain ⟨ws, q1, q2⟩ := s.lst l a ds e1 e2
    refine ⟨ws, ?_, Reps.made s hp q2⟩
    rw [upd_ne]
    · exact q1
    · intro z
      rw [z] at e1
      exact s.dis p hp (List.mem_of_getElem? e1)
theorem EO.made (E : EO K m H σ r) : EO K m (upd H p (.lst vs)) σ r := ⟨E.len, fun i d e => by
  obtain ⟨v, h1, h2⟩ := E.get i d e
  exact ⟨v, h1, Rep.made s hp h2⟩⟩
end
/-- the list is made -/
theorem Reps.show {p : Addr} {n1 n2 : List Addr} {c : Bool} (hm : m.h = n1 ++ p :: n2) {ds : List D} {ws : List V} (r : Reps K m H ds ws) : Reps K ⟨if c = true then m.l ++ [p] else m.l, n1 ++ n2, m.t⟩ H ds ws := by
  have back : ∀ a, a ∈ (⟨if c = true then m.l ++ [p] else m.l, n1 ++ n2, m.t⟩ : Ms) → a ∈ m := by
    intro a z
    rcases z with z | z | z
    · cases c
      · exact Or.inl z
      · rcases List.mem_append.mp (show a ∈ m.l ++ [p] from z) with z | z
        · exact Or.inl z
        · refine Or.inr (Or.inl ?_)
          rw [hm]
          have z2 : a = p := by simpa using z
          simp [z2]
    · refine Or.inr (Or.inl ?_)
      rw [hm]
      rcases List.mem_append.mp (show a ∈ n1 ++ n2 from z) with z | z
      · simp [z]
      · simp [z]
    · exact Or.inr (Or.inr z)
  refine Reps.map (fun l a h => ?_) (fun _ _ h => h) (fun a xs h hn => ⟨h, fun z => hn (back a z)⟩) (fun a xs h hn => ⟨h, fun z => hn (back a z)⟩) r
  cases c
  · exact h
  · show (m.l ++ [p])[l]? = some a
    rw [List.getElem?_append_left (List.getElem?_eq_some_iff.mp h).1]
    exact h
theorem SO.show {p : Addr} {n1 n2 : List Addr} {c : Bool} {ds : List D} {vs : List V} (s : SO K m H st) (hm : m.h = n1 ++ p :: n2) (hp : H p = some (.lst vs)) (h1 : p ∉ n1) (h2 : p ∉ n2) (r : Reps K m H ds vs) :
    SO K ⟨if c = true then m.l ++ [p] else m.l, n1 ++ n2, m.t⟩ H (if c = true then st ++ [ds] else st) ∧ Rep K ⟨if c = true then m.l ++ [p] else m.l, n1 ++ n2, m.t⟩ H (if c = true then .loc st.length else .lv ds) (.ref p) := by
  have hin : p ∈ m.h := by rw [hm]; simp
  have hnl := s.dis p hin
  have sub : ∀ a, a ∈ n1 ++ n2 → a ∈ m.h := fun a ha => by
    rw [hm]
    rcases List.mem_append.mp ha with z | z
    · simp [z]
    · simp [z]
  have hne : p ∉ n1 ++ n2 := fun z => (List.mem_append.mp z).elim h1 h2
  cases c with
  | false =>
    refine ⟨⟨s.len, s.nd, fun a ha => s.dis a (sub a ha), fun a ha => s.hid a (sub a ha), s.tab, s.need, fun l a es e1 e2 => ?_⟩, p, vs, rfl, hp, fun z => z.elim hnl fun z => z.elim hne (s.neT hp), Reps.show (c := false) hm r⟩
    obtain ⟨ws, q1, q2⟩ := s.lst l a es e1 e2
    exact ⟨ws, q1, Reps.show (c := false) hm q2⟩
  | true =>
    refine ⟨⟨?_, ?_, fun a ha z => ?_, fun a ha => s.hid a (sub a ha), s.tab, s.need, fun l a es e1 e2 => ?_⟩, p, rfl, ?_⟩
    · show (m.l ++ [p]).length = (st ++ [ds]).length
      simp [s.len]
    · show (m.l ++ [p]).Nodup
      rw [List.nodup_append]
      refine ⟨s.nd, by simp, fun a ha b hb => ?_⟩
      have z : b = p := by simpa using hb
      rw [z]
      intro q
      rw [q] at ha
      exact hnl ha
    · rcases List.mem_append.mp (show a ∈ m.l ++ [p] from z) with z | z
      · exact s.dis a (sub a ha) z
      · have z2 : a = p := by simpa using z
        rw [z2] at ha
        exact hne ha
    · have e1 : (m.l ++ [p])[l]? = some a := e1
      have e2 : (st ++ [ds])[l]? = some es := e2
      by_cases hl : l < m.l.length
      · rw [List.getElem?_append_left hl] at e1
        rw [List.getElem?_append_left (by rw [← s.len]; exact hl)] at e2
        obtain ⟨ws, q1, q2⟩ := s.lst l a es e1 e2
        exact ⟨ws, q1, Reps.show (c := true) hm q2⟩
      · rw [List.getElem?_append_right (by omega)] at e1
        rw [List.getElem?_append_right (by rw [← s.len]; omega), ← s.len] at e2
        have hz : l - m.l.length = 0 := by
          by_cases z : l - m.l.length = 0
          · exact z
          · rw [List.getElem?_eq_none_iff.mpr (by simp; omega)] at e1
            cases e1
        rw [hz] at e1 e2
        have z1 : p = a := by simpa using e1
        have z2 : ds = es := by simpa using e2
        subst z1 z2
        exact ⟨vs, hp, Reps.show (c := true) hm r⟩
    · show (m.l ++ [p])[st.length]? = some p
      rw [← s.len]
      simp
theorem SO.madeW {p : Addr} {vs : List V} (s : SO K m H st) (hp : p ∈ m.h) : Gw m H m (upd H p (.lst vs)) := by
  refine ⟨⟨[], by simp, by simp⟩, ⟨[], rfl, by simp⟩, rfl, fun a o h hn => ?_, fun a o h => ?_⟩
  · rw [upd_ne (fun z => hn (by rw [z]; exact Or.inr (Or.inl hp)))]
    exact h
  · by_cases z : a = p
    · rw [z]
      exact ⟨_, upd_same⟩
    · exact ⟨o, by rw [upd_ne z]; exact h⟩
end
end Sv
set_option Elab.async false
set_option linter.all false
set_option maxRecDepth 100000
set_option maxHeartbeats 4000000
namespace Sv
open PySem PySem.Spec PyProof.Rows L2

/-- an exception of the class named c, its fields fs -/
def Er (K : PySem.W.Frag) (mg : Str → Option Value) (m : Ms) (H : Hp) (cls : Value) (d : Option Addr) (c : Str) (fs : List (Str × D)) : Prop :=
  ∃ (C dx : Addr) (ws : List (Str × V)), mg c = some (.ref C) ∧ cls = .ref C ∧ d = some dx ∧ H dx = some (.xd ws) ∧ ws.map (·.1) = fs.map (·.1) ∧ Reps K m H (fs.map (·.2)) (ws.map (·.2))

abbrev G := En → S → R D
abbrev GT := En → S → R Bool
abbrev GA := En → S → R (List D)
abbrev GS := En → S → O
section
variable (K : PySem.W.Frag) (mg : Str → Option Value) (W : WX)
/-- the reading that a function of data gives -/
def tE (g : G) : TE := fun σ H Q => ∃ m r st, EO K m H σ r ∧ SO K m H st ∧ match g r st with
  | .ok d st' => ∀ v m' H', Gr m H m' H' → Rep K m' H' d v → SO K m' H' st' → Q v H'
  | .err c fs st' => ∀ cls d m' H', Gr m H m' H' → Er K mg m' H' cls d c fs → SO K m' H' st' → W cls d σ H'
  | .bad => False
def tT (g : GT) : TT := fun σ H Q => ∃ m r st, EO K m H σ r ∧ SO K m H st ∧ match g r st with
  | .ok b st' => ∀ m' H', Gr m H m' H' → SO K m' H' st' → Q b H'
  | .err c fs st' => ∀ cls d m' H', Gr m H m' H' → Er K mg m' H' cls d c fs → SO K m' H' st' → W cls d σ H'
  | .bad => False
def tA (g : GA) : TA := fun σ H Q => ∃ m r st, EO K m H σ r ∧ SO K m H st ∧ match g r st with
  | .ok ds st' => ∀ vs m' H', Gr m H m' H' → Reps K m' H' ds vs → SO K m' H' st' → Q vs H'
  | .err c fs st' => ∀ cls d m' H', Gr m H m' H' → Er K mg m' H' cls d c fs → SO K m' H' st' → W cls d σ H'
  | .bad => False
def tS (g : GS) : TS := fun D σ H => ∃ m r st, EO K m H σ r ∧ SO K m H st ∧ match g r st with
  | .nx r' st' => ∀ σ' m' H', Gr m H m' H' → EO K m' H' σ' r' → SO K m' H' st' → D.nx σ' H'
  | .bk r' st' => ∀ σ' m' H', Gr m H m' H' → EO K m' H' σ' r' → SO K m' H' st' → D.bk σ' H'
  | .ct r' st' => ∀ σ' m' H', Gr m H m' H' → EO K m' H' σ' r' → SO K m' H' st' → D.ct σ' H'
  | .rt d st' => ∀ v m' H', Gr m H m' H' → Rep K m' H' d v → SO K m' H' st' → D.rt v H'
  | .err c fs r' st' => ∀ cls d σ' m' H', Gr m H m' H' → Er K mg m' H' cls d c fs → EO K m' H' σ' r' → SO K m' H' st' → W cls d σ' H'
  | .bad => False
end
abbrev DE (X : Cx) (W : WX) (e : Expr) (g : G) : Prop := PE X e (tE X.K X.mg W g)
abbrev DT (X : Cx) (W : WX) (e : Expr) (g : GT) : Prop := PT X e (tT X.K X.mg W g)
abbrev DW (X : Cx) (W : WX) (e : Expr) (g : GT) : Prop := PW X e (tT X.K X.mg W g)
abbrev DA (X : Cx) (W : WX) (es : List Expr) (g : GA) : Prop := PA X es (tA X.K X.mg W g)
abbrev DS (X : Cx) (W : WX) (s : Stmt) (g : GS) : Prop := PS X s (tS X.K X.mg W g)
abbrev DB (X : Cx) (W : WX) (s : List Stmt) (g : GS) : Prop := PSs X s (tS X.K X.mg W g)

section
variable {X : Cx} {W : WX} {e a b c : Expr} {es : List Expr} {pos : Pos}
theorem PE.imp {t t' : TE} (h : PE X e t) (k : ∀ σ H Q, t' σ H Q → t σ H Q) : PE X e t' := ⟨fun pins s σ H Q I q => h.run pins s σ H Q I (k _ _ _ q)⟩
theorem PT.imp {t t' : TT} (h : PT X e t) (k : ∀ σ H Q, t' σ H Q → t σ H Q) : PT X e t' := ⟨fun pins s σ H Q I q => h.run pins s σ H Q I (k _ _ _ q)⟩
theorem PW.imp {t t' : TT} (h : PW X e t) (k : ∀ σ H Q, t' σ H Q → t σ H Q) : PW X e t' := ⟨fun wh pins s σ H Q I q => h.run wh pins s σ H Q I (k _ _ _ q)⟩
theorem PA.imp {t t' : TA} (h : PA X es t) (k : ∀ σ H Q, t' σ H Q → t σ H Q) : PA X es t' := ⟨fun p pins s σ H Q I q => h.run p pins s σ H Q I (k _ _ _ q)⟩
theorem PS.imp {s : Stmt} {t t' : TS} (h : PS X s t) (k : ∀ D σ H, t' D σ H → t D σ H) : PS X s t' := ⟨fun pins s σ H D I q => h.run pins s σ H D I (k _ _ _ q)⟩
theorem PSs.imp {s : List Stmt} {t t' : TS} (h : PSs X s t) (k : ∀ D σ H, t' D σ H → t D σ H) : PSs X s t' := ⟨fun pins s σ H D I q => h.run pins s σ H D I (k _ _ _ q)⟩

/-! ### names, constants -/
def gVar (i : Nat) : G := fun r st => match r[i]? with
  | some (some d) => .ok d st
  | _ => .bad
def gC (d : D) : G := fun _ st => .ok d st
theorem dv (i : Nat) {x : Str} {pos : Pos} (hN : X.N[i]? = some x := by rfl) (hv : Vis X.env.scope x := by first | exact Or.inl rfl | exact Or.inr (Or.inl rfl) | exact Or.inr (Or.inr rfl)) (hd : (x == ("__debug__" : Str)) = false := by decide)
    (hcd : (x == ("__classdict__" : Str)) = false := by decide) : DE X W (.Name x pos) (gVar i) := by
  refine PE.imp (pe_var hN hv hd hcd) fun σ H Q h => ?_
  obtain ⟨m, r, st, E, s, h⟩ := h
  unfold gVar at h
  split at h
  · rename_i d e
    split at e
    · rename_i d' e'
      cases e
      obtain ⟨v, h1, h2⟩ := E.get i _ e'
      exact ⟨v, h1, h v m H Gr.refl h2 s⟩
    · cases e
  · rename_i e
    split at e <;> cases e
  · exact h.elim
theorem dC {v : V} {d : D} (h : PE X e (tC v)) (hr : ∀ m H, Rep X.K m H d v) : DE X W e (gC d) := by
  refine PE.imp h fun σ H Q h => ?_
  obtain ⟨m, r, st, E, s, h⟩ := h
  exact h v m H Gr.refl (hr m H) s
theorem dint {i : Int} {j pos} : DE X W (.Constant (.int i) j pos) (gC (.int i)) := dC pe_int fun _ _ => rfl
theorem dbl {i : Bool} {j pos} : DE X W (.Constant (.bool i) j pos) (gC (.bl i)) := dC pe_bl fun _ _ => rfl
theorem dnon {j pos} : DE X W (.Constant .none j pos) (gC .non) := dC pe_non fun _ _ => rfl
theorem dstr {i : Str} {j pos} : DE X W (.Constant (.str i) j pos) (gC (.str i)) := dC pe_str fun _ _ => rfl
/-- a module's constant -/
theorem dglob {x : Str} {v : V} {u : Value} {d : D} (hm : X.mg x = some u) (rv : RelV v u) (hr : ∀ m H, Rep X.K m H d v) (hg : Gl X x := by rfl) (hd : (x == ("__debug__" : Str)) = false := by decide) : DE X W (.Name x pos) (gC d) := dC (pe_glob hg hm rv hd) hr

/-! ### two in a row -/
def gBin (f : D → D → S → R D) (ga gb : G) : G := fun r st => match ga r st with
  | .ok x st1 => (match gb r st1 with
    | .ok y st2 => f x y st2
    | .err c fs s => .err c fs s
    | .bad => .bad)
  | .err c fs s => .err c fs s
  | .bad => .bad
/-- what follows, in general: run ga, then k -/
theorem tE_use {K : PySem.W.Frag} {mg : Str → Option Value} {σ : L2.St} {H : Hp} {Q : VK} {m : Ms} {r : En} {st : S} {g : G} (E : EO K m H σ r) (s : SO K m H st)
    (h : match g r st with
      | .ok d st' => ∀ v m' H', Gr m H m' H' → Rep K m' H' d v → SO K m' H' st' → Q v H'
      | .err c fs st' => ∀ cls d m' H', Gr m H m' H' → Er K mg m' H' cls d c fs → SO K m' H' st' → W cls d σ H'
      | .bad => False) : tE K mg W g σ H Q := ⟨m, r, st, E, s, h⟩
/-- an operation on values that does what f says -/
def OpOk (K : PySem.W.Frag) (r : R2) (f : D → D → S → R D) : Prop := ∀ (m : Ms) (H : Hp) (st : S) (x y : D) (v u : V) (Q : VK), Rep K m H x v → Rep K m H y u → SO K m H st →
  match f x y st with
  | .ok d st' => (∀ w m' H', Gr m H m' H' → Rep K m' H' d w → SO K m' H' st' → Q w H') → r v u H Q
  | .err _ _ _ => False
  | .bad => True
theorem dop2 {r2 : R2} {f : D → D → S → R D} {ga gb : G} (hk : OpOk X.K r2 f) (h : ∀ {ta tb : TE}, PE X a ta → PE X b tb → PE X e (tOp r2 ta tb)) (ha : DE X W a ga) (hb : DE X W b gb) : DE X W e (gBin f ga gb) := by
  refine PE.imp (h ha hb) fun σ H Q q => ?_
  obtain ⟨m, r, st, E, s, q⟩ := q
  unfold gBin at q
  show tE X.K X.mg W ga σ H fun x H1 => tE X.K X.mg W gb σ H1 fun y H2 => r2 x y H2 Q
  refine tE_use E s ?_
  cases ea : ga r st with
  | bad => rw [ea] at q; exact q
  | err c fs st1 => rw [ea] at q; exact q
  | ok x st1 =>
    rw [ea] at q
    dsimp only at q ⊢
    intro v m1 H1 g1 r1 s1
    refine tE_use (E.mono g1 s) s1 ?_
    cases eb : gb r st1 with
    | bad => rw [eb] at q; exact q
    | err c fs st2 =>
      rw [eb] at q
      intro cls d m2 H2 g2 er s2
      exact q cls d m2 H2 (g1.trans g2) er s2
    | ok y st2 =>
      rw [eb] at q
      dsimp only at q ⊢
      intro u m2 H2 g2 r2' s2
      have k := hk m2 H2 st2 x y v u Q (Rep.mono g2 s1 r1) r2' s2
      cases ef : f x y st2 with
      | bad => rw [ef] at q; exact q.elim
      | err c fs st3 => rw [ef] at k; exact k.elim
      | ok d st3 =>
        rw [ef] at q k
        exact k fun w m3 H3 g3 r3 s3 => q w m3 H3 ((g1.trans g2).trans g3) r3 s3
theorem dbin {op : Operator} {r2 : R2} {f : D → D → S → R D} {ga gb : G} (ho : OpR X (binaryOp op) r2) (hk : OpOk X.K r2 f) (ha : DE X W a ga) (hb : DE X W b gb) : DE X W (.BinOp a op b pos) (gBin f ga gb) := dop2 hk (fun h1 h2 => pe_op ho h1 h2) ha hb
theorem dcmp {op : CmpOp} {r2 : R2} {f : D → D → S → R D} {ga gb : G} (ho : OpR X (compareOp op) r2) (hk : OpOk X.K r2 f) (ha : DE X W a ga) (hb : DE X W b gb) (hm : behindInMarks op b = false := by first | exact nobehind _ (by decide) (by decide) | rfl) : DE X W (.Compare a [op] [b] pos) (gBin f ga gb) := dop2 hk (fun h1 h2 => pe_cmpR ho h1 h2 hm) ha hb
/-- two rules for one sign -/
def rOr (r r' : R2) : R2 := fun x y H Q => r x y H Q ∨ r' x y H Q
theorem opOr {h : Value → Value → Sem Value} {r r' : R2} (a : OpR X h r) (b : OpR X h r') : OpR X h (rOr r r') := fun pins s σ H x y v u Q I rx ry q => by
  rcases q with q | q
  · exact a pins s σ H x y v u Q I rx ry q
  · exact b pins s σ H x y v u Q I rx ry q
end
end Sv
set_option Elab.async false
set_option linter.all false
set_option maxRecDepth 100000
set_option maxHeartbeats 4000000
namespace Sv
open PySem PySem.Spec PyProof.Rows L2
/-! ### numbers -/
def fInt2 (C : Int → Int → Prop) [∀ i j, Decidable (C i j)] (g : Int → Int → D) : D → D → S → R D
  | .int i, .int j, st => if C i j then .ok (g i j) st else .bad
  | _, _, _ => .bad
theorem rep_int {K : PySem.W.Frag} {m : Ms} {H : Hp} {i : Int} {v : V} (h : Rep K m H (.int i) v) : v = .int i := h
theorem okInt2 {K : PySem.W.Frag} {C : Int → Int → Prop} [∀ i j, Decidable (C i j)] {g : Int → Int → D} {gv : Int → Int → V} {r2 : R2} (hr : ∀ i j H (Q : VK), C i j → Q (gv i j) H → r2 (.int i) (.int j) H Q) (hg : ∀ m H i j, Rep K m H (g i j) (gv i j)) : OpOk K r2 (fInt2 C g) := by
  intro m H st x y v u Q rx ry s
  cases x with
  | int i =>
    cases y with
    | int j =>
      show (match (if C i j then R.ok (g i j) st else R.bad) with
        | .ok d st' => (∀ w m' H', Gr m H m' H' → Rep K m' H' d w → SO K m' H' st' → Q w H') → r2 v u H Q
        | .err _ _ _ => False
        | .bad => True)
      by_cases c : C i j
      · rw [if_pos c]
        intro k
        have e1 : v = .int i := rx
        have e2 : u = .int j := ry
        subst e1 e2
        exact hr i j H Q c (k _ m H Gr.refl (hg m H i j) s)
      · rw [if_neg c]
        trivial
    | _ => trivial
  | _ => trivial
/-- sizes below which * and // go by themselves -/
def BIG : Nat := 2 ^ 8000
def MulC (i j : Int) : Prop := (i.natAbs < 2 ^ 60 ∨ j.natAbs < 2 ^ 60) ∨ (i.natAbs < BIG ∧ j.natAbs < BIG)
def DivC (i j : Int) : Prop := j ≠ 0 ∧ j.natAbs < BIG
def ShC (i j : Int) : Prop := (0 ≤ j ∧ j ≤ 1000) ∧ i.natAbs < 2 ^ 60
instance (i j : Int) : Decidable (MulC i j) := by unfold MulC; infer_instance
instance (i j : Int) : Decidable (DivC i j) := by unfold DivC; infer_instance
instance (i j : Int) : Decidable (ShC i j) := by unfold ShC; infer_instance
theorem MulC.ok {i j : Int} (h : MulC i j) : IntMulOk i j := by
  rcases h with (h | h) | ⟨h1, h2⟩
  · exact (show CMul i j from Or.inl ⟨by omega, by omega⟩).ok
  · exact (show CMul i j from Or.inr ⟨by omega, by omega⟩).ok
  · exact (wide_mul (a := 8000) (b := 8000) h1 h2 (Nat.succ_pos 7999) (Nat.succ_pos 7999) (by decide)).ok
theorem log2_big {n : Nat} (h : n < BIG) : n.log2 < 9000 := by
  have h2 := PySem.Flt.log2_lt_of (show 0 < 8000 by decide) (show n < 2 ^ 8000 from h)
  omega
section
variable {X : Cx} {W : WX} {a b c e : Expr} {es : List Expr} {pos : Pos} {ga gb : G}
theorem op_mulG : OpR X (binaryOp .Mult) (rI MulC fun i j => .int (i * j)) := opI fun _ _ _ _ _ _ _ hc q => mul_int q hc.ok
theorem op_fdivG : OpR X (binaryOp .FloorDiv) (rI DivC fun i j => .int (i.fdiv j)) := opI fun i j _ _ _ _ _ hc q => floordiv_int hc.1 q (.inl (PyProof.noPylong_of_log2 (log2_big hc.2)))
def fAddI := fInt2 (fun _ _ => True) fun i j => .int (i + j)
def fSub := fInt2 (fun _ _ => True) fun i j => .int (i - j)
def fMul := fInt2 MulC fun i j => .int (i * j)
def fDiv := fInt2 DivC fun i j => .int (i.fdiv j)
def fMod := fInt2 (fun _ j => j ≠ 0) fun i j => .int (i.fmod j)
def fShl := fInt2 ShC fun i j => .int (i * 2 ^ j.toNat)
def fShr := fInt2 (fun _ j => 0 ≤ j) fun i j => .int (i / 2 ^ j.toNat)
def fAnd := fInt2 (fun _ _ => True) fun i j => .int (Builtin.bitAnd i j)
def fLt := fInt2 (fun _ _ => True) fun i j => .bl (decide (i < j))
def fLe := fInt2 (fun _ _ => True) fun i j => .bl (decide (i ≤ j))
def fGt := fInt2 (fun _ _ => True) fun i j => .bl (decide (j < i))
def fGe := fInt2 (fun _ _ => True) fun i j => .bl (decide (j ≤ i))
theorem dsub (ha : DE X W a ga) (hb : DE X W b gb) : DE X W (.BinOp a .Sub b pos) (gBin fSub ga gb) := dbin op_sub (okInt2 (fun i j H Q _ q => ⟨i, j, rfl, rfl, q⟩) fun _ _ _ _ => rfl) ha hb
theorem dmul (ha : DE X W a ga) (hb : DE X W b gb) : DE X W (.BinOp a .Mult b pos) (gBin fMul ga gb) := dbin op_mulG (okInt2 (fun i j H Q c q => ⟨i, j, rfl, rfl, c, q⟩) fun _ _ _ _ => rfl) ha hb
theorem ddiv (ha : DE X W a ga) (hb : DE X W b gb) : DE X W (.BinOp a .FloorDiv b pos) (gBin fDiv ga gb) := dbin op_fdivG (okInt2 (fun i j H Q c q => ⟨i, j, rfl, rfl, c, q⟩) fun _ _ _ _ => rfl) ha hb
theorem dmod (ha : DE X W a ga) (hb : DE X W b gb) : DE X W (.BinOp a .Mod b pos) (gBin fMod ga gb) := dbin op_modN (okInt2 (fun i j H Q c q => ⟨i, j, rfl, rfl, c, q⟩) fun _ _ _ _ => rfl) ha hb
theorem dshl (ha : DE X W a ga) (hb : DE X W b gb) : DE X W (.BinOp a .LShift b pos) (gBin fShl ga gb) := dbin op_shl (okInt2 (fun i j H Q c q => ⟨i, j, rfl, rfl, ⟨c.1.1, Int.le_trans c.1.2 (by decide), Nat.lt_trans c.2 (by decide)⟩, q⟩) fun _ _ _ _ => rfl) ha hb
theorem dshr (ha : DE X W a ga) (hb : DE X W b gb) : DE X W (.BinOp a .RShift b pos) (gBin fShr ga gb) := dbin op_shr (okInt2 (fun i j H Q c q => ⟨i, j, rfl, rfl, c, q⟩) fun _ _ _ _ => rfl) ha hb
theorem dand (ha : DE X W a ga) (hb : DE X W b gb) : DE X W (.BinOp a .BitAnd b pos) (gBin fAnd ga gb) := dbin op_and (okInt2 (fun i j H Q _ q => ⟨i, j, rfl, rfl, q⟩) fun _ _ _ _ => rfl) ha hb
/-- +: numbers, texts, tuples, lists -/
def nl (c : Bool) (ds : List D) (st : S) : R D := if ds.length ≤ 100000 then (if c = true then .ok (.loc st.length) (st ++ [ds]) else .ok (.lv ds) st) else .bad
def fAdd (c : Bool) : D → D → S → R D
  | .int i, .int j, st => .ok (.int (i + j)) st
  | .str x, .str y, st => if x.length + y.length ≤ 100000 then .ok (.str (x ++ y)) st else .bad
  | .tup xs, .tup ys, st => if xs.length + ys.length ≤ 100000 then .ok (.tup (xs ++ ys)) st else .bad
  | .lv xs, .lv ys, st => nl c (xs ++ ys) st
  | _, _, _ => .bad
theorem sz {n : Nat} (h : n ≤ 100000) : n ≤ sizeLine := Nat.le_trans h (by decide)
/-- a new list -/
theorem newL {K : PySem.W.Frag} {m : Ms} {H : Hp} {st : S} {ds : List D} {vs : List V} {c : Bool} {Q : VK} {p : Addr} {d : D} {st' : S} (s : SO K m H st) (r : Reps K m H ds vs) (hp : H p = none) (e : nl c ds st = .ok d st')
    (k : ∀ w m' H', Gr m H m' H' → Rep K m' H' d w → SO K m' H' st' → Q w H') : Q (.ref p) (upd H p (.lst vs)) := by
  unfold nl at e
  split at e
  · split at e
    · cases e
      obtain ⟨g, r2, s2⟩ := s.add hp r
      exact k _ _ _ g r2 s2
    · cases e
      have g : Gr m H m (upd H p (.lst vs)) := Gr.new hp
      exact k _ m _ g ⟨p, vs, rfl, upd_same, s.notin hp, Reps.mono g s r⟩ (s.new hp)
  · cases e
theorem nl_len {c : Bool} {ds : List D} {st st' : S} {d : D} (e : nl c ds st = .ok d st') : ds.length ≤ 100000 := by
  unfold nl at e
  split at e
  · assumption
  · cases e
theorem nl_noerr {c : Bool} {ds : List D} {st st' : S} {x : Str} {fs : List (Str × D)} (e : nl c ds st = .err x fs st') : False := by
  unfold nl at e
  split at e
  · split at e <;> cases e
  · cases e
theorem newT {K : PySem.W.Frag} {m : Ms} {H : Hp} {st : S} {ds : List D} {vs : List V} {Q : VK} {p : Addr} (s : SO K m H st) (r : Reps K m H ds vs) (hp : H p = none)
    (k : ∀ w m' H', Gr m H m' H' → Rep K m' H' (.tup ds) w → SO K m' H' st → Q w H') : Q (.ref p) (upd H p (.tup vs)) :=
  k _ m _ (Gr.new hp) ⟨p, vs, rfl, Or.inl (Or.inl upd_same), Reps.mono (Gr.new hp) s r⟩ (s.new hp)
theorem Rep.same {K : PySem.W.Frag} {m : Ms} {H : Hp} {st : S} {d : D} {v : V} {Q : VK} (s : SO K m H st) (r : Rep K m H d v) (k : ∀ w m' H', Gr m H m' H' → Rep K m' H' d w → SO K m' H' st → Q w H') : Q v H := k v m H Gr.refl r s
def rAddU (K : PySem.W.Frag) : R2 := rOr (rI0 fun i j => .int (i + j)) (rOr (fun x y H Q => ∃ i j, x = .str i ∧ y = .str j ∧ i.length + j.length ≤ sizeLine ∧ Q (.str (i ++ j)) H) (rOr (rCatA K) rCat))
/-- what OpOk asks of an answer -/
abbrev Ans (K : PySem.W.Frag) (m : Ms) (H : Hp) (a : R D) (Q : VK) (P : Prop) : Prop := match a with
  | .ok d st' => (∀ w m' H', Gr m H m' H' → Rep K m' H' d w → SO K m' H' st' → Q w H') → P
  | .err _ _ _ => False
  | .bad => True
theorem ans_nl {K : PySem.W.Frag} {m : Ms} {H : Hp} {c : Bool} {ds : List D} {st : S} {Q : VK} {P : Prop} (h : ∀ d st', nl c ds st = .ok d st' → (∀ w m' H', Gr m H m' H' → Rep K m' H' d w → SO K m' H' st' → Q w H') → P) : Ans K m H (nl c ds st) Q P := by
  cases e : nl c ds st with
  | ok d st' => exact h d st' e
  | err x fs st' => exact nl_noerr e
  | bad => trivial
theorem ans_if {K : PySem.W.Frag} {m : Ms} {H : Hp} {c : Prop} [Decidable c] {a : R D} {Q : VK} {P : Prop} (h : c → Ans K m H a Q P) : Ans K m H (if c then a else .bad) Q P := by
  by_cases z : c
  · rw [if_pos z]
    exact h z
  · rw [if_neg z]
    trivial
theorem ok_add {c : Bool} : OpOk X.K (rAddU X.K) (fAdd c) := by
  intro m H st x y v u Q rx ry s
  show Ans X.K m H (fAdd c x y st) Q _
  cases x with
  | int i =>
    cases y with
    | int j =>
      intro k
      have e1 : v = .int i := rx
      have e2 : u = .int j := ry
      subst e1 e2
      exact Or.inl ⟨i, j, rfl, rfl, k _ m H Gr.refl rfl s⟩
    | _ => trivial
  | str i =>
    cases y with
    | str j =>
      refine ans_if fun hl k => ?_
      have e1 : v = .str i := rx
      have e2 : u = .str j := ry
      subst e1 e2
      exact Or.inr (Or.inl ⟨i, j, rfl, rfl, sz hl, k _ m H Gr.refl rfl s⟩)
    | _ => trivial
  | tup xs =>
    cases y with
    | tup ys =>
      refine ans_if fun hl k => ?_
      obtain ⟨p, vs, e1, q1, r1⟩ := rx
      obtain ⟨q, us, e2, q2, r2⟩ := ry
      subst e1 e2
      have l1 := Reps.len r1
      have l2 := Reps.len r2
      refine Or.inr (Or.inr (Or.inl ⟨p, q, vs, us, rfl, rfl, q1, q2, by rw [l1, l2]; exact sz hl, fun z => ?_, fun z1 z2 => ?_, fun z1 z2 t ht => ?_⟩))
      · have hx : xs = [] := List.eq_nil_of_length_eq_zero (by rw [← l1, z]; rfl)
        subst hx
        exact k _ m H Gr.refl ⟨q, us, rfl, q2, r2⟩ s
      · have hy : ys = [] := List.eq_nil_of_length_eq_zero (by rw [← l2, z2]; rfl)
        subst hy
        refine k _ m H Gr.refl ⟨p, vs, rfl, q1, ?_⟩ s
        rw [List.append_nil]
        exact r1
      · exact newT s (Reps.append r1 r2) ht k
    | _ => trivial
  | lv xs =>
    cases y with
    | lv ys =>
      refine ans_nl fun d st' e k => ?_
      obtain ⟨p, vs, e1, q1, n1, r1⟩ := rx
      obtain ⟨q, us, e2, q2, n2, r2⟩ := ry
      subst e1 e2
      have l := nl_len e
      rw [List.length_append, ← Reps.len r1, ← Reps.len r2] at l
      exact Or.inr (Or.inr (Or.inr ⟨p, q, vs, us, rfl, rfl, q1, q2, sz l, fun t ht => newL s (Reps.append r1 r2) ht e k⟩))
    | _ => trivial
  | _ => trivial
theorem dadd {c : Bool} (ha : DE X W a ga) (hb : DE X W b gb) : DE X W (.BinOp a .Add b pos) (gBin (fAdd c) ga gb) := dbin (opOr op_add (opOr op_add_str (opOr op_catA op_cat))) ok_add ha hb
theorem dlt (ha : DE X W a ga) (hb : DE X W b gb) : DE X W (.Compare a [.Lt] [b] pos) (gBin fLt ga gb) := dcmp op_lt (okInt2 (fun i j H Q _ q => ⟨i, j, rfl, rfl, q⟩) fun _ _ _ _ => rfl) ha hb
theorem dle (ha : DE X W a ga) (hb : DE X W b gb) : DE X W (.Compare a [.LtE] [b] pos) (gBin fLe ga gb) := dcmp op_le (okInt2 (fun i j H Q _ q => ⟨i, j, rfl, rfl, q⟩) fun _ _ _ _ => rfl) ha hb
theorem dgt (ha : DE X W a ga) (hb : DE X W b gb) : DE X W (.Compare a [.Gt] [b] pos) (gBin fGt ga gb) := dcmp op_gt (okInt2 (fun i j H Q _ q => ⟨i, j, rfl, rfl, q⟩) fun _ _ _ _ => rfl) ha hb
theorem dge (ha : DE X W a ga) (hb : DE X W b gb) : DE X W (.Compare a [.GtE] [b] pos) (gBin fGe ga gb) := dcmp op_ge (okInt2 (fun i j H Q _ q => ⟨i, j, rfl, rfl, q⟩) fun _ _ _ _ => rfl) ha hb
end
end Sv
set_option Elab.async false
set_option linter.all false
set_option maxRecDepth 100000
set_option maxHeartbeats 4000000
namespace Sv
open PySem PySem.Spec PyProof.Rows L2
/-! ### == -/
mutual
def D.py : D → Option PyData
  | .non => some .none
  | .bl b => some (.bool b)
  | .int i => some (.int i)
  | .str x => some (.str x)
  | .tup ds => (D.pys ds).map .tuple
  | .lv ds => (D.pys ds).map .list
  | .fz ds => (D.pys ds).map .list
  | .loc _ => none
  | .ty _ => none
def D.pys : List D → Option (List PyData)
  | [] => some []
  | d :: ds => (D.py d).bind fun a => (D.pys ds).map fun r => a :: r
end
section
variable {K : PySem.W.Frag} {m : Ms} {H : Hp} {st : S}
mutual
theorem dp_of : ∀ {d : D} {v : V} {p : PyData}, Rep K m H d v → d.py = some p → Dp K H v p
  | .non, v, p, h, e => by
    have e1 : v = .non := h
    subst e1
    cases e
    exact .non
  | .bl b, v, p, h, e => by
    have e1 : v = .bl b := h
    subst e1
    cases e
    exact .bl b
  | .int i, v, p, h, e => by
    have e1 : v = .int i := h
    subst e1
    cases e
    exact .int i
  | .str x, v, p, h, e => by
    have e1 : v = .str x := h
    subst e1
    cases e
    exact .str x
  | .tup ds, v, p, h, e => by
    obtain ⟨a, vs, ev, q, r⟩ := h
    have e2 : (D.pys ds).map PyData.tuple = some p := e
    cases z : D.pys ds with
    | none =>
      rw [z] at e2
      cases e2
    | some ps =>
      rw [z] at e2
      cases e2
      rw [ev]
      exact .tup q (dps_of r z)
  | .lv ds, v, p, h, e => by
    obtain ⟨a, vs, ev, q, _, r⟩ := h
    have e2 : (D.pys ds).map PyData.list = some p := e
    cases z : D.pys ds with
    | none =>
      rw [z] at e2
      cases e2
    | some ps =>
      rw [z] at e2
      cases e2
      rw [ev]
      exact .lst (Or.inl (Or.inl q)) (dps_of r z)
  | .fz ds, v, p, h, e => by
    obtain ⟨a, vs, ev, q, r⟩ := h
    have e2 : (D.pys ds).map PyData.list = some p := e
    cases z : D.pys ds with
    | none =>
      rw [z] at e2
      cases e2
    | some ps =>
      rw [z] at e2
      cases e2
      rw [ev]
      exact .lst q.sq (dps_of r z)
  | .loc _, v, p, h, e => by cases e
  | .ty _, v, p, h, e => by cases e
theorem dps_of : ∀ {ds : List D} {vs : List V} {ps : List PyData}, Reps K m H ds vs → D.pys ds = some ps → DpAll K H vs ps
  | [], vs, ps, h, e => by
    have e1 : vs = [] := h
    subst e1
    cases e
    exact .nil
  | d :: ds, vs, ps, h, e => by
    obtain ⟨v, r, ev, q, rs⟩ := h
    have e2 : ((D.py d).bind fun a => (D.pys ds).map fun r => a :: r) = some ps := e
    cases z : D.py d with
    | none =>
      rw [z] at e2
      cases e2
    | some p =>
      rw [z] at e2
      have e3 : ((D.pys ds).map fun r => p :: r) = some ps := e2
      cases z2 : D.pys ds with
      | none =>
        rw [z2] at e3
        cases e3
      | some pr =>
        rw [z2] at e3
        cases e3
        rw [ev]
        exact .cons (dp_of q z) (dps_of rs z2)
end
end
/-- equal, of two plain values -/
def scq : D → D → Option Bool
  | .int i, .int j => some (decide (i = j))
  | .str x, .str y => some (decide (x = y))
  | .bl a, .bl b => some (decide (a = b))
  | _, _ => none
def fEqB (k : Bool → Bool) : D → D → S → R D := fun x y st => match scq x y with
  | some b => .ok (.bl (k b)) st
  | none => (match x.py, y.py with
    | some a, some b => if (SeqAt.shaped a && SeqAt.shaped b) = true then .ok (.bl (k (PyData.eqv a b))) st else .bad
    | _, _ => .bad)
section
variable {X : Cx} {W : WX} {a b c e : Expr} {es : List Expr} {pos : Pos} {ga gb : G}
theorem scq_ok {K : PySem.W.Frag} {m : Ms} {H : Hp} {x y : D} {v u : V} {q : Bool} (rx : Rep K m H x v) (ry : Rep K m H y u) (e : scq x y = some q) : scal v u = true ∧ decide (v = u) = q := by
  cases x <;> cases y <;> try (cases e; done)
  · have e1 : v = .bl _ := rx
    have e2 : u = .bl _ := ry
    subst e1 e2
    cases e
    exact ⟨rfl, by simp⟩
  · have e1 : v = .int _ := rx
    have e2 : u = .int _ := ry
    subst e1 e2
    cases e
    exact ⟨rfl, by simp⟩
  · have e1 : v = .str _ := rx
    have e2 : u = .str _ := ry
    subst e1 e2
    cases e
    exact ⟨rfl, by simp⟩
theorem ok_eqB {k : Bool → Bool} {r2 : R2} (h1 : ∀ x y H (Q : VK), scal x y = true → Q (.bl (k (decide (x = y)))) H → r2 x y H Q)
    (h2 : ∀ x y H (Q : VK) d e, Dp X.K H x d → Dp X.K H y e → SeqAt.shaped d = true → SeqAt.shaped e = true → Q (.bl (k (PyData.eqv d e))) H → r2 x y H Q) : OpOk X.K r2 (fEqB k) := by
  intro m H st x y v u Q rx ry s
  show Ans X.K m H (fEqB k x y st) Q _
  unfold fEqB
  cases es : scq x y with
  | some q =>
    intro kk
    obtain ⟨q1, q2⟩ := scq_ok rx ry es
    refine h1 v u H Q q1 ?_
    rw [q2]
    exact kk _ m H Gr.refl rfl s
  | none =>
    cases e1 : x.py with
    | none => trivial
    | some p =>
      cases e2 : y.py with
      | none => trivial
      | some p2 =>
        refine ans_if fun hs kk => ?_
        obtain ⟨z1, z2⟩ := Bool.and_eq_true_iff.mp hs
        exact h2 v u H Q p p2 (dp_of rx e1) (dp_of ry e2) z1 z2 (kk _ m H Gr.refl rfl s)
def fEq := fEqB id
def fNe := fEqB not
theorem deq (hu : X.A.units + 64 < cLine) (ha : DE X W a ga) (hb : DE X W b gb) : DE X W (.Compare a [.Eq] [b] pos) (gBin fEq ga gb) :=
  dcmp (opOr op_eq (op_eqD hu)) (ok_eqB (fun x y H Q h q => Or.inl ⟨h, q⟩) fun x y H Q d e h1 h2 h3 h4 q => Or.inr ⟨d, e, h1, h2, h3, h4, q⟩) ha hb
theorem dne (hu : X.A.units + 64 < cLine) (ha : DE X W a ga) (hb : DE X W b gb) : DE X W (.Compare a [.NotEq] [b] pos) (gBin fNe ga gb) :=
  dcmp (opOr op_ne (op_neD hu)) (ok_eqB (fun x y H Q h q => Or.inl ⟨h, q⟩) fun x y H Q d e h1 h2 h3 h4 q => Or.inr ⟨d, e, h1, h2, h3, h4, q⟩) ha hb
/-! ### is None, is True -/
def isNone : D → Bool
  | .non => true
  | _ => false
def fIs (k : Bool → Bool) : D → D → S → R D
  | x, .non, st => .ok (.bl (k (isNone x))) st
  | .bl a, .bl b, st => .ok (.bl (k (decide (a = b)))) st
  | _, _, _ => .bad
theorem rep_non {K : PySem.W.Frag} {m : Ms} {H : Hp} {d : D} {v : V} (h : Rep K m H d v) : decide (v = .non) = isNone d := by
  cases d with
  | non =>
    have e : v = .non := h
    rw [e]
    rfl
  | bl b =>
    have e : v = .bl b := h
    rw [e]
    rfl
  | int i =>
    have e : v = .int i := h
    rw [e]
    rfl
  | str x =>
    have e : v = .str x := h
    rw [e]
    rfl
  | tup ds =>
    obtain ⟨a, vs, e, _⟩ := h
    rw [e]
    rfl
  | lv ds =>
    obtain ⟨a, vs, e, _⟩ := h
    rw [e]
    rfl
  | fz ds =>
    obtain ⟨a, vs, e, _⟩ := h
    rw [e]
    rfl
  | loc l =>
    obtain ⟨a, e, _⟩ := h
    rw [e]
    rfl
  | ty n =>
    have e : v = .ty n := h
    rw [e]
    rfl
theorem ok_is {k : Bool → Bool} {r2 : R2} (h1 : ∀ x H (Q : VK), Q (.bl (k (decide (x = V.non)))) H → r2 x .non H Q) (h2 : ∀ a b H (Q : VK), Q (.bl (k (decide (a = b)))) H → r2 (.bl a) (.bl b) H Q) : OpOk X.K r2 (fIs k) := by
  intro m H st x y v u Q rx ry s
  show Ans X.K m H (fIs k x y st) Q _
  cases y with
  | non =>
    have e2 : u = .non := ry
    subst e2
    have z := rep_non rx
    have key : Ans X.K m H (.ok (.bl (k (isNone x))) st) Q (r2 v .non H Q) := by
      intro kk
      refine h1 v H Q ?_
      rw [z]
      exact kk _ m H Gr.refl rfl s
    cases x <;> exact key
  | bl b =>
    cases x with
    | bl a =>
      intro kk
      have e1 : v = .bl a := rx
      have e2 : u = .bl b := ry
      subst e1 e2
      exact h2 a b H Q (kk _ m H Gr.refl rfl s)
    | _ => trivial
  | _ => cases x <;> trivial
theorem dis (ha : DE X W a ga) (hb : DE X W b gb) : DE X W (.Compare a [.Is] [b] pos) (gBin (fIs id) ga gb) := dcmp (opOr op_isN op_isBl) (ok_is (fun x H Q q => Or.inl ⟨rfl, q⟩) fun a b H Q q => Or.inr ⟨a, b, rfl, rfl, q⟩) ha hb
theorem disnot (ha : DE X W a ga) (hb : DE X W b gb) : DE X W (.Compare a [.IsNot] [b] pos) (gBin (fIs not) ga gb) := dcmp (opOr op_notN op_notBl) (ok_is (fun x H Q q => Or.inl ⟨rfl, q⟩) fun a b H Q q => Or.inr ⟨a, b, rfl, rfl, q⟩) ha hb
/-! ### argument lists, displays -/
def gNil : GA := fun _ st => .ok [] st
def gCons (ga : G) (gr : GA) : GA := fun r st => match ga r st with
  | .ok x st1 => (match gr r st1 with
    | .ok xs st2 => .ok (x :: xs) st2
    | .err c fs s => .err c fs s
    | .bad => .bad)
  | .err c fs s => .err c fs s
  | .bad => .bad
theorem da_nil : DA X W [] gNil := PA.imp pa_nil fun σ H Q q => by
  obtain ⟨m, r, st, E, s, q⟩ := q
  exact q [] m H Gr.refl rfl s
theorem da_cons {gr : GA} (ha : DE X W e ga) (hr : DA X W es gr) (hs : starEach (e :: es) X.env = (false, eval e X.env) :: starEach es X.env := by rfl) : DA X W (e :: es) (gCons ga gr) := by
  refine PA.imp (pa_cons ha hr hs) fun σ H Q q => ?_
  obtain ⟨m, r, st, E, s, q⟩ := q
  unfold gCons at q
  show tE X.K X.mg W ga σ H fun x H1 => tA X.K X.mg W gr σ H1 fun xs H2 => Q (x :: xs) H2
  refine tE_use E s ?_
  cases ea : ga r st with
  | bad => rw [ea] at q; exact q
  | err c fs st1 => rw [ea] at q; exact q
  | ok x st1 =>
    rw [ea] at q
    dsimp only at q ⊢
    intro v m1 H1 g1 r1 s1
    refine ⟨m1, r, st1, E.mono g1 s, s1, ?_⟩
    cases eb : gr r st1 with
    | bad => rw [eb] at q; exact q
    | err c fs st2 =>
      rw [eb] at q
      intro cls d m2 H2 g2 er s2
      exact q cls d m2 H2 (g1.trans g2) er s2
    | ok xs st2 =>
      rw [eb] at q
      dsimp only at q ⊢
      intro vs m2 H2 g2 r2 s2
      exact q (v :: vs) m2 H2 (g1.trans g2) ⟨v, vs, rfl, Rep.mono g2 s1 r1, r2⟩ s2
/-- a call by values -/
def gCall (f : List D → S → R D) (ga : GA) : G := fun r st => match ga r st with
  | .ok ds st1 => f ds st1
  | .err c fs s => .err c fs s
  | .bad => .bad
def CallOk (K : PySem.W.Frag) (rc : List V → Hp → VK → Prop) (f : List D → S → R D) : Prop := ∀ (m : Ms) (H : Hp) (st : S) (ds : List D) (vs : List V) (Q : VK), Reps K m H ds vs → SO K m H st → Ans K m H (f ds st) Q (rc vs H Q)
theorem dcallv {rc : List V → Hp → VK → Prop} {f : List D → S → R D} {gr : GA} (hk : CallOk X.K rc f) (h : ∀ {ta : TA}, PA X es ta → PE X e (fun σ H Q => ta σ H fun vs H1 => rc vs H1 Q)) (ha : DA X W es gr) : DE X W e (gCall f gr) := by
  refine PE.imp (h ha) fun σ H Q q => ?_
  obtain ⟨m, r, st, E, s, q⟩ := q
  unfold gCall at q
  refine ⟨m, r, st, E, s, ?_⟩
  cases ea : gr r st with
  | bad => rw [ea] at q; exact q
  | err c fs st1 => rw [ea] at q; exact q
  | ok ds st1 =>
    rw [ea] at q
    dsimp only at q ⊢
    intro vs m1 H1 g1 r1 s1
    have k := hk m1 H1 st1 ds vs Q r1 s1
    cases ef : f ds st1 with
    | bad => rw [ef] at q; exact q.elim
    | err c fs st3 => rw [ef] at k; exact k.elim
    | ok d st3 =>
      rw [ef] at q k
      exact k fun w m3 H3 g3 r3 s3 => q w m3 H3 (g1.trans g3) r3 s3
def fTup : List D → S → R D := fun ds st => if ds.length ≤ 100000 then .ok (.tup ds) st else .bad
theorem dtup {x1} {gr : GA} (ha : DA X W es gr) : DE X W (.Tuple es x1 pos) (gCall fTup gr) := dcallv (rc := fun xs H1 Q => xs.length ≤ sizeLine ∧ ∀ p, H1 p = none → Q (.ref p) (upd H1 p (.tup xs))) (fun m H st ds vs Q r s => by
  unfold fTup
  refine ans_if fun hl k => ⟨by rw [Reps.len r]; exact sz hl, fun p hp => newT s r hp k⟩) (fun h => pe_tup h) ha
theorem dlst {c : Bool} {gr : GA} (ha : DA X W es gr) : DE X W (.List es pos) (gCall (nl c) gr) := dcallv (rc := fun xs H1 Q => xs.length ≤ sizeLine ∧ ∀ p, H1 p = none → Q (.ref p) (upd H1 p (.lst xs))) (fun m H st ds vs Q r s => by
  refine ans_nl fun d st' e k => ⟨by rw [Reps.len r]; exact sz (nl_len e), fun p hp => newL s r hp e k⟩) (fun h => pe_lst h) ha
/-- a built-in function, a built-in class, by name -/
theorem dblt {x : Str} {p : Pos} {id : String} {rc : List V → Hp → VK → Prop} {f : List D → S → R D} {gr : GA} (hc : CallR X (.builtin id) rc) (hk : CallOk X.K rc f) (hm : X.mg x = none) (hv : bootBuiltins x = some (.builtin id)) (ha : DA X W (e :: es) gr) (hg : Gl X x := by rfl)
    (hn : x ≠ "__name__" := by decide) (hdb : (x == ("__debug__" : Str)) = false := by decide) (he : starEach (e :: es) X.env = (false, eval e X.env) :: starEach es X.env := by rfl) (hpl : (backTo pos (starEach es X.env)).any (·.1) = false := by rfl) :
    DE X W (.Call (.Name x p) (e :: es) [] pos) (gCall f gr) := dcallv hk (fun h => pe_callB hc hg hm hv h hn hdb he hpl) ha
theorem dbty {x : Str} {p : Pos} {T : String} {rc : List V → Hp → VK → Prop} {f : List D → S → R D} {gr : GA} (hc : CallR X (.type T) rc) (hk : CallOk X.K rc f) (hm : X.mg x = none) (hv : bootBuiltins x = some (.type T)) (ha : DA X W (e :: es) gr) (hg : Gl X x := by rfl)
    (hn : x ≠ "__name__" := by decide) (hdb : (x == ("__debug__" : Str)) = false := by decide) (he : starEach (e :: es) X.env = (false, eval e X.env) :: starEach es X.env := by rfl) (hpl : (backTo pos (starEach es X.env)).any (·.1) = false := by rfl) :
    DE X W (.Call (.Name x p) (e :: es) [] pos) (gCall f gr) := dcallv hk (fun h => pe_callTy hc hg hm hv h hn hdb he hpl) ha
end
end Sv
set_option Elab.async false
set_option linter.all false
set_option maxRecDepth 100000
set_option maxHeartbeats 4000000
namespace Sv
open PySem PySem.Spec PyProof.Rows L2
/-- the items of a tuple, a list -/
def seqOf (st : S) : D → Option (List D)
  | .tup ds => some ds
  | .lv ds => some ds
  | .fz ds => some ds
  | .loc l => st[l]?
  | _ => none
section
variable {K : PySem.W.Frag} {m : Ms} {H : Hp} {st : S}
theorem seq_rep {d : D} {v : V} {ds : List D} (s : SO K m H st) (r : Rep K m H d v) (e : seqOf st d = some ds) : ∃ a vs, v = .ref a ∧ (SqL K H a vs ∨ SqT K H a vs) ∧ Reps K m H ds vs ∧ ((∃ xs, d = .tup xs) → SqT K H a vs) ∧ ((∀ xs, d ≠ .tup xs) → SqL K H a vs) := by
  cases d with
  | tup xs =>
    obtain ⟨a, vs, ev, q, rs⟩ := r
    cases e
    exact ⟨a, vs, ev, Or.inr q, rs, fun _ => q, fun z => absurd rfl (z ds)⟩
  | lv xs =>
    obtain ⟨a, vs, ev, q, _, rs⟩ := r
    cases e
    exact ⟨a, vs, ev, Or.inl (Or.inl (Or.inl q)), rs, fun z => (by obtain ⟨_, z⟩ := z; cases z), fun _ => Or.inl (Or.inl q)⟩
  | fz xs =>
    obtain ⟨a, vs, ev, q, rs⟩ := r
    cases e
    exact ⟨a, vs, ev, Or.inl q.sq, rs, fun z => (by obtain ⟨_, z⟩ := z; cases z), fun _ => q.sq⟩
  | loc l =>
    obtain ⟨a, ev, q⟩ := r
    obtain ⟨vs, q1, q2⟩ := s.lst l a ds q e
    exact ⟨a, vs, ev, Or.inl (Or.inl (Or.inl q1)), q2, fun z => (by obtain ⟨_, z⟩ := z; cases z), fun _ => Or.inl (Or.inl q1)⟩
  | _ => cases e
theorem atI_rep {ds : List D} {vs : List V} {i : Int} {d : D} (r : Reps K m H ds vs) (e : atI ds i = some d) : ∃ v, atI vs i = some v ∧ Rep K m H d v := by
  unfold atI at e ⊢
  rw [Reps.len r]
  cases z : ixN ds.length i with
  | none =>
    rw [z] at e
    cases e
  | some j =>
    rw [z] at e
    obtain ⟨v, h1, h2⟩ := Reps.get r (show ds[j]? = some d from e)
    exact ⟨v, h1, h2⟩
theorem rep1 {d : D} {vs : List V} (r : Reps K m H [d] vs) : ∃ v, vs = [v] ∧ Rep K m H d v := by
  obtain ⟨v, t, e, q, z⟩ := r
  have z2 : t = [] := z
  subst z2
  exact ⟨v, e, q⟩
theorem rep2 {d e : D} {vs : List V} (r : Reps K m H [d, e] vs) : ∃ v u, vs = [v, u] ∧ Rep K m H d v ∧ Rep K m H e u := by
  obtain ⟨v, t, e1, q, z⟩ := r
  obtain ⟨u, e2, q2⟩ := rep1 z
  subst e2
  exact ⟨v, u, e1, q, q2⟩
end
/-! ### built-in functions -/
def fLen : List D → S → R D
  | [.str x], st => if x.length ≤ 100000 then .ok (.int x.length) st else .bad
  | [d], st => (match seqOf st d with
    | some ds => .ok (.int ds.length) st
    | none => .bad)
  | _, _ => .bad
def fAbs : List D → S → R D
  | [.int i], st => .ok (.int (if i < 0 then -i else i)) st
  | _, _ => .bad
def fInt : List D → S → R D
  | [.int i], st => .ok (.int i) st
  | [.bl k], st => .ok (.int (if k then 1 else 0)) st
  | _, _ => .bad
def fMax2 : List D → S → R D
  | [.int i, .int j], st => .ok (.int (if j > i then j else i)) st
  | _, _ => .bad
def fMin2 : List D → S → R D
  | [.int i, .int j], st => .ok (.int (if j < i then j else i)) st
  | _, _ => .bad
def fGcd : List D → S → R D
  | [.int i, .int j], st => .ok (.int ((Nat.gcd i.natAbs j.natAbs : Nat) : Int)) st
  | _, _ => .bad
def fTuple : List D → S → R D
  | [.tup ds], st => .ok (.tup ds) st
  | [d], st => (match seqOf st d with
    | some ds => .ok (.tup ds) st
    | none => .bad)
  | _, _ => .bad
def fList (c : Bool) : List D → S → R D
  | [d], st => (match seqOf st d with
    | some ds => nl c ds st
    | none => .bad)
  | _, _ => .bad
def allBl : List D → Option (List Bool)
  | [] => some []
  | .bl b :: r => (allBl r).map fun x => b :: x
  | _ => none
def fAll : List D → S → R D
  | [.lv ds], st => (match allBl ds with
    | some bs => .ok (.bl (bs.all id)) st
    | none => .bad)
  | _, _ => .bad
def fAny : List D → S → R D
  | [.lv ds], st => (match allBl ds with
    | some bs => .ok (.bl (bs.any id)) st
    | none => .bad)
  | _, _ => .bad
def tyN : D → String
  | .non => "NoneType"
  | .bl _ => "bool"
  | .int _ => "int"
  | .str _ => "str"
  | .tup _ => "tuple"
  | .lv _ => "list"
  | .fz _ => "list"
  | .loc _ => "list"
  | .ty _ => ""
def isi (d : D) (n : String) : Option Bool := match d with
  | .ty _ => none
  | d => if n = "int" then some (tyN d = "int" || tyN d = "bool") else if n = "bool" then some (tyN d = "bool") else if n = "str" then some (tyN d = "str") else if n = "tuple" then some (tyN d = "tuple") else if n = "list" then some (tyN d = "list") else none
def fIsi : List D → S → R D
  | [d, .ty n], st => (match isi d n with
    | some b => .ok (.bl b) st
    | none => .bad)
  | _, _ => .bad
section
variable {X : Cx} {W : WX} {a b c e : Expr} {es : List Expr} {pos : Pos} {ga gb : G}
theorem ans_ok {K : PySem.W.Frag} {m : Ms} {H : Hp} {st : S} {d : D} {v : V} {Q : VK} {P : Prop} (s : SO K m H st) (r : Rep K m H d v) (h : Q v H → P) : Ans K m H (.ok d st) Q P := fun k => h (k v m H Gr.refl r s)
theorem ok_len : CallOk X.K (fun xs H Q => (∃ p ys, xs = [.ref p] ∧ (SqL X.K H p ys ∨ SqT X.K H p ys) ∧ Q (.int ys.length) H) ∨ ∃ z, xs = [.str z] ∧ z.length ≤ sizeLine ∧ Q (.int z.length) H) fLen := by
  intro m H st ds vs Q r s
  cases ds with
  | nil => trivial
  | cons d t =>
    cases t with
    | nil =>
      obtain ⟨v, ev, rv⟩ := rep1 r
      subst ev
      have key : ∀ {d : D}, Rep X.K m H d v → Ans X.K m H (match seqOf st d with
        | some ds => R.ok (.int ds.length) st
        | none => .bad) Q ((∃ p ys, [v] = [.ref p] ∧ (SqL X.K H p ys ∨ SqT X.K H p ys) ∧ Q (.int ys.length) H) ∨ ∃ z, [v] = [.str z] ∧ z.length ≤ sizeLine ∧ Q (.int z.length) H) := by
        intro d rv
        cases z : seqOf st d with
        | none => trivial
        | some xs =>
          obtain ⟨a, ws, ev, q, rs, _⟩ := seq_rep s rv z
          subst ev
          have l := Reps.len rs
          refine ans_ok s (show Rep X.K m H (.int xs.length) (.int xs.length) from rfl) fun q2 => Or.inl ⟨a, ws, rfl, q, ?_⟩
          rw [l]
          exact q2
      cases d with
      | str x =>
        refine ans_if fun hl => ?_
        have e1 : v = .str x := rv
        subst e1
        exact ans_ok s (show Rep X.K m H (.int x.length) (.int x.length) from rfl) fun q2 => Or.inr ⟨x, rfl, sz hl, q2⟩
      | _ => exact key rv
    | cons _ _ => cases d <;> trivial
theorem dlen {p : Pos} {gr : GA} (hm : X.mg "len" = none) (ha : DA X W (e :: es) gr) (hg : Gl X "len" := by rfl) (he : starEach (e :: es) X.env = (false, eval e X.env) :: starEach es X.env := by rfl) (hpl : (backTo pos (starEach es X.env)).any (·.1) = false := by rfl) :
    DE X W (.Call (.Name "len" p) (e :: es) [] pos) (gCall fLen gr) := dblt (call_len_seq.or call_len_str) ok_len hm PySem.boot_len ha hg (by decide) (by decide) he hpl
theorem dabs {p : Pos} {gr : GA} (hm : X.mg "abs" = none) (ha : DA X W (e :: es) gr) (hg : Gl X "abs" := by rfl) (he : starEach (e :: es) X.env = (false, eval e X.env) :: starEach es X.env := by rfl) (hpl : (backTo pos (starEach es X.env)).any (·.1) = false := by rfl) :
    DE X W (.Call (.Name "abs" p) (e :: es) [] pos) (gCall fAbs gr) := dblt call_abs (by
  intro m H st ds vs Q r s
  rcases ds with _ | ⟨d, _ | ⟨d2, t⟩⟩
  · trivial
  · cases d with
    | int i =>
      obtain ⟨v, ev, rv⟩ := rep1 r
      have e1 : v = .int i := rv
      subst ev e1
      exact ans_ok s (show Rep X.K m H (.int (if i < 0 then -i else i)) (.int (if i < 0 then -i else i)) from rfl) fun q => ⟨i, rfl, q⟩
    | _ => trivial
  · cases d <;> trivial) hm (by decide +kernel) ha hg (by decide) (by decide) he hpl
theorem dintc {p : Pos} {gr : GA} (hm : X.mg "int" = none) (ha : DA X W (e :: es) gr) (hg : Gl X "int" := by rfl) (he : starEach (e :: es) X.env = (false, eval e X.env) :: starEach es X.env := by rfl) (hpl : (backTo pos (starEach es X.env)).any (·.1) = false := by rfl) :
    DE X W (.Call (.Name "int" p) (e :: es) [] pos) (gCall fInt gr) := dbty call_int1 (by
  intro m H st ds vs Q r s
  rcases ds with _ | ⟨d, _ | ⟨d2, t⟩⟩
  · trivial
  · cases d with
    | int i =>
      obtain ⟨v, ev, rv⟩ := rep1 r
      have e1 : v = .int i := rv
      subst ev e1
      exact ans_ok s (show Rep X.K m H (.int i) (.int i) from rfl) fun q => Or.inl ⟨i, rfl, q⟩
    | bl i =>
      obtain ⟨v, ev, rv⟩ := rep1 r
      have e1 : v = .bl i := rv
      subst ev e1
      exact ans_ok s (show Rep X.K m H (.int (if i then 1 else 0)) (.int (if i then 1 else 0)) from rfl) fun q => Or.inr ⟨i, rfl, q⟩
    | _ => trivial
  · cases d <;> trivial) hm (by decide +kernel) ha hg (by decide) (by decide) he hpl
theorem dmax2 {p : Pos} {gr : GA} (hc : X.calm = true) (hm : X.mg "max" = none) (ha : DA X W (e :: es) gr) (hg : Gl X "max" := by rfl) (he : starEach (e :: es) X.env = (false, eval e X.env) :: starEach es X.env := by rfl) (hpl : (backTo pos (starEach es X.env)).any (·.1) = false := by rfl) :
    DE X W (.Call (.Name "max" p) (e :: es) [] pos) (gCall fMax2 gr) := dblt (call_max2 hc) (by
  intro m H st ds vs Q r s
  rcases ds with _ | ⟨d, _ | ⟨d2, _ | ⟨d3, t⟩⟩⟩
  · trivial
  · cases d <;> trivial
  · cases d with
    | int i =>
      cases d2 with
      | int j =>
        obtain ⟨v, u, ev, rv, ru⟩ := rep2 r
        have e1 : v = .int i := rv
        have e2 : u = .int j := ru
        subst ev e1 e2
        exact ans_ok s (show Rep X.K m H (.int (if j > i then j else i)) (.int (if j > i then j else i)) from rfl) fun q => ⟨i, j, rfl, q⟩
      | _ => trivial
    | _ => trivial
  · cases d <;> cases d2 <;> trivial) hm (by decide +kernel) ha hg (by decide) (by decide) he hpl
theorem dmin2 {p : Pos} {gr : GA} (hc : X.calm = true) (hm : X.mg "min" = none) (ha : DA X W (e :: es) gr) (hg : Gl X "min" := by rfl) (he : starEach (e :: es) X.env = (false, eval e X.env) :: starEach es X.env := by rfl) (hpl : (backTo pos (starEach es X.env)).any (·.1) = false := by rfl) :
    DE X W (.Call (.Name "min" p) (e :: es) [] pos) (gCall fMin2 gr) := dblt (call_min2 hc) (by
  intro m H st ds vs Q r s
  rcases ds with _ | ⟨d, _ | ⟨d2, _ | ⟨d3, t⟩⟩⟩
  · trivial
  · cases d <;> trivial
  · cases d with
    | int i =>
      cases d2 with
      | int j =>
        obtain ⟨v, u, ev, rv, ru⟩ := rep2 r
        have e1 : v = .int i := rv
        have e2 : u = .int j := ru
        subst ev e1 e2
        exact ans_ok s (show Rep X.K m H (.int (if j < i then j else i)) (.int (if j < i then j else i)) from rfl) fun q => ⟨i, j, rfl, q⟩
      | _ => trivial
    | _ => trivial
  · cases d <;> cases d2 <;> trivial) hm (by decide +kernel) ha hg (by decide) (by decide) he hpl
theorem dgcd {p : Pos} {gr : GA} (hm : X.mg "gcd" = some (.builtin "math.gcd")) (ha : DA X W (e :: es) gr) (hg : Gl X "gcd" := by rfl) (he : starEach (e :: es) X.env = (false, eval e X.env) :: starEach es X.env := by rfl) (hpl : (backTo pos (starEach es X.env)).any (·.1) = false := by rfl) :
    DE X W (.Call (.Name "gcd" p) (e :: es) [] pos) (gCall fGcd gr) := dcallv (rc := rGcd) (by
  intro m H st ds vs Q r s
  rcases ds with _ | ⟨d, _ | ⟨d2, _ | ⟨d3, t⟩⟩⟩
  · trivial
  · cases d <;> trivial
  · cases d with
    | int i =>
      cases d2 with
      | int j =>
        obtain ⟨v, u, ev, rv, ru⟩ := rep2 r
        have e1 : v = .int i := rv
        have e2 : u = .int j := ru
        subst ev e1 e2
        exact ans_ok s (show Rep X.K m H (.int ((Nat.gcd i.natAbs j.natAbs : Nat) : Int)) (.int ((Nat.gcd i.natAbs j.natAbs : Nat) : Int)) from rfl) fun q => ⟨i, j, rfl, q⟩
      | _ => trivial
    | _ => trivial
  · cases d <;> cases d2 <;> trivial) (fun h => pe_callBfun cr_gcd hg hm h (by decide) he hpl) ha
theorem dtuple {p : Pos} {gr : GA} (hm : X.mg "tuple" = none) (ha : DA X W (e :: es) gr) (hg : Gl X "tuple" := by rfl) (he : starEach (e :: es) X.env = (false, eval e X.env) :: starEach es X.env := by rfl) (hpl : (backTo pos (starEach es X.env)).any (·.1) = false := by rfl) :
    DE X W (.Call (.Name "tuple" p) (e :: es) [] pos) (gCall fTuple gr) := dbty call_tuple_of (by
  intro m H st ds vs Q r s
  rcases ds with _ | ⟨d, _ | ⟨d2, t⟩⟩
  · trivial
  · obtain ⟨v, ev, rv⟩ := rep1 r
    subst ev
    have key : ∀ {d : D}, (∀ xs, d ≠ .tup xs) → Rep X.K m H d v → Ans X.K m H (match seqOf st d with
        | some ds => R.ok (.tup ds) st
        | none => .bad) Q (∃ p ys, [v] = [.ref p] ∧ ((SqL X.K H p ys ∧ ∀ l, H l = none → Q (.ref l) (upd H l (.tup ys))) ∨ (SqT X.K H p ys ∧ Q (.ref p) H))) := by
      intro d hd rv
      cases z : seqOf st d with
      | none => trivial
      | some xs =>
        obtain ⟨a, ws, ev, q, rs, _, q2⟩ := seq_rep s rv z
        subst ev
        exact fun k => ⟨a, ws, rfl, Or.inl ⟨q2 hd, fun l hl => newT s rs hl k⟩⟩
    cases d with
    | tup xs =>
      obtain ⟨a, ws, ev, q, rs⟩ := id rv
      subst ev
      exact ans_ok s rv fun q2 => ⟨a, ws, rfl, Or.inr ⟨q, q2⟩⟩
    | _ => exact key (fun xs z => by cases z) rv
  · cases d <;> trivial) hm (by decide +kernel) ha hg (by decide) (by decide) he hpl
theorem dlist {p : Pos} {gr : GA} {c : Bool} (hm : X.mg "list" = none) (ha : DA X W (e :: es) gr) (hg : Gl X "list" := by rfl) (he : starEach (e :: es) X.env = (false, eval e X.env) :: starEach es X.env := by rfl) (hpl : (backTo pos (starEach es X.env)).any (·.1) = false := by rfl) :
    DE X W (.Call (.Name "list" p) (e :: es) [] pos) (gCall (fList c) gr) := dbty call_list_of (by
  intro m H st ds vs Q r s
  rcases ds with _ | ⟨d, _ | ⟨d2, t⟩⟩
  · trivial
  · obtain ⟨v, ev, rv⟩ := rep1 r
    subst ev
    show Ans X.K m H (match seqOf st d with
        | some ds => nl c ds st
        | none => .bad) Q _
    cases z : seqOf st d with
    | none => trivial
    | some xs =>
      obtain ⟨a, ws, ev, q, rs, _, q2⟩ := seq_rep s rv z
      subst ev
      exact ans_nl fun d' st' e k => ⟨a, ws, rfl, q, fun l hl => newL s rs hl e k⟩
  · trivial) hm (by decide +kernel) ha hg (by decide) (by decide) he hpl
theorem bl_reps {K : PySem.W.Frag} {m : Ms} {H : Hp} : ∀ {ds : List D} {bs : List Bool} {vs : List V}, allBl ds = some bs → Reps K m H ds vs → vs = bs.map V.bl
  | [], bs, vs, e, r => by
    cases e
    exact r
  | d :: ds, bs, vs, e, r => by
    obtain ⟨v, t, ev, rv, rt⟩ := r
    cases d with
    | bl b =>
      have e2 : (allBl ds).map (fun x => b :: x) = some bs := e
      cases z : allBl ds with
      | none =>
        rw [z] at e2
        cases e2
      | some cs =>
        rw [z] at e2
        cases e2
        have e3 : v = .bl b := rv
        rw [ev, e3, bl_reps z rt]
        rfl
    | _ => cases e
theorem dall {p : Pos} {gr : GA} (hc : X.calm = true) (hm : X.mg "all" = none) (ha : DA X W (e :: es) gr) (hg : Gl X "all" := by rfl) (he : starEach (e :: es) X.env = (false, eval e X.env) :: starEach es X.env := by rfl) (hpl : (backTo pos (starEach es X.env)).any (·.1) = false := by rfl) :
    DE X W (.Call (.Name "all" p) (e :: es) [] pos) (gCall fAll gr) := dblt (cr_all hc) (by
  intro m H st ds vs Q r s
  rcases ds with _ | ⟨d, _ | ⟨d2, t⟩⟩
  · trivial
  · cases d with
    | lv xs =>
      obtain ⟨v, ev, a, ws, e2, q, n, rs⟩ := rep1 r
      subst ev e2
      show Ans X.K m H (match allBl xs with
        | some bs => R.ok (.bl (bs.all id)) st
        | none => .bad) Q _
      cases z : allBl xs with
      | none => trivial
      | some bs =>
        have e3 := bl_reps z rs
        subst e3
        exact ans_ok s (show Rep X.K m H (.bl (bs.all id)) (.bl (bs.all id)) from rfl) fun q2 => ⟨a, bs, rfl, Or.inl (Or.inl q), q2⟩
    | _ => trivial
  · cases d <;> trivial) hm (by decide +kernel) ha hg (by decide) (by decide) he hpl
theorem dany {p : Pos} {gr : GA} (hc : X.calm = true) (hm : X.mg "any" = none) (ha : DA X W (e :: es) gr) (hg : Gl X "any" := by rfl) (he : starEach (e :: es) X.env = (false, eval e X.env) :: starEach es X.env := by rfl) (hpl : (backTo pos (starEach es X.env)).any (·.1) = false := by rfl) :
    DE X W (.Call (.Name "any" p) (e :: es) [] pos) (gCall fAny gr) := dblt (cr_any hc) (by
  intro m H st ds vs Q r s
  rcases ds with _ | ⟨d, _ | ⟨d2, t⟩⟩
  · trivial
  · cases d with
    | lv xs =>
      obtain ⟨v, ev, a, ws, e2, q, n, rs⟩ := rep1 r
      subst ev e2
      show Ans X.K m H (match allBl xs with
        | some bs => R.ok (.bl (bs.any id)) st
        | none => .bad) Q _
      cases z : allBl xs with
      | none => trivial
      | some bs =>
        have e3 := bl_reps z rs
        subst e3
        exact ans_ok s (show Rep X.K m H (.bl (bs.any id)) (.bl (bs.any id)) from rfl) fun q2 => ⟨a, bs, rfl, Or.inl (Or.inl q), q2⟩
    | _ => trivial
  · cases d <;> trivial) hm (by decide +kernel) ha hg (by decide) (by decide) he hpl
/-! ### isinstance -/
theorem tyx {K : PySem.W.Frag} {m : Ms} {H : Hp} {st : S} {d : D} {v : V} (s : SO K m H st) (r : Rep K m H d v) (hd : ∀ n, d ≠ .ty n) (hl : ∀ l, d = .loc l → l < st.length) : TyX K H v (.type (tyN d)) := by
  cases d with
  | non =>
    have e : v = .non := r
    subst e
    exact .base .non
  | bl b =>
    have e : v = .bl b := r
    subst e
    exact .base (.bl b)
  | int i =>
    have e : v = .int i := r
    subst e
    exact .base (.int i)
  | str x =>
    have e : v = .str x := r
    subst e
    exact .base (.str x)
  | tup ds =>
    obtain ⟨a, vs, e, q, _⟩ := r
    subst e
    rcases q with (q | ⟨o, q⟩) | q
    · exact .base (.tup q)
    · exact .fTuple q
    · obtain ⟨o, its, n, h1, h2, _⟩ := q
      exact .kTuple h1 h2
  | lv ds =>
    obtain ⟨a, vs, e, q, _, _⟩ := r
    subst e
    exact .base (.lst q)
  | fz ds =>
    obtain ⟨a, vs, e, q, _⟩ := r
    subst e
    rcases q with ⟨q | ⟨o, q⟩, _⟩ | ⟨o, its, n, q1, q2, _⟩
    · exact .base (.lst q)
    · exact .base (.frz q)
    · exact .kList q1 q2
  | loc l =>
    obtain ⟨a, e, q⟩ := r
    subst e
    obtain ⟨vs, q1, _⟩ := s.lst l a _ q (List.getElem?_eq_getElem (hl l rfl))
    exact .base (.lst q1)
  | ty n => exact absurd rfl (hd n)
theorem kit_isi {K : PySem.W.Frag} {d : D} {n : String} {b : Bool} (h : isi d n = some b) : PySem.W.kitOne K (.type (tyN d)) (.type n) = some b := by
  have key : ∀ (t : String), (t = "NoneType" ∨ t = "bool" ∨ t = "int" ∨ t = "str" ∨ t = "tuple" ∨ t = "list") → (if n = "int" then some (t = "int" || t = "bool") else if n = "bool" then some (t = "bool") else if n = "str" then some (t = "str") else if n = "tuple" then some (t = "tuple") else if n = "list" then some (decide (t = "list")) else none) = some b → PySem.W.kitOne K (.type t) (.type n) = some b := by
    intro t ht e
    by_cases h1 : n = "int"
    · subst h1
      rw [if_pos rfl] at e
      rcases ht with z | z | z | z | z | z <;> subst z <;> (have e2 := Option.some.inj e; subst e2; exact kit_ty (by decide +kernel))
    · rw [if_neg h1] at e
      by_cases h2 : n = "bool"
      · subst h2
        rw [if_pos rfl] at e
        rcases ht with z | z | z | z | z | z <;> subst z <;> (have e2 := Option.some.inj e; subst e2; exact kit_ty (by decide +kernel))
      · rw [if_neg h2] at e
        by_cases h3 : n = "str"
        · subst h3
          rw [if_pos rfl] at e
          rcases ht with z | z | z | z | z | z <;> subst z <;> (have e2 := Option.some.inj e; subst e2; exact kit_ty (by decide +kernel))
        · rw [if_neg h3] at e
          by_cases h4 : n = "tuple"
          · subst h4
            rw [if_pos rfl] at e
            rcases ht with z | z | z | z | z | z <;> subst z <;> (have e2 := Option.some.inj e; subst e2; exact kit_ty (by decide +kernel))
          · rw [if_neg h4] at e
            by_cases h5 : n = "list"
            · subst h5
              rw [if_pos rfl] at e
              rcases ht with z | z | z | z | z | z <;> subst z <;> (have e2 := Option.some.inj e; subst e2; exact kit_ty (by decide +kernel))
            · rw [if_neg h5] at e
              cases e
  cases d with
  | ty n => cases h
  | _ => exact key _ (by simp [tyN]) h
theorem disi {p : Pos} {gr : GA} (hm : X.mg "isinstance" = none) (ha : DA X W (e :: es) gr) (hg : Gl X "isinstance" := by rfl) (he : starEach (e :: es) X.env = (false, eval e X.env) :: starEach es X.env := by rfl) (hpl : (backTo pos (starEach es X.env)).any (·.1) = false := by rfl) :
    DE X W (.Call (.Name "isinstance" p) (e :: es) [] pos) (gCall fIsi gr) := dblt call_isi (by
  intro m H st ds vs Q r s
  rcases ds with _ | ⟨d, _ | ⟨d2, _ | ⟨d3, t⟩⟩⟩
  · trivial
  · cases d <;> trivial
  · cases d2 with
    | ty n =>
      obtain ⟨v, u, ev, rv, ru⟩ := rep2 r
      have e2 : u = .ty n := ru
      subst ev e2
      show Ans X.K m H (match isi d n with
        | some b => R.ok (.bl b) st
        | none => .bad) Q _
      cases z : isi d n with
      | none => trivial
      | some q =>
        refine ans_ok s (show Rep X.K m H (.bl q) (.bl q) from rfl) fun q2 => ⟨v, .ty n, .type (tyN d), .type n, q, rfl, .ty n, tyx s rv (fun k hk => by subst hk; cases z) (fun l hl => ?_), kit_isi z, q2⟩
        subst hl
        obtain ⟨a, _, q3⟩ := rv
        rw [← s.len]
        exact (List.getElem?_eq_some_iff.mp q3).1
    | _ => trivial
  · cases d2 <;> trivial) hm (by decide +kernel) ha hg (by decide) (by decide) he hpl
/-- the name of a built-in class as a value -/
theorem dtyn {x : Str} {n : String} (hm : X.mg x = none) (hv : bootBuiltins x = some (.type n)) (hg : Gl X x := by rfl) (hn : x ≠ "__name__" := by decide) (hd : (x == ("__debug__" : Str)) = false := by decide) : DE X W (.Name x pos) (gC (.ty n)) := dC (v := .ty n) (pe_bltn hg hm hv (show RelV (.ty n) (.type n) from rfl) hn hd) fun _ _ => rfl
end
end Sv
set_option Elab.async false
set_option linter.all false
set_option maxRecDepth 100000
set_option maxHeartbeats 4000000
namespace Sv
open PySem PySem.Spec PyProof.Rows L2
section
variable {X : Cx} {W : WX} {a b c e : Expr} {es rest : List Expr} {pos p2 : Pos} {ga gb gc : G}
/-! ### subscripts -/
def fIx : D → D → S → R D
  | .str x, .int i, st => if x.length ≤ 100000 then (match atI x.cps.toList i with
    | some c => .ok (.str ⟨#[c]⟩) st
    | none => .bad) else .bad
  | d, .int i, st => (match seqOf st d with
    | some ds => (match atI ds i with
      | some x => .ok x st
      | none => .bad)
    | none => .bad)
  | _, _, _ => .bad
theorem dix (ha : DE X W a ga) (hb : DE X W b gb) (hs : PlainIx b := by exact fun _ _ => rfl) : DE X W (.Subscript a b pos) (gBin fIx ga gb) := dop2 (r2 := rIx X.K) (by
  intro m H st x y v u Q rx ry s
  show Ans X.K m H (fIx x y st) Q _
  cases y with
  | int i =>
    have e2 : u = .int i := ry
    subst e2
    have key : ∀ {x : D}, Rep X.K m H x v → Ans X.K m H (match seqOf st x with
      | some ds => (match atI ds i with
        | some x => R.ok x st
        | none => .bad)
      | none => .bad) Q (rIx X.K v (.int i) H Q) := by
      intro x rx
      cases z : seqOf st x with
      | none => trivial
      | some ds =>
        show Ans X.K m H (match atI ds i with
          | some x => R.ok x st
          | none => .bad) Q _
        cases z2 : atI ds i with
        | none => trivial
        | some d =>
          obtain ⟨p, vs, ev, q, rs, _⟩ := seq_rep s rx z
          subst ev
          obtain ⟨w, h1, h2⟩ := atI_rep rs z2
          refine ans_ok s h2 fun qq => ?_
          rcases q with q | q
          · exact Or.inl ⟨p, vs, i, w, rfl, rfl, q, h1, qq⟩
          · exact Or.inr (Or.inl ⟨p, vs, i, w, rfl, rfl, q, h1, qq⟩)
    cases x with
    | str x =>
      have e1 : v = .str x := rx
      subst e1
      refine ans_if fun hl => ?_
      cases z2 : atI x.cps.toList i with
      | none => trivial
      | some c => exact ans_ok s (show Rep X.K m H (.str ⟨#[c]⟩) (.str ⟨#[c]⟩) from rfl) fun qq => Or.inr (Or.inr ⟨x, i, c, rfl, rfl, sz hl, z2, qq⟩)
    | _ => exact key rx
  | _ => cases x <;> trivial) (fun h1 h2 => pe_ix ix_seq h1 h2 hs) ha hb
/-! ### slices -/
/-- an end of a slice -/
def GO := En → S → R (Option Int)
def goNone : GO := fun _ st => .ok none st
def goSome (g : G) : GO := fun r st => match g r st with
  | .ok (.int i) st' => .ok (some i) st'
  | .ok _ _ => .bad
  | .err c fs s => .err c fs s
  | .bad => .bad
def tO (K : PySem.W.Frag) (mg : Str → Option Value) (W : WX) (g : GO) : TO := fun σ H Q => ∃ m r st, EO K m H σ r ∧ SO K m H st ∧ match g r st with
  | .ok o st' => ∀ m' H', Gr m H m' H' → SO K m' H' st' → Q o H'
  | .err c fs st' => ∀ cls d m' H', Gr m H m' H' → Er K mg m' H' cls d c fs → SO K m' H' st' → W cls d σ H'
  | .bad => False
abbrev DO (X : Cx) (W : WX) (e : Option Expr) (g : GO) : Prop := PO X e (tO X.K X.mg W g)
theorem PO.imp {o : Option Expr} {t t' : TO} (h : PO X o t) (k : ∀ σ H Q, t' σ H Q → t σ H Q) : PO X o t' := ⟨fun pins s σ H Q I q => h.run pins s σ H Q I (k _ _ _ q)⟩
theorem do_none : DO X W none goNone := PO.imp po_none fun σ H Q q => by
  obtain ⟨m, r, st, E, s, q⟩ := q
  exact q m H Gr.refl s
theorem do_some (ha : DE X W e ga) : DO X W (some e) (goSome ga) := PO.imp (po_some ha) fun σ H Q q => by
  obtain ⟨m, r, st, E, s, q⟩ := q
  unfold goSome at q
  refine tE_use E s ?_
  cases ea : ga r st with
  | bad => rw [ea] at q; exact q
  | err c fs st1 => rw [ea] at q; exact q
  | ok x st1 =>
    rw [ea] at q
    dsimp only at q ⊢
    cases x with
    | int i =>
      intro v m' H' g rv s'
      have e1 : v = .int i := rv
      exact ⟨i, e1, q m' H' g s'⟩
    | _ => exact q.elim
def cutD (xs : List D) (lo hi : Option Int) : List D := (xs.drop (HT.sIx xs.length 0 lo)).take (HT.sIx xs.length xs.length hi - HT.sIx xs.length 0 lo)
theorem Reps.take {K : PySem.W.Frag} {m : Ms} {H : Hp} {ds : List D} {vs : List V} (n : Nat) (r : Reps K m H ds vs) : Reps K m H (ds.take n) (vs.take n) := by
  refine Reps.of (by rw [List.length_take, List.length_take, Reps.len r]) fun i d v h1 h2 => ?_
  have hi : i < n := by
    have z := (List.getElem?_eq_some_iff.mp h1).1
    rw [List.length_take] at z
    omega
  rw [List.getElem?_take_of_lt hi] at h1 h2
  obtain ⟨w, h3, h4⟩ := Reps.get r h1
  rw [h2] at h3
  cases h3
  exact h4
theorem Reps.drop {K : PySem.W.Frag} {m : Ms} {H : Hp} {ds : List D} {vs : List V} (n : Nat) (r : Reps K m H ds vs) : Reps K m H (ds.drop n) (vs.drop n) := by
  refine Reps.of (by rw [List.length_drop, List.length_drop, Reps.len r]) fun i d v h1 h2 => ?_
  rw [List.getElem?_drop] at h1 h2
  obtain ⟨w, h3, h4⟩ := Reps.get r h1
  rw [h2] at h3
  cases h3
  exact h4
theorem Reps.reverse {K : PySem.W.Frag} {m : Ms} {H : Hp} : ∀ {ds : List D} {vs : List V}, Reps K m H ds vs → Reps K m H ds.reverse vs.reverse
  | [], vs, r => by
    have e : vs = [] := r
    subst e
    exact rfl
  | d :: ds, vs, r => by
    obtain ⟨v, t, e, q, rt⟩ := r
    subst e
    rw [List.reverse_cons, List.reverse_cons]
    exact Reps.snoc (Reps.reverse rt) q
theorem cut_rep {K : PySem.W.Frag} {m : Ms} {H : Hp} {ds : List D} {vs : List V} {lo hi : Option Int} (r : Reps K m H ds vs) : Reps K m H (cutD ds lo hi) (cutV vs lo hi) := by
  unfold cutD cutV
  rw [Reps.len r]
  exact Reps.take _ (Reps.drop _ r)
def fSl (c : Bool) (d : D) (lo hi : Option Int) (st : S) : R D := match d with
  | .tup ds => .ok (.tup (cutD ds lo hi)) st
  | .str x => if x.length ≤ 100000 then .ok (.str (cutS x lo hi)) st else .bad
  | d => (match seqOf st d with
    | some ds => nl c (cutD ds lo hi) st
    | none => .bad)
def gSl (c : Bool) (ga : G) (gl gh : GO) : G := fun r st => match ga r st with
  | .ok x st1 => (match gl r st1 with
    | .ok l st2 => (match gh r st2 with
      | .ok h st3 => fSl c x l h st3
      | .err c fs s => .err c fs s
      | .bad => .bad)
    | .err c fs s => .err c fs s
    | .bad => .bad)
  | .err c fs s => .err c fs s
  | .bad => .bad
def rSlU (K : PySem.W.Frag) : V → Option Int → Option Int → Hp → VK → Prop := fun x lo hi H Q => rSlA K x lo hi H Q ∨ (rSlL K x lo hi H Q ∨ ∃ z, x = .str z ∧ z.length ≤ sizeLine ∧ Q (.str (cutS z lo hi)) H)
theorem sl_ans {K : PySem.W.Frag} {m : Ms} {H : Hp} {st : S} {c : Bool} {d : D} {v : V} {lo hi : Option Int} {Q : VK} (s : SO K m H st) (rx : Rep K m H d v) : Ans K m H (fSl c d lo hi st) Q (rSlU K v lo hi H Q) := by
  unfold fSl
  have key : ∀ {d : D}, (∀ xs, d ≠ .tup xs) → Rep K m H d v → Ans K m H (match seqOf st d with
    | some ds => nl c (cutD ds lo hi) st
    | none => .bad) Q (rSlU K v lo hi H Q) := by
    intro d hd rx
    cases z : seqOf st d with
    | none => trivial
    | some ds =>
      obtain ⟨p, vs, ev, q, rs, _, q2⟩ := seq_rep s rx z
      subst ev
      exact ans_nl fun d' st' e k => Or.inr (Or.inl ⟨p, vs, rfl, q2 hd, fun t ht => newL s (cut_rep rs) ht e k⟩)
  cases d with
  | tup ds =>
    obtain ⟨p, vs, ev, q, rs⟩ := rx
    subst ev
    refine fun k => Or.inl ⟨p, vs, rfl, q, fun hw => ?_, fun _ t ht => newT s (cut_rep rs) ht k⟩
    refine k _ m H Gr.refl ⟨p, vs, rfl, q, ?_⟩ s
    have e1 := cut_rep (lo := lo) (hi := hi) rs
    have e2 : cutV vs lo hi = vs := by
      unfold cutV
      rw [hw.1, hw.2]
      simp
    rw [e2] at e1
    exact e1
  | str x =>
    have e1 : v = .str x := rx
    subst e1
    exact ans_if fun hl => ans_ok s (show Rep K m H (.str (cutS x lo hi)) (.str (cutS x lo hi)) from rfl) fun qq => Or.inr (Or.inr ⟨x, rfl, sz hl, qq⟩)
  | _ => exact key (fun xs z => by cases z) rx
theorem dsl {c : Bool} {lo hi : Option Expr} {gl gh : GO} (ha : DE X W a ga) (hl : DO X W lo gl) (hh : DO X W hi gh) : DE X W (.Subscript a (.Slice lo hi none p2) pos) (gSl c ga gl gh) := by
  refine PE.imp (pe_slice (r := rSlU X.K) (sl_tupA.or (sl_list.or sl_str)) ha hl hh) fun σ H Q q => ?_
  obtain ⟨m, r, st, E, s, q⟩ := q
  unfold gSl at q
  refine tE_use E s ?_
  cases ea : ga r st with
  | bad => rw [ea] at q; exact q
  | err c fs st1 => rw [ea] at q; exact q
  | ok x st1 =>
    rw [ea] at q
    dsimp only at q ⊢
    intro v m1 H1 g1 r1 s1
    refine ⟨m1, r, st1, E.mono g1 s, s1, ?_⟩
    cases eb : gl r st1 with
    | bad => rw [eb] at q; exact q
    | err c fs st2 =>
      rw [eb] at q
      intro cls d m2 H2 g2 er s2
      exact q cls d m2 H2 (g1.trans g2) er s2
    | ok l st2 =>
      rw [eb] at q
      dsimp only at q ⊢
      intro m2 H2 g2 s2
      refine ⟨m2, r, st2, E.mono (g1.trans g2) s, s2, ?_⟩
      cases ec : gh r st2 with
      | bad => rw [ec] at q; exact q
      | err c fs st3 =>
        rw [ec] at q
        intro cls d m3 H3 g3 er s3
        exact q cls d m3 H3 ((g1.trans g2).trans g3) er s3
      | ok h st3 =>
        rw [ec] at q
        dsimp only at q ⊢
        intro m3 H3 g3 s3
        have k := sl_ans (c := c) (lo := l) (hi := h) (Q := Q) s3 (Rep.mono (g2.trans g3) s1 r1)
        cases ef : fSl c x l h st3 with
        | bad => rw [ef] at q; exact q.elim
        | err c fs st4 => rw [ef] at k; exact k.elim
        | ok d st4 =>
          rw [ef] at q k
          exact k fun w m4 H4 g4 r4 s4 => q w m4 H4 (((g1.trans g2).trans g3).trans g4) r4 s4
/-- one value in -/
def gUn (f : D → S → R D) (ga : G) : G := fun r st => match ga r st with
  | .ok x st1 => f x st1
  | .err c fs s => .err c fs s
  | .bad => .bad
theorem dun1 {rd : V → Hp → VK → Prop} {f : D → S → R D} (hk : ∀ (m : Ms) (H : Hp) (st : S) (x : D) (v : V) (Q : VK), Rep X.K m H x v → SO X.K m H st → Ans X.K m H (f x st) Q (rd v H Q)) (h : ∀ {ta : TE}, PE X a ta → PE X e (fun σ H Q => ta σ H fun v H1 => rd v H1 Q)) (ha : DE X W a ga) : DE X W e (gUn f ga) := by
  refine PE.imp (h ha) fun σ H Q q => ?_
  obtain ⟨m, r, st, E, s, q⟩ := q
  unfold gUn at q
  refine tE_use E s ?_
  cases ea : ga r st with
  | bad => rw [ea] at q; exact q
  | err c fs st1 => rw [ea] at q; exact q
  | ok d st1 =>
    rw [ea] at q
    dsimp only at q ⊢
    intro v m1 H1 g1 r1 s1
    have k := hk m1 H1 st1 d v Q r1 s1
    cases ef : f d st1 with
    | bad => rw [ef] at q; exact q.elim
    | err c fs st3 => rw [ef] at k; exact k.elim
    | ok d st3 =>
      rw [ef] at q k
      exact k fun w m3 H3 g3 r3 s3 => q w m3 H3 (g1.trans g3) r3 s3
def fNeg : D → S → R D
  | .int i, st => .ok (.int (-i)) st
  | _, _ => .bad
theorem dneg (ha : DE X W a ga) : DE X W (.UnaryOp .USub a pos) (gUn fNeg ga) := dun1 (rd := rU fun i => .int (-i)) (fun m H st x v Q rx s => by
  cases x with
  | int i =>
    have e1 : v = .int i := rx
    subst e1
    exact ans_ok s (show Rep X.K m H (.int (-i)) (.int (-i)) from rfl) fun q => ⟨i, rfl, q⟩
  | _ => trivial) (fun h => pe_un un_neg h) ha
def fBits : D → S → R D
  | .int i, st => .ok (.int (Builtin.Int.intBits i : Nat)) st
  | _, _ => .bad
theorem dbits {apos : Pos} (ha : DE X W a ga) (hbase : attributeBase a "bit_length" X.env (eval a X.env) = eval a X.env := by rfl) (hline : (apos.endLine == pos.line) = true := by rfl) : DE X W (.Call (.Attribute a "bit_length" apos) [] [] pos) (gUn fBits ga) :=
  dun1 (rd := fun x H Q => ∃ i, x = .int i ∧ Q (.int (Builtin.Int.intBits i : Nat)) H) (fun m H st x v Q rx s => by
  cases x with
  | int i =>
    have e1 : v = .int i := rx
    subst e1
    exact ans_ok s (show Rep X.K m H (.int (Builtin.Int.intBits i : Nat)) (.int (Builtin.Int.intBits i : Nat)) from rfl) fun q => ⟨i, rfl, q⟩
  | _ => trivial) (fun h => pe_bits h hbase hline) ha
def fRevL (c : Bool) : D → S → R D
  | .tup _, _ => .bad
  | d, st => (match seqOf st d with
    | some ds => nl c ds.reverse st
    | none => .bad)
/-- xs[::-1], a list -/
theorem drevL {c : Bool} {k : Nat} {q1 q2 q3 : Pos} (ha : DE X W a ga) : DE X W (.Subscript a (.Slice none none (some (.UnaryOp .USub (.Constant (.int 1) k q1) q2)) q3) pos) (gUn (fRevL c) ga) :=
  dun1 (rd := fun x H1 Q => ∃ a xs, x = .ref a ∧ SqL X.K H1 a xs ∧ ∀ p, H1 p = none → Q (.ref p) (upd H1 p (.lst xs.reverse))) (fun m H st x v Q rx s => by
  have key : ∀ {d : D}, (∀ xs, d ≠ .tup xs) → Rep X.K m H d v → Ans X.K m H (match seqOf st d with
    | some ds => nl c ds.reverse st
    | none => .bad) Q (∃ a xs, v = .ref a ∧ SqL X.K H a xs ∧ ∀ p, H p = none → Q (.ref p) (upd H p (.lst xs.reverse))) := by
    intro d hd rx
    cases z : seqOf st d with
    | none => trivial
    | some ds =>
      obtain ⟨p, vs, ev, q, rs, _, q2⟩ := seq_rep s rx z
      exact ans_nl fun d' st' e k => ⟨p, vs, ev, q2 hd, fun t ht => newL s (Reps.reverse rs) ht e k⟩
  cases x with
  | tup _ => trivial
  | _ => exact key (fun xs z => by cases z) rx) (fun h => pe_revL h) ha
/-! ### tests -/
def truth (st : S) : D → Option Bool
  | .non => some false
  | .bl b => some b
  | .int i => some (i != 0)
  | .str x => if x.length ≤ 100000 then some ((x.length : Int) != 0) else none
  | .ty _ => none
  | d => (seqOf st d).map fun ds => !ds.isEmpty
def gTr (ga : G) : GT := fun r st => match ga r st with
  | .ok x st1 => (match truth st1 x with
    | some b => .ok b st1
    | none => .bad)
  | .err c fs s => .err c fs s
  | .bad => .bad
theorem tru_rep {K : PySem.W.Frag} {m : Ms} {H : Hp} {st : S} {d : D} {v : V} {b : Bool} (s : SO K m H st) (r : Rep K m H d v) (e : truth st d = some b) : TruV K v H b := by
  have key : ∀ {d : D}, Rep K m H d v → (seqOf st d).map (fun ds => !ds.isEmpty) = some b → TruV K v H b := by
    intro d r e
    cases z : seqOf st d with
    | none =>
      rw [z] at e
      cases e
    | some ds =>
      rw [z] at e
      have e2 : (!ds.isEmpty) = b := Option.some.inj e
      obtain ⟨p, vs, ev, q, rs, _⟩ := seq_rep s r z
      subst ev
      have e3 : (!ds.isEmpty) = !vs.isEmpty := by
        have l := Reps.len rs
        cases ds <;> cases vs <;> first | rfl | (simp at l)
      rw [e3] at e2
      rcases q with q | q
      · exact Or.inl ⟨vs, q, e2.symm⟩
      · exact Or.inr (Or.inl ⟨vs, q, e2.symm⟩)
  cases d with
  | non =>
    have e1 : v = .non := r
    subst e1
    exact (Option.some.inj e).symm
  | bl k =>
    have e1 : v = .bl k := r
    subst e1
    exact (Option.some.inj e).symm
  | int i =>
    have e1 : v = .int i := r
    subst e1
    exact (Option.some.inj e).symm
  | str x =>
    have e1 : v = .str x := r
    subst e1
    have e2 : (if x.length ≤ 100000 then some ((x.length : Int) != 0) else none) = some b := e
    split at e2
    · rename_i hl
      exact ⟨sz hl, (Option.some.inj e2).symm⟩
    · cases e2
  | ty n => cases e
  | tup ds => exact key (d := .tup ds) r e
  | lv ds => exact key (d := .lv ds) r e
  | fz ds => exact key (d := .fz ds) r e
  | loc l => exact key (d := .loc l) r e
/-- the test of a value's truth -/
theorem dt (ha : DE X W a ga) (he : ∀ whole, isTrue a X.env whole = (do let v ← whole; standAt a.pos; holding [v] (truthy v)) := by exact fun _ => rfl) : DT X W a (gTr ga) := by
  refine PT.imp (pt_truth ha he) fun σ H Q q => ?_
  obtain ⟨m, r, st, E, s, q⟩ := q
  unfold gTr at q
  refine tE_use E s ?_
  cases ea : ga r st with
  | bad => rw [ea] at q; exact q
  | err c fs st1 => rw [ea] at q; exact q
  | ok x st1 =>
    rw [ea] at q
    dsimp only at q ⊢
    cases z : truth st1 x with
    | none => rw [z] at q; exact q.elim
    | some b =>
      rw [z] at q
      intro v m' H' g rv s'
      exact ⟨b, tru_rep s' rv z, q m' H' g s'⟩
/-- a comparison as a test -/
theorem dtop {r2 : R2} {f : D → D → S → R D} (hk : OpOk X.K r2 f) (hr : ∀ x y st d st', f x y st = .ok d st' → ∃ b, d = .bl b) (h : ∀ {ta tb : TE}, PE X a ta → PE X b tb → PT X e (tTest (tOp r2 ta tb))) (ha : DE X W a ga) (hb : DE X W b gb) : DT X W e (gTr (gBin f ga gb)) := by
  refine PT.imp (h ha hb) fun σ H Q q => ?_
  obtain ⟨m, r, st, E, s, q⟩ := q
  unfold gTr gBin at q
  show tE X.K X.mg W ga σ H fun x H1 => tE X.K X.mg W gb σ H1 fun y H2 => r2 x y H2 fun z H3 => ∃ k, z = .bl k ∧ Q k H3
  refine tE_use E s ?_
  cases ea : ga r st with
  | bad => rw [ea] at q; exact q
  | err c fs st1 => rw [ea] at q; exact q
  | ok x st1 =>
    rw [ea] at q
    dsimp only at q ⊢
    intro v m1 H1 g1 r1 s1
    refine tE_use (E.mono g1 s) s1 ?_
    cases eb : gb r st1 with
    | bad => rw [eb] at q; exact q
    | err c fs st2 =>
      rw [eb] at q
      intro cls d m2 H2 g2 er s2
      exact q cls d m2 H2 (g1.trans g2) er s2
    | ok y st2 =>
      rw [eb] at q
      dsimp only at q ⊢
      intro u m2 H2 g2 r2' s2
      have k := hk m2 H2 st2 x y v u (fun z H3 => ∃ k, z = .bl k ∧ Q k H3) (Rep.mono g2 s1 r1) r2' s2
      cases ef : f x y st2 with
      | bad => rw [ef] at q; exact q.elim
      | err c fs st3 => rw [ef] at k; exact k.elim
      | ok d st3 =>
        obtain ⟨bb, eb2⟩ := hr x y st2 d st3 ef
        subst eb2
        rw [ef] at q k
        exact k fun w m3 H3 g3 r3 s3 => ⟨bb, r3, q m3 H3 ((g1.trans g2).trans g3) s3⟩
def gNot (g : GT) : GT := fun r st => match g r st with
  | .ok b st' => .ok (!b) st'
  | .err c fs s => .err c fs s
  | .bad => .bad
def gAnd (g h : GT) : GT := fun r st => match g r st with
  | .ok true st' => h r st'
  | .ok false st' => .ok false st'
  | .err c fs s => .err c fs s
  | .bad => .bad
def gOr (g h : GT) : GT := fun r st => match g r st with
  | .ok true st' => .ok true st'
  | .ok false st' => h r st'
  | .err c fs s => .err c fs s
  | .bad => .bad
variable {gt gu : GT}
theorem dt_not (h : DT X W a gt) : DT X W (.UnaryOp .Not a pos) (gNot gt) := PT.imp (pt_not h) fun σ H Q q => by
  obtain ⟨m, r, st, E, s, q⟩ := q
  unfold gNot at q
  refine ⟨m, r, st, E, s, ?_⟩
  cases ea : gt r st with
  | bad => rw [ea] at q; exact q
  | err c fs st1 => rw [ea] at q; exact q
  | ok x st1 => rw [ea] at q; exact q
/-- what comes behind a test -/
theorem tT_then {K : PySem.W.Frag} {mg : Str → Option Value} {σ : L2.St} {H : Hp} {Q R1 : Bool → Hp → Prop} {m : Ms} {r : En} {st : S} {g : GT} {gf : Bool → GT} (E : EO K m H σ r) (s : SO K m H st)
    (h : match (match g r st with
        | .ok b st' => gf b r st'
        | .err c fs s => .err c fs s
        | .bad => .bad) with
      | .ok b st' => ∀ m' H', Gr m H m' H' → SO K m' H' st' → Q b H'
      | .err c fs st' => ∀ cls d m' H', Gr m H m' H' → Er K mg m' H' cls d c fs → SO K m' H' st' → W cls d σ H'
      | .bad => False)
    (k : ∀ b m1 H1 st1, Gr m H m1 H1 → EO K m1 H1 σ r → SO K m1 H1 st1 → tT K mg W (gf b) σ H1 Q → R1 b H1) : tT K mg W g σ H R1 := by
  refine ⟨m, r, st, E, s, ?_⟩
  cases ea : g r st with
  | bad => rw [ea] at h; exact h
  | err c fs st1 => rw [ea] at h; exact h
  | ok x st1 =>
    rw [ea] at h
    dsimp only at h ⊢
    intro m1 H1 g1 s1
    refine k x m1 H1 st1 g1 (E.mono g1 s) s1 ⟨m1, r, st1, E.mono g1 s, s1, ?_⟩
    cases eb : gf x r st1 with
    | bad => rw [eb] at h; exact h
    | err c fs st2 =>
      rw [eb] at h
      intro cls d m2 H2 g2 er s2
      exact h cls d m2 H2 (g1.trans g2) er s2
    | ok y st2 =>
      rw [eb] at h
      intro m2 H2 g2 s2
      exact h m2 H2 (g1.trans g2) s2
theorem tT_ok {K : PySem.W.Frag} {mg : Str → Option Value} {σ : L2.St} {H : Hp} {Q : Bool → Hp → Prop} {b : Bool} (h : tT K mg W (fun _ st => .ok b st) σ H Q) : Q b H := by
  obtain ⟨m, r, st, E, s, q⟩ := h
  exact q m H Gr.refl s
theorem dw_and (h : DT X W a gt) (k : DW X W (.BoolOp .And (b :: rest) pos) gu) : DW X W (.BoolOp .And (a :: b :: rest) pos) (gAnd gt gu) := PW.imp (pw_and h k) fun σ H Q q => by
  obtain ⟨m, r, st, E, s, q⟩ := q
  refine tT_then (g := gt) (gf := fun b => if b = true then gu else fun _ st => .ok false st) (Q := Q) E s ?_ fun b m1 H1 st1 g1 E1 s1 z => ?_
  · unfold gAnd at q
    cases ea : gt r st with
    | bad => rw [ea] at q; exact q
    | err c fs st1 => rw [ea] at q; exact q
    | ok x st1 => rw [ea] at q; cases x <;> exact q
  · cases b with
    | true => exact z
    | false => exact tT_ok z
theorem dw_and1 (h : DT X W a gt) : DW X W (.BoolOp .And [a] pos) gt := pw_and1 h
theorem dw_or (h : DT X W a gt) (k : DW X W (.BoolOp .Or (b :: rest) pos) gu) : DW X W (.BoolOp .Or (a :: b :: rest) pos) (gOr gt gu) := PW.imp (pw_or h k) fun σ H Q q => by
  obtain ⟨m, r, st, E, s, q⟩ := q
  refine tT_then (g := gt) (gf := fun b => if b = true then (fun _ st => .ok true st) else gu) (Q := Q) E s ?_ fun b m1 H1 st1 g1 E1 s1 z => ?_
  · unfold gOr at q
    cases ea : gt r st with
    | bad => rw [ea] at q; exact q
    | err c fs st1 => rw [ea] at q; exact q
    | ok x st1 => rw [ea] at q; cases x <;> exact q
  · cases b with
    | true => exact tT_ok z
    | false => exact z
theorem dw_or1 (h : DT X W a gt) : DW X W (.BoolOp .Or [a] pos) gt := pw_or1 h
theorem dt_w (h : DW X W a gt) : DT X W a gt := h.pt
end
end Sv
set_option Elab.async false
set_option linter.all false
set_option maxRecDepth 100000
set_option maxHeartbeats 4000000
namespace Sv
open PySem PySem.Spec PyProof.Rows L2
section
variable {X : Cx} {W : WX} {a b c e : Expr} {es rest : List Expr} {pos p2 : Pos} {ga gb gc : G} {gt gu : GT}
/-! ### and, or, not, if as values -/
/-- ga, then what its value says -/
theorem tE_then {K : PySem.W.Frag} {mg : Str → Option Value} {σ : L2.St} {H : Hp} {R1 : VK} {Q : VK} {m : Ms} {r : En} {st : S} {g : G} {gf : D → G} (E : EO K m H σ r) (s : SO K m H st)
    (h : match (match g r st with
        | .ok d st' => gf d r st'
        | .err c fs s => .err c fs s
        | .bad => .bad) with
      | .ok d st' => ∀ v m' H', Gr m H m' H' → Rep K m' H' d v → SO K m' H' st' → Q v H'
      | .err c fs st' => ∀ cls d m' H', Gr m H m' H' → Er K mg m' H' cls d c fs → SO K m' H' st' → W cls d σ H'
      | .bad => False)
    (k : ∀ d v m1 H1 st1, Gr m H m1 H1 → EO K m1 H1 σ r → SO K m1 H1 st1 → Rep K m1 H1 d v → tE K mg W (gf d) σ H1 Q → R1 v H1) : tE K mg W g σ H R1 := by
  refine tE_use E s ?_
  cases ea : g r st with
  | bad => rw [ea] at h; exact h
  | err c fs st1 => rw [ea] at h; exact h
  | ok x st1 =>
    rw [ea] at h
    dsimp only at h ⊢
    intro v m1 H1 g1 r1 s1
    refine k x v m1 H1 st1 g1 (E.mono g1 s) s1 r1 (tE_use (E.mono g1 s) s1 ?_)
    cases eb : gf x r st1 with
    | bad => rw [eb] at h; exact h
    | err c fs st2 =>
      rw [eb] at h
      intro cls d m2 H2 g2 er s2
      exact h cls d m2 H2 (g1.trans g2) er s2
    | ok y st2 =>
      rw [eb] at h
      intro w m2 H2 g2 r2 s2
      exact h w m2 H2 (g1.trans g2) r2 s2
theorem tE_ok {K : PySem.W.Frag} {mg : Str → Option Value} {σ : L2.St} {H : Hp} {Q : VK} {d : D} (h : tE K mg W (gC d) σ H Q) : ∃ m st, SO K m H st ∧ ∀ v m' H', Gr m H m' H' → Rep K m' H' d v → SO K m' H' st → Q v H' := by
  obtain ⟨m, r, st, E, s, q⟩ := h
  exact ⟨m, st, s, q⟩
def gBad : G := fun _ _ => .bad
theorem tE_bad {K : PySem.W.Frag} {mg : Str → Option Value} {σ : L2.St} {H : Hp} {Q : VK} {P : Prop} (h : tE K mg W gBad σ H Q) : P := by
  obtain ⟨m, r, st, E, s, q⟩ := h
  exact q.elim
def gAndV (ga gb : G) : G := fun r st => match ga r st with
  | .ok (.bl true) st1 => gb r st1
  | .ok (.bl false) st1 => .ok (.bl false) st1
  | .ok _ _ => .bad
  | .err c fs s => .err c fs s
  | .bad => .bad
def gOrV (ga gb : G) : G := fun r st => match ga r st with
  | .ok (.bl true) st1 => .ok (.bl true) st1
  | .ok (.bl false) st1 => gb r st1
  | .ok _ _ => .bad
  | .err c fs s => .err c fs s
  | .bad => .bad
theorem done1 {op} (h : DE X W a ga) : DE X W (.BoolOp op [a] pos) ga := pe_one h
theorem dandv (ha : DE X W a ga) (hb : DE X W (.BoolOp .And (b :: rest) pos) gb) : DE X W (.BoolOp .And (a :: b :: rest) pos) (gAndV ga gb) := PE.imp (pe_and ha hb) fun σ H Q q => by
  obtain ⟨m, r, st, E, s, q⟩ := q
  refine tE_then (g := ga) (gf := fun d => match d with
    | .bl true => gb
    | .bl false => gC (.bl false)
    | _ => gBad) (Q := Q) E s ?_ fun d v m1 H1 st1 g1 E1 s1 rv z => ?_
  · unfold gAndV at q
    cases ea : ga r st with
    | bad => rw [ea] at q; exact q
    | err c fs st1 => rw [ea] at q; exact q
    | ok x st1 =>
      rw [ea] at q
      cases x with
      | bl b => cases b <;> exact q
      | _ => exact q
  · cases d with
    | bl b =>
      have e1 : v = .bl b := rv
      subst e1
      cases b with
      | true => exact ⟨true, rfl, z⟩
      | false =>
        obtain ⟨m2, st2, s2, q2⟩ := tE_ok z
        exact ⟨false, rfl, q2 _ m2 H1 Gr.refl rfl s2⟩
    | _ => exact tE_bad z
theorem dorv (ha : DE X W a ga) (hb : DE X W (.BoolOp .Or (b :: rest) pos) gb) : DE X W (.BoolOp .Or (a :: b :: rest) pos) (gOrV ga gb) := PE.imp (pe_or ha hb) fun σ H Q q => by
  obtain ⟨m, r, st, E, s, q⟩ := q
  refine tE_then (g := ga) (gf := fun d => match d with
    | .bl true => gC (.bl true)
    | .bl false => gb
    | _ => gBad) (Q := Q) E s ?_ fun d v m1 H1 st1 g1 E1 s1 rv z => ?_
  · unfold gOrV at q
    cases ea : ga r st with
    | bad => rw [ea] at q; exact q
    | err c fs st1 => rw [ea] at q; exact q
    | ok x st1 =>
      rw [ea] at q
      cases x with
      | bl b => cases b <;> exact q
      | _ => exact q
  · cases d with
    | bl b =>
      have e1 : v = .bl b := rv
      subst e1
      cases b with
      | false => exact ⟨false, rfl, z⟩
      | true =>
        obtain ⟨m2, st2, s2, q2⟩ := tE_ok z
        exact ⟨true, rfl, q2 _ m2 H1 Gr.refl rfl s2⟩
    | _ => exact tE_bad z
def fNot : D → S → R D
  | .bl b, st => .ok (.bl (!b)) st
  | _, _ => .bad
theorem dnotv (ha : DE X W a ga) : DE X W (.UnaryOp .Not a pos) (gUn fNot ga) := dun1 (rd := fun x H1 Q => ∃ c, x = .bl c ∧ Q (.bl (!c)) H1) (fun m H st x v Q rx s => by
  cases x with
  | bl b =>
    have e1 : v = .bl b := rx
    subst e1
    exact ans_ok s (show Rep X.K m H (.bl (!b)) (.bl (!b)) from rfl) fun q => ⟨b, rfl, q⟩
  | _ => trivial) (fun h => pe_not h) ha
def gIfE (gt : GT) (ga gb : G) : G := fun r st => match gt r st with
  | .ok true st1 => ga r st1
  | .ok false st1 => gb r st1
  | .err c fs s => .err c fs s
  | .bad => .bad
/-- a test, then what it says -/
theorem tT_thenE {K : PySem.W.Frag} {mg : Str → Option Value} {σ : L2.St} {H : Hp} {Q : VK} {R1 : Bool → Hp → Prop} {m : Ms} {r : En} {st : S} {g : GT} {gf : Bool → G} (E : EO K m H σ r) (s : SO K m H st)
    (h : match (match g r st with
        | .ok b st' => gf b r st'
        | .err c fs s => .err c fs s
        | .bad => .bad) with
      | .ok d st' => ∀ v m' H', Gr m H m' H' → Rep K m' H' d v → SO K m' H' st' → Q v H'
      | .err c fs st' => ∀ cls d m' H', Gr m H m' H' → Er K mg m' H' cls d c fs → SO K m' H' st' → W cls d σ H'
      | .bad => False)
    (k : ∀ b H1, tE K mg W (gf b) σ H1 Q → R1 b H1) : tT K mg W g σ H R1 := by
  refine ⟨m, r, st, E, s, ?_⟩
  cases ea : g r st with
  | bad => rw [ea] at h; exact h
  | err c fs st1 => rw [ea] at h; exact h
  | ok x st1 =>
    rw [ea] at h
    dsimp only at h ⊢
    intro m1 H1 g1 s1
    refine k x H1 (tE_use (E.mono g1 s) s1 ?_)
    cases eb : gf x r st1 with
    | bad => rw [eb] at h; exact h
    | err c fs st2 =>
      rw [eb] at h
      intro cls d m2 H2 g2 er s2
      exact h cls d m2 H2 (g1.trans g2) er s2
    | ok y st2 =>
      rw [eb] at h
      intro w m2 H2 g2 r2 s2
      exact h w m2 H2 (g1.trans g2) r2 s2
theorem dife (hc : DT X W c gt) (ha : DE X W a ga) (hb : DE X W b gb) : DE X W (.IfExp c a b pos) (gIfE gt ga gb) := PE.imp (pe_ifExp hc ha hb) fun σ H Q q => by
  obtain ⟨m, r, st, E, s, q⟩ := q
  refine tT_thenE (gf := fun b => if b = true then ga else gb) (Q := Q) E s ?_ fun b H1 z => ?_
  · unfold gIfE at q
    cases ea : gt r st with
    | bad => rw [ea] at q; exact q
    | err c fs st1 => rw [ea] at q; exact q
    | ok x st1 => rw [ea] at q; cases x <;> exact q
  · cases b with
    | true => exact z
    | false => exact z
/-! ### comparisons as tests -/
theorem int2_bl {C : Int → Int → Prop} [∀ i j, Decidable (C i j)] {g : Int → Int → Bool} : ∀ x y st d st', fInt2 C (fun i j => .bl (g i j)) x y st = .ok d st' → ∃ b, d = .bl b := fun x y st d st' h => by
  cases x with
  | int i =>
    cases y with
    | int j =>
      have h2 : (if C i j then R.ok (.bl (g i j)) st else R.bad) = R.ok d st' := h
      split at h2
      · cases h2
        exact ⟨_, rfl⟩
      · cases h2
    | _ => cases h
  | _ => cases h
theorem eqB_bl {k : Bool → Bool} : ∀ x y st d st', fEqB k x y st = .ok d st' → ∃ b, d = .bl b := fun x y st d st' h => by
  unfold fEqB at h
  split at h
  · cases h
    exact ⟨_, rfl⟩
  · split at h
    · split at h
      · cases h
        exact ⟨_, rfl⟩
      · cases h
    · cases h
theorem is_bl {k : Bool → Bool} : ∀ x y st d st', fIs k x y st = .ok d st' → ∃ b, d = .bl b := fun x y st d st' h => by
  unfold fIs at h
  split at h
  · cases h
    exact ⟨_, rfl⟩
  · cases h
    exact ⟨_, rfl⟩
  · cases h
theorem tlt (ha : DE X W a ga) (hb : DE X W b gb) : DT X W (.Compare a [.Lt] [b] pos) (gTr (gBin fLt ga gb)) := dtop (okInt2 (fun i j H Q _ q => ⟨i, j, rfl, rfl, q⟩) fun _ _ _ _ => rfl) int2_bl (fun h1 h2 => pt_cmpR op_lt h1 h2 (nomark _)) ha hb
theorem tle (ha : DE X W a ga) (hb : DE X W b gb) : DT X W (.Compare a [.LtE] [b] pos) (gTr (gBin fLe ga gb)) := dtop (okInt2 (fun i j H Q _ q => ⟨i, j, rfl, rfl, q⟩) fun _ _ _ _ => rfl) int2_bl (fun h1 h2 => pt_cmpR op_le h1 h2 (nomark _)) ha hb
theorem tgt (ha : DE X W a ga) (hb : DE X W b gb) : DT X W (.Compare a [.Gt] [b] pos) (gTr (gBin fGt ga gb)) := dtop (okInt2 (fun i j H Q _ q => ⟨i, j, rfl, rfl, q⟩) fun _ _ _ _ => rfl) int2_bl (fun h1 h2 => pt_cmpR op_gt h1 h2 (nomark _)) ha hb
theorem tge (ha : DE X W a ga) (hb : DE X W b gb) : DT X W (.Compare a [.GtE] [b] pos) (gTr (gBin fGe ga gb)) := dtop (okInt2 (fun i j H Q _ q => ⟨i, j, rfl, rfl, q⟩) fun _ _ _ _ => rfl) int2_bl (fun h1 h2 => pt_cmpR op_ge h1 h2 (nomark _)) ha hb
theorem teq (hu : X.A.units + 64 < cLine) (ha : DE X W a ga) (hb : DE X W b gb) : DT X W (.Compare a [.Eq] [b] pos) (gTr (gBin fEq ga gb)) :=
  dtop (ok_eqB (fun x y H Q h q => Or.inl ⟨h, q⟩) fun x y H Q d e h1 h2 h3 h4 q => Or.inr ⟨d, e, h1, h2, h3, h4, q⟩) eqB_bl (fun h1 h2 => pt_cmpR (opOr op_eq (op_eqD hu)) h1 h2 (nomark _)) ha hb
theorem tne (hu : X.A.units + 64 < cLine) (ha : DE X W a ga) (hb : DE X W b gb) : DT X W (.Compare a [.NotEq] [b] pos) (gTr (gBin fNe ga gb)) :=
  dtop (ok_eqB (fun x y H Q h q => Or.inl ⟨h, q⟩) fun x y H Q d e h1 h2 h3 h4 q => Or.inr ⟨d, e, h1, h2, h3, h4, q⟩) eqB_bl (fun h1 h2 => pt_cmpR (opOr op_ne (op_neD hu)) h1 h2 (nomark _)) ha hb
theorem tis (ha : DE X W a ga) (hb : DE X W b gb) : DT X W (.Compare a [.Is] [b] pos) (gTr (gBin (fIs id) ga gb)) := dtop (ok_is (fun x H Q q => Or.inl ⟨rfl, q⟩) fun a b H Q q => Or.inr ⟨a, b, rfl, rfl, q⟩) is_bl (fun h1 h2 => pt_cmpR (opOr op_isN op_isBl) h1 h2 (nomark _)) ha hb
theorem tisnot (ha : DE X W a ga) (hb : DE X W b gb) : DT X W (.Compare a [.IsNot] [b] pos) (gTr (gBin (fIs not) ga gb)) := dtop (ok_is (fun x H Q q => Or.inl ⟨rfl, q⟩) fun a b H Q q => Or.inr ⟨a, b, rfl, rfl, q⟩) is_bl (fun h1 h2 => pt_cmpR (opOr op_notN op_notBl) h1 h2 (nomark _)) ha hb
end
end Sv
set_option Elab.async false
set_option linter.all false
set_option maxRecDepth 100000
set_option maxHeartbeats 4000000
namespace Sv
open PySem PySem.Spec PyProof.Rows L2
/-- a def's promise by its function of data -/
def PF (K : PySem.W.Frag) (mg : Str → Option Value) (n : Nat) (F : List D → S → R D) : Sp := fun vs H Q E => vs.length = n ∧ ∃ m ds st, Reps K m H ds vs ∧ SO K m H st ∧ match F ds st with
  | .ok d st' => ∀ v m' H', Gr m H m' H' → Rep K m' H' d v → SO K m' H' st' → Q v H'
  | .err c fs st' => ∀ cls dd m' H', Gr m H m' H' → Er K mg m' H' cls dd c fs → SO K m' H' st' → E cls dd H'
  | .bad => False
abbrev Fok (P : Program) (w : World) (K : PySem.W.Frag) (mg : Str → Option Value) (base : Heap) (k : Nat) (f : Addr) (fd : FuncData) (ps : List Str) (F : List D → S → R D) : Prop := FnOk P w K mg base (L2.CX P w) k f fd ps (PF K mg ps.length F)
def pick {α : Type} (ix : List Nat) (xs : List α) : List α := ix.filterMap fun i => xs[i]?
theorem pick_reps {K : PySem.W.Frag} {m : Ms} {H : Hp} {ds : List D} {vs : List V} (r : Reps K m H ds vs) : ∀ ix : List Nat, Reps K m H (pick ix ds) (pick ix vs)
  | [] => rfl
  | i :: ix => by
    have ih := pick_reps r ix
    unfold pick at ih ⊢
    cases e : ds[i]? with
    | none =>
      have e2 : vs[i]? = none := by
        rw [List.getElem?_eq_none_iff] at e ⊢
        rw [Reps.len r]
        exact e
      rw [List.filterMap_cons, List.filterMap_cons, e, e2]
      exact ih
    | some d =>
      obtain ⟨v, h1, h2⟩ := Reps.get r e
      rw [List.filterMap_cons, List.filterMap_cons, e, h1]
      exact ⟨v, _, rfl, h2, ih⟩
theorem pick_vals {vs : List V} {us : List Value} (r : Vals vs us) : ∀ ix : List Nat, Vals (pick ix vs) (pick ix us)
  | [] => .nil
  | i :: ix => by
    have ih := pick_vals r ix
    unfold pick at ih ⊢
    cases e : vs[i]? with
    | none =>
      have e2 := r.none_of e
      rw [List.filterMap_cons, List.filterMap_cons, e, e2]
      exact ih
    | some d =>
      obtain ⟨v, h1, h2⟩ := r.get e
      rw [List.filterMap_cons, List.filterMap_cons, e, h1]
      exact .cons h2 ih
section
variable {X : Cx} {W : WX} {a b c e : Expr} {es rest : List Expr} {pos p2 p : Pos} {ga gb gc : G} {gt gu : GT} {gr : GA} {k : Nat} {f : Addr} {fd : FuncData} {ps : List Str} {F : List D → S → R D} {x : Str}
/-- the promise, used -/
theorem pf_of {K : PySem.W.Frag} {mg : Str → Option Value} {m : Ms} {H : Hp} {st : S} {ds : List D} {vs : List V} {n : Nat} {Q : VK} {E : XK} (hn : ds.length = n) (r : Reps K m H ds vs) (s : SO K m H st) (h : match F ds st with
      | .ok d st' => ∀ v m' H', Gr m H m' H' → Rep K m' H' d v → SO K m' H' st' → Q v H'
      | .err c fs st' => ∀ cls dd m' H', Gr m H m' H' → Er K mg m' H' cls dd c fs → SO K m' H' st' → E cls dd H'
      | .bad => False) : PF K mg n F vs H Q E := ⟨(Reps.len r).trans hn, m, ds, st, r, s, h⟩
/-- f(e, ..), a def -/
def gDef (n : Nat) (F : List D → S → R D) (gr : GA) : G := fun r st => match gr r st with
  | .ok ds st1 => if ds.length = n then F ds st1 else .bad
  | .err c fs s => .err c fs s
  | .bad => .bad
theorem call_tail {K : PySem.W.Frag} {mg : Str → Option Value} {σ : L2.St} {H : Hp} {Q : VK} {n : Nat} (h : tE K mg W (gDef n F gr) σ H Q) : tA K mg W gr σ H fun vs H1 => PF K mg n F vs H1 Q (WE W σ) := by
  obtain ⟨m, r, st, E, s, q⟩ := h
  unfold gDef at q
  refine ⟨m, r, st, E, s, ?_⟩
  cases ea : gr r st with
  | bad => rw [ea] at q; exact q
  | err c fs st1 => rw [ea] at q; exact q
  | ok ds st1 =>
    rw [ea] at q
    dsimp only at q ⊢
    intro vs m1 H1 g1 r1 s1
    by_cases hn : ds.length = n
    · rw [if_pos hn] at q
      refine pf_of hn r1 s1 ?_
      cases ef : F ds st1 with
      | bad => rw [ef] at q; exact q
      | err c fs st2 =>
        rw [ef] at q
        intro cls d m2 H2 g2 er s2
        exact q cls d m2 H2 (g1.trans g2) er s2
      | ok d st2 =>
        rw [ef] at q
        intro v m2 H2 g2 r2 s2
        exact q v m2 H2 (g1.trans g2) r2 s2
    · rw [if_neg hn] at q
      exact q.elim
theorem ddef (tk : Takes X W) (FF : Fok X.prog X.w X.K X.mg X.base k f fd ps F) (hr : Room k X.A) (hm : X.mg x = some (.ref f)) (hk : PySem.W.keepIn X.K (.ref f) = true) (hb : Binds X.K fd ps []) (ha : DA X W (e :: es) gr) (hg : Gl X x := by rfl)
    (hdb : (x == ("__debug__" : Str)) = false := by decide) (he : starEach (e :: es) X.env = (false, eval e X.env) :: starEach es X.env := by rfl) (hpl : (backTo pos (starEach es X.env)).any (·.1) = false := by rfl) : DE X W (.Call (.Name x p) (e :: es) [] pos) (gDef ps.length F gr) :=
  PE.imp (pe_callS FF hr hg hm hk hb (fun σ => passAt tk σ) ha hdb he hpl) fun _ _ _ h => call_tail h
/-- f() -/
def gDef0 (F : List D → S → R D) : G := fun r st => match F [] st with
  | .ok d st1 => .ok d st1
  | _ => .bad
theorem ddef0 (FF : Fok X.prog X.w X.K X.mg X.base k f fd [] F) (hr : Room k X.A) (hm : X.mg x = some (.ref f)) (hk : PySem.W.keepIn X.K (.ref f) = true) (hb : Binds X.K fd [] []) (hg : Gl X x := by rfl) (hdb : (x == ("__debug__" : Str)) = false := by decide) :
    DE X W (.Call (.Name x p) [] [] pos) (gDef0 F) := PE.imp (pe_call0 FF hr hg hm hk hb .nil (E := E0) passL hdb) fun σ H Q h => by
  obtain ⟨m, r, st, E, s, q⟩ := h
  unfold gDef0 at q
  refine pf_of (ds := []) rfl rfl s ?_
  cases ef : F [] st with
  | bad => rw [ef] at q; exact q
  | err c fs st2 => rw [ef] at q; exact q.elim
  | ok d st2 => rw [ef] at q; exact q
/-! ### keywords -/
abbrev DK (X : Cx) (W : WX) (kws : List Keyword) (g : GA) : Prop := PK X kws (tA X.K X.mg W g)
theorem PK.imp {kws : List Keyword} {t t' : TA} (h : PK X kws t) (k : ∀ σ H Q, t' σ H Q → t σ H Q) : PK X kws t' := ⟨fun p pins s σ H Q I q => h.run p pins s σ H Q I (k _ _ _ q)⟩
theorem dk_nil : DK X W [] gNil := PK.imp pk_nil fun σ H Q q => by
  obtain ⟨m, r, st, E, s, q⟩ := q
  exact q [] m H Gr.refl rfl s
theorem dk_cons {kws : List Keyword} {nm : Option Str} {kpos : Pos} (ha : DE X W e ga) (hr : DK X W kws gr) : DK X W (⟨nm, e, kpos⟩ :: kws) (gCons ga gr) := by
  refine PK.imp (pk_cons ha hr) fun σ H Q q => ?_
  obtain ⟨m, r, st, E, s, q⟩ := q
  unfold gCons at q
  show tE X.K X.mg W ga σ H fun x H1 => tA X.K X.mg W gr σ H1 fun xs H2 => Q (x :: xs) H2
  refine tE_use E s ?_
  cases ea : ga r st with
  | bad => rw [ea] at q; exact q
  | err c fs st1 => rw [ea] at q; exact q
  | ok x st1 =>
    rw [ea] at q
    dsimp only at q ⊢
    intro v m1 H1 g1 r1 s1
    refine ⟨m1, r, st1, E.mono g1 s, s1, ?_⟩
    cases eb : gr r st1 with
    | bad => rw [eb] at q; exact q
    | err c fs st2 =>
      rw [eb] at q
      intro cls d m2 H2 g2 er s2
      exact q cls d m2 H2 (g1.trans g2) er s2
    | ok xs st2 =>
      rw [eb] at q
      dsimp only at q ⊢
      intro vs m2 H2 g2 r2 s2
      exact q (v :: vs) m2 H2 (g1.trans g2) ⟨v, vs, rfl, Rep.mono g2 s1 r1, r2⟩ s2
/-- how keywords come to parameters: ix tells, for each parameter, the keyword -/
def KwB (K : PySem.W.Frag) (fd : FuncData) (ps ks : List Str) (ix : List Nat) : Prop := ∀ (s : Shared) (ws : List Value), K.In s.heap → ws.length = ks.length → BindsTo s fd ⟨[], ks.zip ws⟩ (ps.zip (pick ix ws))
def gKw (n nk : Nat) (ix : List Nat) (F : List D → S → R D) (gr : GA) : G := fun r st => match gr r st with
  | .ok ds st1 => if ds.length = nk ∧ (pick ix ds).length = n then F (pick ix ds) st1 else .bad
  | .err c fs s => .err c fs s
  | .bad => .bad
theorem ddefk {ks : List Str} {kws : List Keyword} {ix : List Nat} (tk : Takes X W) (FF : Fok X.prog X.w X.K X.mg X.base k f fd ps F) (hr : Room k X.A) (hm : X.mg x = some (.ref f)) (hk : PySem.W.keepIn X.K (.ref f) = true) (hb : KwB X.K fd ps ks ix) (ha : DK X W kws gr) (hg : Gl X x := by rfl)
    (hall : (backToKw pos (keywordEach kws X.env)).all (·.1.isSome) = true := by rfl) (hks : (backToKw pos (keywordEach kws X.env)).filterMap (·.1) = ks := by rfl)
    (hdb : (x == ("__debug__" : Str)) = false := by decide) (hpl : ((backTo pos (starEach [] X.env)).any (·.1) || (backToKw pos (keywordEach kws X.env)).any (·.1.isNone)) = false := by rfl) : DE X W (.Call (.Name x p) [] kws pos) (gKw ps.length ks.length ix F gr) := by
  refine ⟨fun pins s σ H Q I h => ?_⟩
  refine wpAny_Call_Name_kw (ld_glob I hg hm ?_ hdb)
  refine PySem.W.callWith_KW0 (h₀ := X.base) I.ok.mod.kin hk hall ?_ hpl
  have h2 : tA X.K X.mg W gr σ H fun vs H1 => vs.length = ks.length ∧ PF X.K X.mg ps.length F (pick ix vs) H1 Q (WE W σ) := by
    obtain ⟨m, r, st, E, s, q⟩ := h
    unfold gKw at q
    refine ⟨m, r, st, E, s, ?_⟩
    cases ea : gr r st with
    | bad => rw [ea] at q; exact q
    | err c fs st1 => rw [ea] at q; exact q
    | ok ds st1 =>
      rw [ea] at q
      dsimp only at q ⊢
      intro vs m1 H1 g1 r1 s1
      by_cases hn : ds.length = ks.length ∧ (pick ix ds).length = ps.length
      · rw [if_pos hn] at q
        refine ⟨(Reps.len r1).trans hn.1, pf_of hn.2 (pick_reps r1 ix) s1 ?_⟩
        cases ef : F (pick ix ds) st1 with
        | bad => rw [ef] at q; exact q
        | err c fs st2 =>
          rw [ef] at q
          intro cls d m2 H2 g2 er s2
          exact q cls d m2 H2 (g1.trans g2) er s2
        | ok d st2 =>
          rw [ef] at q
          intro v m2 H2 g2 r2 s2
          exact q v m2 H2 (g1.trans g2) r2 s2
      · rw [if_neg hn] at q
        exact q.elim
  refine thn (ha.run pos pins s σ H _ I h2) fun ws s2 ⟨zs, H2, I2, rz, hl, q2⟩ => ⟨I2.kIn, ?_⟩
  rw [hks]
  have hw : ws.length = ks.length := by rw [← rz.length]; exact hl
  refine wpAny_call (codeAny_mono (FF.run X.A X.stack s2 H2 ⟨[], ks.zip ws⟩ (pick ix ws) (pick ix zs) Q (WE W σ) hr I2.env0 (hb s2 ws I2.kIn hw) (pick_vals rz ix) q2) fun r s' hq => ?_)
  cases r with
  | error e => exact passAt tk σ pins H2 s2 e s' I2 hq
  | ok fl =>
    cases fl with
    | ret u => exact I2.after hq
    | next => exact False.elim hq
    | brk => exact False.elim hq
    | cont => exact False.elim hq
/-! ### changing lists -/
theorem SO.set {K : PySem.W.Frag} {m : Ms} {H : Hp} {st : S} {l : Nat} {p : Addr} {ds : List D} {vs : List V} (s : SO K m H st) (hl : m.l[l]? = some p) (r : Reps K m H ds vs) : Gr m H m (upd H p (.lst vs)) ∧ SO K m (upd H p (.lst vs)) (st.set l ds) := by
  have hm : p ∈ m.l := List.mem_of_getElem? hl
  have g : Gr m H m (upd H p (.lst vs)) := by
    refine ⟨⟨[], by simp, by simp⟩, ⟨[], rfl, by simp⟩, rfl, fun a o e hn _ => ?_, fun a o e => ?_⟩
    · rw [upd_ne (fun z => hn (by rw [z]; exact hm))]
      exact e
    · by_cases z : a = p
      · rw [z]
        exact ⟨_, upd_same⟩
      · exact ⟨o, by rw [upd_ne z]; exact e⟩
  refine ⟨g, by rw [List.length_set]; exact s.len, s.nd, s.dis, fun a ha => ?_, s.tabN fun a ps q => ?_, s.need, fun j a es e1 e2 => ?_⟩
  rotate_left
  · rw [upd_ne]
    · exact q
    · intro z
      rcases s.memO (a := a) (by rw [z]; exact Or.inl hm) q with ⟨vs, q⟩ | ⟨vs, q2⟩
      · cases q
      · obtain ⟨i1, h1⟩ := List.getElem?_eq_some_iff.mp hl
        obtain ⟨ds0, h0⟩ : ∃ ds0, st[l]? = some ds0 := ⟨_, List.getElem?_eq_getElem (by rw [← s.len]; exact i1)⟩
        obtain ⟨ws, q1, _⟩ := s.lst l p ds0 hl h0
        rw [z, q1] at q
        cases q
  rotate_left
  · obtain ⟨ws, q⟩ := s.hid a ha
    exact ⟨ws, by rw [upd_ne (fun z => s.dis a ha (by rw [z]; exact hm))]; exact q⟩
  by_cases hj : l = j
  · subst hj
    rw [hl] at e1
    cases e1
    have hlt : l < st.length := by rw [← s.len]; exact (List.getElem?_eq_some_iff.mp hl).1
    rw [List.getElem?_set_self hlt] at e2
    cases e2
    exact ⟨vs, upd_same, Reps.mono g s r⟩
  · rw [List.getElem?_set_ne hj] at e2
    obtain ⟨ws, q1, q2⟩ := s.lst j a es e1 e2
    refine ⟨ws, ?_, Reps.mono g s q2⟩
    rw [upd_ne ?_]
    · exact q1
    · intro z
      subst z
      obtain ⟨i1, h1⟩ := List.getElem?_eq_some_iff.mp hl
      obtain ⟨i2, h2⟩ := List.getElem?_eq_some_iff.mp e1
      exact hj ((List.getElem_inj s.nd).mp (h1.trans h2.symm))
/-- row.pop() -/
def fPop : D → S → R D
  | .loc l, st => (match st[l]? with
    | some ds => (match ds[ds.length - 1]? with
      | some d => .ok d (st.set l ds.dropLast)
      | none => .bad)
    | none => .bad)
  | _, _ => .bad
theorem Reps.dropLast {K : PySem.W.Frag} {m : Ms} {H : Hp} {ds : List D} {vs : List V} (r : Reps K m H ds vs) : Reps K m H ds.dropLast vs.dropLast := by
  rw [List.dropLast_eq_take, List.dropLast_eq_take, Reps.len r]
  exact Reps.take _ r
theorem dpop {apos : Pos} (ha : DE X W a ga) (hbase : attributeBase a "pop" X.env (eval a X.env) = eval a X.env := by rfl) (hline : (apos.endLine == pos.line) = true := by rfl) : DE X W (.Call (.Attribute a "pop" apos) [] [] pos) (gUn fPop ga) :=
  dun1 (rd := fun x H1 Q => tyV X.K "list" x H1 ∧ rPop x [] H1 Q) (fun m H st x v Q rx s => by
  cases x with
  | loc l =>
    obtain ⟨p, ev, hp⟩ := rx
    subst ev
    show Ans X.K m H (match st[l]? with
      | some ds => (match ds[ds.length - 1]? with
        | some d => .ok d (st.set l ds.dropLast)
        | none => .bad)
      | none => .bad) Q _
    cases e : st[l]? with
    | none => trivial
    | some ds =>
      show Ans X.K m H (match ds[ds.length - 1]? with
        | some d => .ok d (st.set l ds.dropLast)
        | none => .bad) Q _
      cases e2 : ds[ds.length - 1]? with
      | none => trivial
      | some d =>
        obtain ⟨vs, q1, q2⟩ := s.lst l p ds hp e
        obtain ⟨g, s2⟩ := SO.set s hp (Reps.dropLast q2)
        obtain ⟨u, h1, h2⟩ := Reps.get q2 e2
        intro k
        refine ⟨Or.inl ⟨rfl, vs, Or.inl (Or.inl q1)⟩, p, vs, u, rfl, rfl, q1, ?_, k u m _ g (Rep.mono g s h2) s2⟩
        rw [Reps.len q2]
        exact h1
  | _ => trivial) (fun h => pe_bm0 PySem.F.plainAttrs_list PySem.F.slot_list_pop PySem.F.type_list_pop mt_pop h hbase hline) ha
/-- xs.append(e), as an expression of value None -/
def fApp : D → D → S → R D
  | .loc l, d, st => (match st[l]? with
    | some ds => if ds.length < 100000 then .ok .non (st.set l (ds ++ [d])) else .bad
    | none => .bad)
  | _, _, _ => .bad
def gApp (ga gb : G) : G := fun r st => match ga r st with
  | .ok (.loc l) st1 => (match gb r st1 with
    | .ok y st2 => fApp (.loc l) y st2
    | .err c fs s => .err c fs s
    | .bad => .bad)
  | .ok _ _ => .bad
  | .err c fs s => .err c fs s
  | .bad => .bad
theorem dapp {apos : Pos} (ha : DE X W a ga) (hb : DE X W b gb) (hbase : attributeBase a "append" X.env (eval a X.env) = eval a X.env := by rfl)
    (hfew : ((backTo pos (starEach [b] X.env)).all (fun x => !x.1) && (backToKw pos (keywordEach [] X.env)).all (fun x => x.1.isSome)
      && decide (([b] : List Expr).length + ([] : List Keyword).length + (if ([] : List Keyword).isEmpty then 0 else 1) < 30)) = true := by rfl)
    (hline : (apos.endLine == pos.line) = true := by rfl) (hs : starEach [b] X.env = (false, eval b X.env) :: starEach [] X.env := by rfl) (hplain : (backTo pos (starEach [] X.env)).any (·.1) = false := by rfl) : DE X W (.Call (.Attribute a "append" apos) [b] [] pos) (gApp ga gb) := by
  refine PE.imp (pe_bm PySem.F.plainAttrs_list PySem.F.slot_list_append PySem.F.type_list_append mt_append ha (da_cons hb da_nil hs) hbase hfew hline hs hplain) fun σ H Q q => ?_
  obtain ⟨m, r, st, E, s, q⟩ := q
  unfold gApp at q
  refine tE_use E s ?_
  cases ea : ga r st with
  | bad => rw [ea] at q; exact q
  | err c fs st1 => rw [ea] at q; exact q
  | ok x st1 =>
    rw [ea] at q
    dsimp only at q ⊢
    intro v m1 H1 g1 r1 s1
    cases eb : gb r st1 with
    | bad =>
      cases x with
      | loc l =>
        dsimp only at q
        rw [eb] at q
        exact q.elim
      | _ => exact q.elim
    | err c fs st2 =>
      cases x with
      | loc l =>
        dsimp only at q
        rw [eb] at q
        obtain ⟨p, ev, hp⟩ := r1
        subst ev
        have hlt : l < st1.length := by rw [← s1.len]; exact (List.getElem?_eq_some_iff.mp hp).1
        obtain ⟨vs, q1, q2⟩ := s1.lst l p _ hp (List.getElem?_eq_getElem hlt)
        refine ⟨Or.inl ⟨rfl, vs, Or.inl (Or.inl q1)⟩, m1, r, st1, E.mono g1 s, s1, ?_⟩
        unfold gCons
        rw [eb]
        intro cls d m2 H2 g2 er s2
        exact q cls d m2 H2 (g1.trans g2) er s2
      | _ => exact q.elim
    | ok y st2 =>
      cases x with
      | loc l =>
        dsimp only at q
        rw [eb] at q
        dsimp only at q
        obtain ⟨p, ev, hp⟩ := r1
        subst ev
        have hlt : l < st1.length := by rw [← s1.len]; exact (List.getElem?_eq_some_iff.mp hp).1
        obtain ⟨vs, q1, q2⟩ := s1.lst l p _ hp (List.getElem?_eq_getElem hlt)
        refine ⟨Or.inl ⟨rfl, vs, Or.inl (Or.inl q1)⟩, m1, r, st1, E.mono g1 s, s1, ?_⟩
        unfold gCons gNil
        rw [eb]
        dsimp only
        intro ws m2 H2 g2 r2 s2
        obtain ⟨u, eu, ru⟩ := rep1 r2
        subst eu
        have hp2 : m2.l[l]? = some p := g2.loc hp
        have q3 : (match (match st2[l]? with
          | some ds => if ds.length < 100000 then R.ok D.non (st2.set l (ds ++ [y])) else .bad
          | none => .bad) with
          | .ok d st' => ∀ v m' H', Gr m H m' H' → Rep X.K m' H' d v → SO X.K m' H' st' → Q v H'
          | .err c fs st' => ∀ cls d m' H', Gr m H m' H' → Er X.K X.mg m' H' cls d c fs → SO X.K m' H' st' → W cls d σ H'
          | .bad => False) := q
        cases e : st2[l]? with
        | none => rw [e] at q3; exact q3.elim
        | some ds =>
          rw [e] at q3
          dsimp only at q3
          by_cases hz : ds.length < 100000
          · rw [if_pos hz] at q3
            obtain ⟨ws, w1, w2⟩ := s2.lst l p ds hp2 e
            obtain ⟨g3, s3⟩ := SO.set s2 hp2 (Reps.snoc w2 ru)
            refine ⟨p, ws, u, rfl, rfl, w1, ?_, q3 .non m2 _ ((g1.trans g2).trans g3) rfl s3⟩
            rw [Reps.len w2]
            exact Nat.lt_of_lt_of_le hz (by decide)
          · rw [if_neg hz] at q3
            exact q3.elim
      | _ => exact q.elim
end
end Sv
set_option Elab.async false
set_option linter.all false
set_option maxRecDepth 100000
set_option maxHeartbeats 4000000
namespace Sv
open PySem PySem.Spec PyProof.Rows L2
section
variable {X : Cx} {W : WX} {a b c e : Expr} {es rest : List Expr} {pos p2 p : Pos} {ga gb gc : G} {gt gu : GT} {gr : GA} {st1 st2 : Stmt} {sts : List Stmt} {gs hs : GS}
/-- a statement's answer, what is wanted behind it -/
abbrev SAns (K : PySem.W.Frag) (mg : Str → Option Value) (W : WX) (Z : Ends) (m : Ms) (H : Hp) (o : O) : Prop := match o with
  | .nx r' st' => ∀ σ' m' H', Gr m H m' H' → EO K m' H' σ' r' → SO K m' H' st' → Z.nx σ' H'
  | .bk r' st' => ∀ σ' m' H', Gr m H m' H' → EO K m' H' σ' r' → SO K m' H' st' → Z.bk σ' H'
  | .ct r' st' => ∀ σ' m' H', Gr m H m' H' → EO K m' H' σ' r' → SO K m' H' st' → Z.ct σ' H'
  | .rt d st' => ∀ v m' H', Gr m H m' H' → Rep K m' H' d v → SO K m' H' st' → Z.rt v H'
  | .err c fs r' st' => ∀ cls d σ' m' H', Gr m H m' H' → Er K mg m' H' cls d c fs → EO K m' H' σ' r' → SO K m' H' st' → W cls d σ' H'
  | .bad => False
theorem SAns.mono {K : PySem.W.Frag} {mg : Str → Option Value} {Z : Ends} {m m1 : Ms} {H H1 : Hp} {o : O} (g : Gr m H m1 H1) (h : SAns K mg W Z m H o) : SAns K mg W Z m1 H1 o := by
  cases o with
  | nx r' st' => exact fun σ' m' H' g2 => h σ' m' H' (g.trans g2)
  | bk r' st' => exact fun σ' m' H' g2 => h σ' m' H' (g.trans g2)
  | ct r' st' => exact fun σ' m' H' g2 => h σ' m' H' (g.trans g2)
  | rt d st' => exact fun v m' H' g2 => h v m' H' (g.trans g2)
  | err c fs r' st' => exact fun cls d σ' m' H' g2 => h cls d σ' m' H' (g.trans g2)
  | bad => exact h
/-- the exceptions of the slots -/
theorem w_of {K : PySem.W.Frag} {mg : Str → Option Value} {m : Ms} {H : Hp} {σ : L2.St} {c : Str} {fs : List (Str × D)} {r : En} {st : S} {stt : S} (E : EO K m H σ r) (s : SO K m H st)
    (h : ∀ cls d σ' m' H', Gr m H m' H' → Er K mg m' H' cls d c fs → EO K m' H' σ' r → SO K m' H' stt → W cls d σ' H') :
    ∀ cls d m' H', Gr m H m' H' → Er K mg m' H' cls d c fs → SO K m' H' stt → W cls d σ H' := fun cls d m' H' g er s' => h cls d σ m' H' g er (E.mono g s) s'
def gSkip : GS := fun r st => .nx r st
def gSeq (g h : GS) : GS := fun r st => match g r st with
  | .nx r' st' => h r' st'
  | o => o
theorem db_nil : DB X W [] gSkip := PSs.imp pss_nil fun Z σ H h => by
  obtain ⟨m, r, st, E, s, q⟩ := h
  exact q σ m H Gr.refl E s
theorem tS_seq {K : PySem.W.Frag} {mg : Str → Option Value} {Z : Ends} {σ : L2.St} {H : Hp} (h : tS K mg W (gSeq gs hs) Z σ H) : tS K mg W gs { Z with nx := tS K mg W hs Z } σ H := by
  obtain ⟨m, r, st, E, s, q⟩ := h
  unfold gSeq at q
  refine ⟨m, r, st, E, s, ?_⟩
  cases ea : gs r st with
  | nx r' st' =>
    rw [ea] at q
    intro σ' m' H' g E' s'
    exact ⟨m', r', st', E', s', SAns.mono g q⟩
  | _ => rw [ea] at q; exact q
theorem db_cons (h1 : DS X W st1 gs) (h2 : DB X W sts hs) : DB X W (st1 :: sts) (gSeq gs hs) := PSs.imp (pss_cons h1 h2) fun _ _ _ h => tS_seq h
theorem db_one (h1 : DS X W st1 gs) : DB X W [st1] gs := pss_one h1
/-! ### small statements -/
/-- an expression's value, then k -/
def sE (ga : G) (k : D → En → S → O) : GS := fun r st => match ga r st with
  | .ok d st1 => k d r st1
  | .err c fs s => .err c fs r s
  | .bad => .bad
theorem tS_E {K : PySem.W.Frag} {mg : Str → Option Value} {Z : Ends} {σ : L2.St} {H : Hp} {k : D → En → S → O} {R1 : VK} (h : tS K mg W (sE ga k) Z σ H)
    (hk : ∀ d v m1 H1 r st1, EO K m1 H1 σ r → SO K m1 H1 st1 → Rep K m1 H1 d v → SAns K mg W Z m1 H1 (k d r st1) → R1 v H1) : tE K mg W ga σ H R1 := by
  obtain ⟨m, r, st, E, s, q⟩ := h
  unfold sE at q
  refine tE_use E s ?_
  cases ea : ga r st with
  | bad => rw [ea] at q; exact q
  | err c fs st1 =>
    rw [ea] at q
    exact w_of E s q
  | ok d st1 =>
    rw [ea] at q
    intro v m1 H1 g1 r1 s1
    exact hk d v m1 H1 r st1 (E.mono g1 s) s1 r1 (SAns.mono g1 q)
def sA (gr : GA) (k : List D → En → S → O) : GS := fun r st => match gr r st with
  | .ok d st1 => k d r st1
  | .err c fs s => .err c fs r s
  | .bad => .bad
theorem tS_A {K : PySem.W.Frag} {mg : Str → Option Value} {Z : Ends} {σ : L2.St} {H : Hp} {k : List D → En → S → O} {R1 : List V → Hp → Prop} (h : tS K mg W (sA gr k) Z σ H)
    (hk : ∀ ds vs m1 H1 r st1, EO K m1 H1 σ r → SO K m1 H1 st1 → Reps K m1 H1 ds vs → SAns K mg W Z m1 H1 (k ds r st1) → R1 vs H1) : tA K mg W gr σ H R1 := by
  obtain ⟨m, r, st, E, s, q⟩ := h
  unfold sA at q
  refine ⟨m, r, st, E, s, ?_⟩
  cases ea : gr r st with
  | bad => rw [ea] at q; exact q
  | err c fs st1 =>
    rw [ea] at q
    exact w_of E s q
  | ok d st1 =>
    rw [ea] at q
    intro v m1 H1 g1 r1 s1
    exact hk d v m1 H1 r st1 (E.mono g1 s) s1 r1 (SAns.mono g1 q)
def sT (gt : GT) (k : Bool → GS) : GS := fun r st => match gt r st with
  | .ok b st1 => k b r st1
  | .err c fs s => .err c fs r s
  | .bad => .bad
theorem tS_T {K : PySem.W.Frag} {mg : Str → Option Value} {Z : Ends} {σ : L2.St} {H : Hp} {k : Bool → GS} {R1 : Bool → Hp → Prop} (h : tS K mg W (sT gt k) Z σ H)
    (hk : ∀ b H1, tS K mg W (k b) Z σ H1 → R1 b H1) : tT K mg W gt σ H R1 := by
  obtain ⟨m, r, st, E, s, q⟩ := h
  unfold sT at q
  refine ⟨m, r, st, E, s, ?_⟩
  cases ea : gt r st with
  | bad => rw [ea] at q; exact q
  | err c fs st1 =>
    rw [ea] at q
    exact w_of E s q
  | ok b st1 =>
    rw [ea] at q
    intro m1 H1 g1 s1
    exact hk b H1 ⟨m1, r, st1, E.mono g1 s, s1, SAns.mono g1 q⟩
def sAsg (i : Nat) (ga : G) : GS := sE ga fun d r st => .nx (r.set i (some d)) st
theorem ds_asg (i : Nat) {x : Str} {pos' : Pos} (hN : X.N.Nodup) (ha : DE X W e ga) (hi : X.N[i]? = some x := by rfl) (hx : Loc X.env.scope x := by first | exact Or.inl rfl | exact Or.inr rfl) (hs : swapsWith e (some (.Name x pos')) pos.line X.env = pure false := by rfl)
    (hf : X.fn x = true ∨ X.env.scope.names.lookup x = some .local := by first | exact .inl rfl | exact .inr rfl | assumption) : DS X W (.Assign [.Name x pos'] e pos) (sAsg i ga) :=
  PS.imp (ps_set hN hi hx ha hs hf) fun Z σ H h => tS_E h fun d v m1 H1 r st1 E s rv q => q _ m1 H1 Gr.refl (E.set rv i) s
def sAsg2 (i j : Nat) (ga : G) : GS := sE ga fun d r st => .nx ((r.set i (some d)).set j (some d)) st
theorem ds_asg2 (i j : Nat) {x y : Str} {px py : Pos} (hN : X.N.Nodup) (ha : DE X W e ga) (hi : X.N[i]? = some x := by rfl) (hj : X.N[j]? = some y := by rfl) (hx : Loc X.env.scope x := by first | exact Or.inl rfl | exact Or.inr rfl) (hy : Loc X.env.scope y := by first | exact Or.inl rfl | exact Or.inr rfl)
    (hf : X.fn x = true ∨ X.env.scope.names.lookup x = some .local := by first | exact .inl rfl | exact .inr rfl | assumption) (hf2 : X.fn y = true ∨ X.env.scope.names.lookup y = some .local := by first | exact .inl rfl | exact .inr rfl | assumption)
    (h1 : (assignEach [.Name x px, .Name y py] X.env).map (·.2) = [assign (.Name x px) X.env, assign (.Name y py) X.env] := by rfl) (hw : swappedStores [.Name x px, .Name y py] e X.env = pure none := by rfl) : DS X W (.Assign [.Name x px, .Name y py] e pos) (sAsg2 i j ga) :=
  PS.imp (ps_asg2 ha (pg_name hN hi hx hf) (pg_name hN hj hy hf2) h1 hw) fun Z σ H h => tS_E h fun d v m1 H1 r st1 E s rv q => q _ m1 H1 Gr.refl ((E.set rv i).set rv j) s
def sPar (i j : Nat) (gr : GA) : GS := sA gr fun ds r st => match ds with
  | [x, y] => .nx ((r.set i (some x)).set j (some y)) st
  | _ => .bad
theorem ds_par (i j : Nat) {x y : Str} {px py pt : Pos} {kt k2 pt2} (hc : X.calm = true) (hN : X.N.Nodup) (ha : DA X W [a, b] gr) (hw : swappedStores [.Tuple [.Name x px, .Name y py] kt pt] (.Tuple [a, b] k2 pt2) X.env = pure (some [x, y]) := by rfl) (hi : X.N[i]? = some x := by rfl) (hj : X.N[j]? = some y := by rfl) (hij : i ≠ j := by decide)
    (hx : X.env.scope.names.lookup x = some .local := by rfl) (hy : X.env.scope.names.lookup y = some .local := by rfl)
    (hs : swapsWithSole [.Tuple [.Name x px, .Name y py] kt pt] (.Tuple [a, b] k2 pt2) pos.line X.env = pure false := by rfl) : DS X W (.Assign [.Tuple [.Name x px, .Name y py] kt pt] (.Tuple [a, b] k2 pt2) pos) (sPar i j gr) :=
  PS.imp (ps_par hc hN hi hj hij hx hy ha hw hs) fun Z σ H h => tS_A h fun ds vs m1 H1 r st1 E s rv q => by
    rcases ds with _ | ⟨d, _ | ⟨d2, _ | ⟨d3, t⟩⟩⟩
    · exact q.elim
    · exact q.elim
    · obtain ⟨v, u, ev, r1, r2⟩ := rep2 rv
      exact ⟨v, u, ev, q _ m1 H1 Gr.refl ((E.set r1 i).set r2 j) s⟩
    · exact q.elim
def sPar3 (i j l : Nat) (gr : GA) : GS := sA gr fun ds r st => match ds with
  | [x, y, z] => .nx (((r.set i (some x)).set j (some y)).set l (some z)) st
  | _ => .bad
theorem ds_par3 (i j l : Nat) {x y z : Str} {px py pz pt : Pos} {kt k2 pt2} (hc : X.calm = true) (hN : X.N.Nodup) (ha : DA X W [a, b, c] gr) (hw : swappedStores [.Tuple [.Name x px, .Name y py, .Name z pz] kt pt] (.Tuple [a, b, c] k2 pt2) X.env = pure (some [x, y, z]) := by rfl)
    (hi : X.N[i]? = some x := by rfl) (hj : X.N[j]? = some y := by rfl) (hl : X.N[l]? = some z := by rfl) (hij : i ≠ j := by decide) (hil : i ≠ l := by decide) (hjl : j ≠ l := by decide)
    (hx : X.env.scope.names.lookup x = some .local := by rfl) (hy : X.env.scope.names.lookup y = some .local := by rfl) (hz : X.env.scope.names.lookup z = some .local := by rfl)
    (hs : swapsWithSole [.Tuple [.Name x px, .Name y py, .Name z pz] kt pt] (.Tuple [a, b, c] k2 pt2) pos.line X.env = pure false := by rfl) : DS X W (.Assign [.Tuple [.Name x px, .Name y py, .Name z pz] kt pt] (.Tuple [a, b, c] k2 pt2) pos) (sPar3 i j l gr) :=
  PS.imp (ps_par3 hc hN hi hj hl hij hil hjl hx hy hz ha hw hs) fun Z σ H h => tS_A h fun ds vs m1 H1 r st1 E s rv q => by
    rcases ds with _ | ⟨d, _ | ⟨d2, _ | ⟨d3, _ | ⟨d4, t⟩⟩⟩⟩
    · exact q.elim
    · exact q.elim
    · exact q.elim
    · obtain ⟨v, t, e1, r1, rt⟩ := rv
      obtain ⟨u, w, e2, r2, r3⟩ := rep2 rt
      subst e2
      exact ⟨v, u, w, e1, q _ m1 H1 Gr.refl (((E.set r1 i).set r2 j).set r3 l) s⟩
    · exact q.elim
/-- names that take a tuple apart -/
def setAll : List Nat → List D → En → Option En
  | [], [], r => some r
  | i :: is, d :: ds, r => setAll is ds (r.set i (some d))
  | _, _, _ => none
def tgN : List Nat → TGs
  | [] => L2.gNil
  | i :: is => L2.gCons (gName i) (tgN is)
theorem tgN_ok {K : PySem.W.Frag} {m : Ms} {H : Hp} {Q : L2.St → Hp → Prop} : ∀ {is : List Nat} {ds : List D} {vs : List V} {r r' : En} {σ : L2.St}, Reps K m H ds vs → EO K m H σ r → setAll is ds r = some r' → (∀ σ', EO K m H σ' r' → Q σ' H) → tgN is vs σ H Q
  | [], [], vs, r, r', σ, rv, E, e, k => by
    cases e
    exact ⟨rv, k σ E⟩
  | i :: is, d :: ds, vs, r, r', σ, rv, E, e, k => by
    obtain ⟨v, t, ev, r1, rt⟩ := rv
    exact ⟨v, t, ev, tgN_ok rt (E.set r1 i) e k⟩
  | [], _ :: _, _, _, _, _, _, _, e, _ => by cases e
  | _ :: _, [], _, _, _, _, _, _, e, _ => by cases e
def sUnp (is : List Nat) (ga : G) : GS := sE ga fun d r st => match d with
  | .tup ds => (match setAll is ds r with
    | some r' => .nx r' st
    | none => .bad)
  | _ => .bad
theorem setAll_len : ∀ {is : List Nat} {ds : List D} {r r' : En}, setAll is ds r = some r' → ds.length = is.length
  | [], [], _, _, _ => rfl
  | i :: is, d :: ds, r, r', e => by rw [List.length_cons, List.length_cons, setAll_len (is := is) (ds := ds) e]
  | [], _ :: _, _, _, e => by cases e
  | _ :: _, [], _, _, e => by cases e
theorem ds_unp (is : List Nat) {ts : List Expr} {k : Nat} {pt : Pos} (hc : X.calm = true) (ha : DE X W e ga) (ht : PGs X ts (tgN is)) (hn : (assignEach ts X.env).length = is.length := by rfl) (hst : (assignEach ts X.env).findIdx? (·.1) = none := by rfl)
    (hs : swapsWithSole [.Tuple ts k pt] e pos.line X.env = pure false := by rfl) (hw : swappedStores [.Tuple ts k pt] e X.env = pure none := by rfl) (h1 : (assignEach [.Tuple ts k pt] X.env).map (·.2) = [assign (.Tuple ts k pt) X.env] := by rfl) : DS X W (.Assign [.Tuple ts k pt] e pos) (sUnp is ga) :=
  PS.imp (ps_asg ha (pg_tup hc ht hn hst) hs hw h1) fun Z σ H h => tS_E h fun d v m1 H1 r st1 E s rv q => by
    cases d with
    | tup ds =>
      obtain ⟨a, vs, ev, sq, rs⟩ := rv
      have q2 : SAns X.K X.mg W Z m1 H1 (match setAll is ds r with
        | some r' => .nx r' st1
        | none => .bad) := q
      cases z : setAll is ds r with
      | none =>
        rw [z] at q2
        exact q2.elim
      | some r' =>
        rw [z] at q2
        exact ⟨a, vs, ev, sq, (Reps.len rs).trans (setAll_len z), tgN_ok rs E z fun σ' E' => q2 σ' m1 H1 Gr.refl E' s⟩
    | _ => exact q.elim
theorem pgn_cons (i : Nat) {x : Str} {pos : Pos} {is : List Nat} {ts : List Expr} (hN : X.N.Nodup) (h : PGs X ts (tgN is)) (hi : X.N[i]? = some x := by rfl) (hx : Loc X.env.scope x := by first | exact Or.inl rfl | exact Or.inr rfl) (hf : X.fn x = true ∨ X.env.scope.names.lookup x = some .local := by first | exact .inl rfl | exact .inr rfl | assumption)
    (hs : (assignEach (.Name x pos :: ts) X.env).map (·.2) = assign (.Name x pos) X.env :: (assignEach ts X.env).map (·.2) := by rfl) : PGs X (.Name x pos :: ts) (tgN (i :: is)) := pgs_cons (pg_name hN hi hx hf) h hs
theorem pgn_nil : PGs X [] (tgN []) := pgs_nil
def sDrop (ga : G) : GS := sE ga fun _ r st => .nx r st
theorem ds_expr (ha : DE X W e ga) (hs : swapsWith e none pos.line X.env = pure false := by rfl) : DS X W (.Expr e pos) (sDrop ga) := PS.imp (ps_expr ha hs) fun Z σ H h => tS_E h fun d v m1 H1 r st1 E s rv q => q σ m1 H1 Gr.refl E s
def sRet (ga : G) : GS := sE ga fun d _ st => .rt d st
theorem ds_ret (ha : DE X W e ga) : DS X W (.Return (some e) pos) (sRet ga) := PS.imp (ps_ret ha) fun Z σ H h => tS_E h fun d v m1 H1 r st1 E s rv q => q v m1 H1 Gr.refl rv s
def sPass : GS := fun r st => .nx r st
theorem ds_pass : DS X W (.Pass pos) sPass := PS.imp ps_pass fun Z σ H h => by
  obtain ⟨m, r, st, E, s, q⟩ := h
  exact q σ m H Gr.refl E s
def sBrk : GS := fun r st => .bk r st
theorem ds_brk : DS X W (.Break pos) sBrk := PS.imp ps_break fun Z σ H h => by
  obtain ⟨m, r, st, E, s, q⟩ := h
  exact q σ m H Gr.refl E s
def sCont : GS := fun r st => .ct r st
theorem ds_cont : DS X W (.Continue pos) sCont := PS.imp ps_continue fun Z σ H h => by
  obtain ⟨m, r, st, E, s, q⟩ := h
  exact q σ m H Gr.refl E s
def sIf (gt : GT) (g h : GS) : GS := sT gt fun b => if b = true then g else h
theorem ds_if {s1 s2 : List Stmt} (hc : DT X W c gt) (h1 : DB X W s1 gs) (h2 : DB X W s2 hs) : DS X W (.If c s1 s2 pos) (sIf gt gs hs) := PS.imp (ps_if hc h1 h2) fun Z σ H h => tS_T h fun b H1 q => by
  cases b with
  | true => exact q
  | false => exact q
/-- xs[i] = e -/
def sSet (ge go gi : G) : GS := sE ge fun d r st => match go r st with
  | .ok (.loc l) st1 => (match gi r st1 with
    | .ok (.int k) st2 => (match st2[l]? with
      | some ds => (match ixN ds.length k with
        | some j => .nx r (st2.set l (ds.set j d))
        | none => .bad)
      | none => .bad)
    | .ok _ _ => .bad
    | .err c fs s => .err c fs r s
    | .bad => .bad)
  | .ok _ _ => .bad
  | .err c fs s => .err c fs r s
  | .bad => .bad
theorem Reps.set {K : PySem.W.Frag} {m : Ms} {H : Hp} {ds : List D} {vs : List V} {d : D} {v : V} (r : Reps K m H ds vs) (q : Rep K m H d v) (j : Nat) : Reps K m H (ds.set j d) (vs.set j v) := by
  refine Reps.of (by rw [List.length_set, List.length_set, Reps.len r]) fun i e u h1 h2 => ?_
  by_cases hj : j = i
  · subst hj
    have hlt : j < ds.length := by
      have z := (List.getElem?_eq_some_iff.mp h1).1
      rw [List.length_set] at z
      exact z
    rw [List.getElem?_set_self hlt] at h1
    rw [List.getElem?_set_self (by rw [Reps.len r]; exact hlt)] at h2
    cases h1
    cases h2
    exact q
  · rw [List.getElem?_set_ne hj] at h1 h2
    obtain ⟨w, h3, h4⟩ := Reps.get r h1
    rw [h2] at h3
    cases h3
    exact h4
theorem ds_set {o i : Expr} {ge go gi : G} {ps : Pos} (he : DE X W e ge) (ho : DE X W o go) (hi : DE X W i gi)
    (ha : ∀ v, assign (.Subscript o i ps) X.env v = (do
      let ov ← holding [v] (eval o X.env)
      let iv ← holding [v, ov] (eval i X.env)
      standAt ps
      holding [v, ov, iv] (setItem ov iv v)
      release [v, ov, iv] []) := by intro _; rfl)
    (hs : swapsWithSole [.Subscript o i ps] e pos.line X.env = pure false := by rfl) (hw : swappedStores [.Subscript o i ps] e X.env = pure none := by rfl) (h1 : (assignEach [.Subscript o i ps] X.env).map (·.2) = [assign (.Subscript o i ps) X.env] := by rfl) :
    DS X W (.Assign [.Subscript o i ps] e pos) (sSet ge go gi) := PS.imp (ps_asg he (pg_sub ho hi set_list ha) hs hw h1) fun Z σ H h => tS_E h fun d v m1 H1 r st1 E s rv q => by
  refine tE_use E s ?_
  cases ea : go r st1 with
  | bad => rw [ea] at q; exact q
  | err c fs s2 =>
    rw [ea] at q
    exact w_of E s q
  | ok x st2 =>
    cases x with
    | loc l =>
      rw [ea] at q
      dsimp only at q ⊢
      intro ov m2 H2 g2 r2 s2
      obtain ⟨p, ep, hp⟩ := r2
      subst ep
      refine tE_use (E.mono g2 s) s2 ?_
      cases eb : gi r st2 with
      | bad => rw [eb] at q; exact q
      | err c fs s3 =>
        rw [eb] at q
        exact w_of (E.mono g2 s) s2 (SAns.mono g2 q)
      | ok y st3 =>
        cases y with
        | int k =>
          rw [eb] at q
          dsimp only at q ⊢
          intro iv m3 H3 g3 r3 s3
          have e3 : iv = .int k := r3
          subst e3
          cases ec : st3[l]? with
          | none => rw [ec] at q; exact q.elim
          | some ds =>
            rw [ec] at q
            dsimp only at q
            cases ed : ixN ds.length k with
            | none => rw [ed] at q; exact q.elim
            | some j =>
              rw [ed] at q
              have hp3 : m3.l[l]? = some p := g3.loc hp
              obtain ⟨ws, w1, w2⟩ := s3.lst l p ds hp3 ec
              obtain ⟨g4, s4⟩ := SO.set s3 hp3 (Reps.set w2 (Rep.mono (g2.trans g3) s rv) j)
              exact ⟨p, ws, k, j, rfl, rfl, w1, by rw [Reps.len w2]; exact ed, q σ m3 _ ((g2.trans g3).trans g4) ((E.mono (g2.trans g3) s).mono g4 s3) s4⟩
        | _ => rw [eb] at q; exact q.elim
    | _ => rw [ea] at q; exact q.elim
end
end Sv
set_option Elab.async false
set_option linter.all false
set_option maxRecDepth 100000
set_option maxHeartbeats 4000000
namespace Sv
open PySem PySem.Spec PyProof.Rows L2
/-! ### walking -/
/-- an iterator that gives these, in sequence -/
structure ItV (K : PySem.W.Frag) (J : It) (m0 : Ms) (H0 : Hp) (ds : List D) : Prop where
  go : ∀ i m H st, Gw m0 H0 m H → SO K m H st → i < ds.length → J.go i H
  yld : ∀ i m H st x H' d, Gw m0 H0 m H → SO K m H st → ds[i]? = some d → J.yld i H x H' → Gr m H m H' ∧ Rep K m H' d x ∧ SO K m H' st
  stop : ∀ i m H st, Gw m0 H0 m H → SO K m H st → ds.length ≤ i → J.stop i H
theorem ItV.mono {K : PySem.W.Frag} {J : It} {m m1 : Ms} {H H1 : Hp} {ds : List D} (h : ItV K J m H ds) (g : Gw m H m1 H1) : ItV K J m1 H1 ds :=
  ⟨fun i m H st k => h.go i m H st (g.trans k), fun i m H st x H' d k => h.yld i m H st x H' d (g.trans k), fun i m H st k => h.stop i m H st (g.trans k)⟩
def tI (K : PySem.W.Frag) (mg : Str → Option Value) (W : WX) (g : GA) : TI := fun σ H R => ∃ m r st, EO K m H σ r ∧ SO K m H st ∧ match g r st with
  | .ok ds st' => ∀ J m' H', Gr m H m' H' → ItV K J m' H' ds → SO K m' H' st' → R J H'
  | .err c fs st' => ∀ cls d m' H', Gr m H m' H' → Er K mg m' H' cls d c fs → SO K m' H' st' → W cls d σ H'
  | .bad => False
/-- a changing list that is walked: its number, its length -/
abbrev GL := En → S → R (Nat × Nat)
def tIL (K : PySem.W.Frag) (mg : Str → Option Value) (W : WX) (g : GL) : TI := fun σ H R => ∃ m r st, EO K m H σ r ∧ SO K m H st ∧ match g r st with
  | .ok ln st' => ∀ a m' H', Gr m H m' H' → m'.l[ln.1]? = some a → SO K m' H' st' → R (Itl K a) H'
  | .err c fs st' => ∀ cls d m' H', Gr m H m' H' → Er K mg m' H' cls d c fs → SO K m' H' st' → W cls d σ H'
  | .bad => False
theorem PI.imp {X : Cx} {tg e : Expr} {t t' : TI} (h : PI X tg e t) (k : ∀ σ H R, t' σ H R → t σ H R) : PI X tg e t' := ⟨fun pins s σ H Q I q => h.run pins s σ H Q I (k _ _ _ q)⟩
/-- a list or a tuple -/
def iSeq (K : PySem.W.Frag) (tl : TE) : TI := fun σ H R => tl σ H fun x H1 => ∃ a, x = .ref a ∧ (((∃ xs, SqL K H1 a xs) ∧ R (Itl K a) H1) ∨ ((∃ xs, SqT K H1 a xs) ∧ R (Itt K a) H1))
theorem pi_seq {X : Cx} {tg l : Expr} {tl : TE} (hl : PE X l tl) : PI X tg l (iSeq X.K tl) := by
  refine ⟨fun pins s σ H R I h => ?_⟩
  refine thn (hl.run pins s σ H _ I h) fun v s1 ⟨x, H1, I1, r1, q1⟩ => ?_
  obtain ⟨a, e, q⟩ := q1
  subst e
  cases r1
  rcases q with ⟨⟨xs, hq⟩, q⟩ | ⟨⟨xs, hq⟩, q⟩
  · obtain ⟨its, rv, p, hz⟩ := I1.list hq
    refine wpAny_pyIter_list p.isList ?_
    refine ⟨s1.heap.objs.size, [s1.heap.objs.size], _, _, H1, rfl, I1.kept (t' := s1.toks) fun b o e => Heap.get?_push_of_some _ e, turn_list a _, ⟨_, Heap.get?_push_size _ rfl, rfl, rfl⟩, fun b hb => ?_, q⟩
    have e : b = s1.heap.objs.size := by simpa using hb
    subst e
    exact I1.fpOk (Nat.le_refl _) (I1.hok.fresh (Nat.le_refl _))
  · obtain ⟨its, rv, p, hz⟩ := I1.tuple hq
    refine wpAny_pyIter_tuple (show s1.heap.IsTuple a its.toArray from p) ?_
    refine ⟨s1.heap.objs.size, [s1.heap.objs.size], _, _, H1, rfl, I1.kept (t' := s1.toks) fun b o e => Heap.get?_push_of_some _ e, turn_tuple a _, ⟨_, Heap.get?_push_size _ rfl, rfl, rfl⟩, fun b hb => ?_, q⟩
    have e : b = s1.heap.objs.size := by simpa using hb
    subst e
    exact I1.fpOk (Nat.le_refl _) (I1.hok.fresh (Nat.le_refl _))
section
variable {K : PySem.W.Frag} {m m' : Ms} {H H' : Hp} {st : S} {ds : List D} {vs : List V} {a : Addr}
theorem itV_tup (s : SO K m H st) (q : SqT K H a vs) (r : Reps K m H ds vs) : ItV K (Itt K a) m H ds := by
  have hl := Reps.len r
  refine ⟨fun i m1 H1 st1 g s1 hi => ?_, fun i m1 H1 st1 x H2 d g s1 hd y => ?_, fun i m1 H1 st1 g s1 hi => ⟨vs, g.sqT s q, by omega⟩⟩
  · exact ⟨vs, vs[i]'(by omega), g.sqT s q, List.getElem?_eq_getElem _⟩
  · obtain ⟨e, y⟩ := y
    subst e
    obtain ⟨v, h1, h2⟩ := Reps.get r hd
    have h3 := y vs (g.sqT s q)
    rw [h1] at h3
    cases h3
    exact ⟨Gr.refl, Rep.monoW g s h2, s1⟩
theorem FzL.on (g : Gw m H m' H') (h : FzL K m H a vs) : SqL K H' a vs := FzL.sq (m := m') (h.imp (fun z => g.rdL z.2 z.1) fun z => z)
theorem itV_lst (s : SO K m H st) (q : FzL K m H a vs) (r : Reps K m H ds vs) : ItV K (Itl K a) m H ds := by
  have hl := Reps.len r
  refine ⟨fun i m1 H1 st1 g s1 hi => ?_, fun i m1 H1 st1 x H2 d g s1 hd y => ?_, fun i m1 H1 st1 g s1 hi => ⟨vs, FzL.on g q, by omega⟩⟩
  · exact ⟨vs, vs[i]'(by omega), FzL.on g q, List.getElem?_eq_getElem _⟩
  · obtain ⟨e, y⟩ := y
    subst e
    obtain ⟨v, h1, h2⟩ := Reps.get r hd
    have h3 := y vs (FzL.on g q)
    rw [h1] at h3
    cases h3
    exact ⟨Gr.refl, Rep.monoW g s h2, s1⟩
def rangeD (lo : Int) (n : Nat) : List D := (List.range n).map fun (k : Nat) => .int (lo + (k : Int))
theorem rangeD_get {lo : Int} {n i : Nat} {d : D} (h : (rangeD lo n)[i]? = some d) : i < n ∧ d = .int (lo + i) := by
  unfold rangeD at h
  rw [List.getElem?_map] at h
  by_cases hi : i < n
  · rw [List.getElem?_range hi] at h
    cases h
    exact ⟨hi, rfl⟩
  · rw [List.getElem?_eq_none_iff.mpr (by rw [List.length_range]; omega)] at h
    cases h
theorem rangeD_len {lo : Int} {n : Nat} : (rangeD lo n).length = n := by
  unfold rangeD
  rw [List.length_map, List.length_range]
theorem itV_range {lo : Int} {n : Nat} : ItV K (Itr lo n) m H (rangeD lo n) := by
  refine ⟨fun i m1 H1 st1 g s1 hi => by rw [rangeD_len] at hi; exact hi, fun i m1 H1 st1 x H2 d g s1 hd y => ?_, fun i m1 H1 st1 g s1 hi => by rw [rangeD_len] at hi; exact hi⟩
  obtain ⟨e, y⟩ := y
  subst e
  rw [(rangeD_get hd).2]
  exact ⟨Gr.refl, y, s1⟩
end
section
variable {X : Cx} {W : WX} {a b c e tg : Expr} {es rest : List Expr} {pos p2 p : Pos} {ga gb gc : G} {gt gu : GT} {gr gi : GA} {gl : GL} {st1 st2 : Stmt} {sts : List Stmt} {gs hs : GS}
abbrev DI (X : Cx) (W : WX) (tg iter : Expr) (gi : GA) : Prop := PI X tg iter (tI X.K X.mg W gi)
abbrev DIL (X : Cx) (W : WX) (tg iter : Expr) (gi : GL) : Prop := PI X tg iter (tIL X.K X.mg W gi)
/-- a list or a tuple that is walked -/
def iSq (ga : G) : GA := fun r st => match ga r st with
  | .ok (.tup ds) st1 => .ok ds st1
  | .ok (.lv ds) st1 => .ok ds st1
  | .ok (.fz ds) st1 => .ok ds st1
  | .ok _ _ => .bad
  | .err c fs s => .err c fs s
  | .bad => .bad
theorem di_seq (ha : DE X W e ga) : DI X W tg e (iSq ga) := PI.imp (pi_seq ha) fun σ H R q => by
  obtain ⟨m, r, st, E, s, q⟩ := q
  unfold iSq at q
  refine tE_use E s ?_
  cases ea : ga r st with
  | bad => rw [ea] at q; exact q
  | err c fs st1 => rw [ea] at q; exact q
  | ok d st1 =>
    rw [ea] at q
    intro v m1 H1 g1 r1 s1
    cases d with
    | tup ds =>
      obtain ⟨a, vs, ev, sq, rs⟩ := r1
      exact ⟨a, ev, Or.inr ⟨⟨vs, sq⟩, q _ m1 H1 g1 (itV_tup s1 sq rs) s1⟩⟩
    | lv ds =>
      obtain ⟨a, vs, ev, sq, hn, rs⟩ := r1
      exact ⟨a, ev, Or.inl ⟨⟨vs, Or.inl (Or.inl sq)⟩, q _ m1 H1 g1 (itV_lst s1 (Or.inl ⟨Or.inl sq, hn⟩) rs) s1⟩⟩
    | fz ds =>
      obtain ⟨a, vs, ev, sq, rs⟩ := r1
      exact ⟨a, ev, Or.inl ⟨⟨vs, sq.sq⟩, q _ m1 H1 g1 (itV_lst s1 sq rs) s1⟩⟩
    | _ => exact q.elim
/-- a changing list that is walked -/
def iLoc (ga : G) : GL := fun r st => match ga r st with
  | .ok (.loc l) st1 => (match st1[l]? with
    | some ds => .ok (l, ds.length) st1
    | none => .bad)
  | .ok _ _ => .bad
  | .err c fs s => .err c fs s
  | .bad => .bad
theorem di_loc (ha : DE X W e ga) : DIL X W tg e (iLoc ga) := PI.imp (pi_list ha) fun σ H R q => by
  obtain ⟨m, r, st, E, s, q⟩ := q
  unfold iLoc at q
  refine tE_use E s ?_
  cases ea : ga r st with
  | bad => rw [ea] at q; exact q
  | err c fs st1 => rw [ea] at q; exact q
  | ok d st1 =>
    rw [ea] at q
    intro v m1 H1 g1 r1 s1
    cases d with
    | loc l =>
      obtain ⟨a, ev, hm⟩ := r1
      dsimp only at q
      cases el : st1[l]? with
      | none => rw [el] at q; exact q.elim
      | some ds =>
        rw [el] at q
        obtain ⟨vs, h1, h2⟩ := s1.lst l a ds hm el
        exact ⟨a, ev, ⟨vs, Or.inl (Or.inl h1)⟩, q a m1 H1 g1 hm s1⟩
    | _ => exact q.elim
def small (i : Int) : Bool := decide (-(2 ^ 62) ≤ i) && decide (i < 2 ^ 62)
theorem small_iff {i : Int} (h : small i = true) : -(2 ^ 62) ≤ i ∧ i < 2 ^ 62 := by
  unfold small at h
  simpa using h
def iRange1 : List D → S → R (List D) := fun ds st => match ds with
  | [.int j] => if small j = true then .ok (rangeD 0 j.toNat) st else .bad
  | _ => .bad
def iRange2 : List D → S → R (List D) := fun ds st => match ds with
  | [.int i, .int j] => if (small i && small j) = true then .ok (rangeD i (j - i).toNat) st else .bad
  | _ => .bad
def iOf (f : List D → S → R (List D)) (gr : GA) : GA := fun r st => match gr r st with
  | .ok ds st1 => f ds st1
  | .err c fs s => .err c fs s
  | .bad => .bad
/-- walking something made of arguments -/
theorem di_of {rc : List V → Hp → (It → Hp → Prop) → Prop} {f : List D → S → R (List D)} (hk : ∀ (m : Ms) (H : Hp) (st : S) (ds : List D) (vs : List V) (R' : It → Hp → Prop), Reps X.K m H ds vs → SO X.K m H st → match f ds st with
      | .ok es st' => (∀ J m' H', Gr m H m' H' → ItV X.K J m' H' es → SO X.K m' H' st' → R' J H') → rc vs H R'
      | .err _ _ _ => False
      | .bad => True) (h : ∀ {ta : TA}, PA X es ta → PI X tg e (fun σ H R' => ta σ H fun vs H1 => rc vs H1 R')) (ha : DA X W es gr) : DI X W tg e (iOf f gr) := PI.imp (h ha) fun σ H R' q => by
  obtain ⟨m, r, st, E, s, q⟩ := q
  unfold iOf at q
  refine ⟨m, r, st, E, s, ?_⟩
  cases ea : gr r st with
  | bad => rw [ea] at q; exact q
  | err c fs st1 => rw [ea] at q; exact q
  | ok ds st1 =>
    rw [ea] at q
    dsimp only at q
    intro vs m1 H1 g1 r1 s1
    have k := hk m1 H1 st1 ds vs R' r1 s1
    cases ef : f ds st1 with
    | bad => rw [ef] at q; exact q.elim
    | err c fs st3 => rw [ef] at k; exact k.elim
    | ok d st3 =>
      rw [ef] at q k
      exact k fun J m3 H3 g3 r3 s3 => q J m3 H3 (g1.trans g3) r3 s3
theorem di_range1 (hm : X.mg "range" = none) (ha : DA X W [a] gr) (hg : Gl X "range" := by rfl) (hs : starEach [a] X.env = [(false, eval a X.env)] := by rfl) : DI X W tg (.Call (.Name "range" p) [a] [] pos) (iOf iRange1 gr) :=
  di_of (rc := fun vs H1 R' => ∃ j : Int, vs = [.int j] ∧ -(2 ^ 62) ≤ j ∧ j < 2 ^ 62 ∧ R' (Itr 0 j.toNat) H1) (fun m H st ds vs R' r s => by
    rcases ds with _ | ⟨d, _ | ⟨d2, t⟩⟩
    · trivial
    · cases d with
      | int j =>
        show match (if small j = true then R.ok (rangeD 0 j.toNat) st else R.bad) with
          | .ok es st' => _
          | .err _ _ _ => _
          | .bad => _
        by_cases h2 : small j = true
        · rw [if_pos h2]
          intro k
          have ev := rep1 r
          obtain ⟨v, ev, e1⟩ := ev
          cases e1
          obtain ⟨z1, z2⟩ := small_iff h2
          exact ⟨j, ev, z1, z2, k _ m H Gr.refl itV_range s⟩
        · rw [if_neg h2]
          trivial
      | _ => trivial
    · cases d <;> trivial) (fun h => pi_range1 hg hm h hs) ha
theorem di_range2 (hm : X.mg "range" = none) (ha : DA X W [a, b] gr) (hg : Gl X "range" := by rfl) (hs : starEach [a, b] X.env = [(false, eval a X.env), (false, eval b X.env)] := by rfl) (hs2 : starEach [b] X.env = [(false, eval b X.env)] := by rfl) : DI X W tg (.Call (.Name "range" p) [a, b] [] pos) (iOf iRange2 gr) :=
  di_of (rc := fun vs H1 R' => ∃ i j : Int, vs = [.int i, .int j] ∧ (-(2 ^ 62) ≤ i ∧ i < 2 ^ 62 ∧ -(2 ^ 62) ≤ j ∧ j < 2 ^ 62) ∧ R' (Itr i (j - i).toNat) H1) (fun m H st ds vs R' r s => by
    rcases ds with _ | ⟨d, _ | ⟨d2, _ | ⟨d3, t⟩⟩⟩
    · trivial
    · cases d <;> trivial
    · cases d with
      | int i =>
        cases d2 with
        | int j =>
          show match (if (small i && small j) = true then R.ok (rangeD i (j - i).toNat) st else R.bad) with
            | .ok es st' => _
            | .err _ _ _ => _
            | .bad => _
          by_cases h2 : (small i && small j) = true
          · rw [if_pos h2]
            intro k
            obtain ⟨v, v2, ev, e1, e3⟩ := rep2 r
            cases e1
            cases e3
            obtain ⟨w1, w2⟩ := Bool.and_eq_true_iff.mp h2
            obtain ⟨z1, z2⟩ := small_iff w1
            obtain ⟨z3, z4⟩ := small_iff w2
            exact ⟨i, j, ev, ⟨z1, z2, z3, z4⟩, k _ m H Gr.refl itV_range s⟩
          · rw [if_neg h2]
            trivial
        | _ => trivial
      | _ => cases d2 <;> trivial
    · cases d <;> try trivial
      cases d2 <;> trivial) (fun h => pi_range2 hg hm h hs hs2) ha
end
end Sv
set_option Elab.async false
set_option linter.all false
set_option maxRecDepth 100000
set_option maxHeartbeats 4000000
namespace Sv
open PySem PySem.Spec PyProof.Rows L2
section
variable {K : PySem.W.Frag} {m m' : Ms} {H H' : Hp} {st : S} {ds es : List D} {vs ws : List V} {a b : Addr}
theorem pair_new {T : Addr} {x y : V} {d e : D} (s : SO K m H st) (hT : H T = none) (r1 : Rep K m H d x) (r2 : Rep K m H e y) : Gr m H m (upd H T (.tup [x, y])) ∧ Rep K m (upd H T (.tup [x, y])) (.tup [d, e]) (.ref T) ∧ SO K m (upd H T (.tup [x, y])) st := by
  have g : Gr m H m (upd H T (.tup [x, y])) := Gr.new hT
  exact ⟨g, ⟨T, [x, y], rfl, Or.inl (Or.inl upd_same), ⟨x, [y], rfl, Rep.mono g s r1, ⟨y, [], rfl, Rep.mono g s r2, rfl⟩⟩⟩, s.new hT⟩
def enumD (ds : List D) : List D := ds.mapIdx fun i d => .tup [.int (i : Int), d]
theorem itV_enum (s : SO K m H st) (q : FzL K m H a vs) (r : Reps K m H ds vs) : ItV K (Ite K a) m H (enumD ds) := by
  have hl := Reps.len r
  have hle : (enumD ds).length = ds.length := by unfold enumD; rw [List.length_mapIdx]
  refine ⟨fun i m1 H1 st1 g s1 hi => ?_, fun i m1 H1 st1 x H2 d g s1 hd y => ?_, fun i m1 H1 st1 g s1 hi => ⟨vs, FzL.on g q, by omega⟩⟩
  · exact ⟨vs, vs[i]'(by omega), FzL.on g q, List.getElem?_eq_getElem _⟩
  · obtain ⟨T, x', e, hT, eH, y⟩ := y
    subst e eH
    unfold enumD at hd
    rw [List.getElem?_mapIdx] at hd
    cases z : ds[i]? with
    | none => rw [z] at hd; cases hd
    | some d' =>
      rw [z] at hd
      cases hd
      obtain ⟨v, h1, h2⟩ := Reps.get r z
      have h3 := y vs (FzL.on g q)
      rw [h1] at h3
      cases h3
      exact pair_new s1 hT rfl (Rep.monoW g s h2)
def zipD (ds es : List D) : List D := List.zipWith (fun d e => .tup [d, e]) ds es
theorem zipD_get {i : Nat} {d : D} (h : (zipD ds es)[i]? = some d) : ∃ x y, ds[i]? = some x ∧ es[i]? = some y ∧ d = .tup [x, y] := by
  unfold zipD at h
  rw [List.getElem?_zipWith] at h
  cases e1 : ds[i]? with
  | none => rw [e1] at h; cases h
  | some x =>
    cases e2 : es[i]? with
    | none => rw [e1, e2] at h; cases h
    | some y =>
      rw [e1, e2] at h
      cases h
      exact ⟨x, y, rfl, rfl, rfl⟩
theorem zipD_len : (zipD ds es).length = min ds.length es.length := by
  unfold zipD
  rw [List.length_zipWith]
theorem itV_zipT (s : SO K m H st) (q : SqT K H a vs) (q2 : SqT K H b ws) (r : Reps K m H ds vs) (r2 : Reps K m H es ws) : ItV K (RZ.ItzT K a b) m H (zipD ds es) := by
  have hl := Reps.len r
  have hl2 := Reps.len r2
  have hz := zipD_len (ds := ds) (es := es)
  refine ⟨fun i m1 H1 st1 g s1 hi => ?_, fun i m1 H1 st1 x H2 d g s1 hd y => ?_, fun i m1 H1 st1 g s1 hi => ⟨vs, ws, g.sqT s q, g.sqT s q2, by omega⟩⟩
  · exact ⟨vs, ws, vs[i]'(by omega), ws[i]'(by omega), g.sqT s q, g.sqT s q2, List.getElem?_eq_getElem _, List.getElem?_eq_getElem _⟩
  · obtain ⟨T, x', y', e, hT, eH, y1, y2⟩ := y
    subst e eH
    obtain ⟨d1, d2, z1, z2, ed⟩ := zipD_get hd
    subst ed
    obtain ⟨v, h1, h2⟩ := Reps.get r z1
    have h3 := y1 vs (g.sqT s q)
    rw [h1] at h3
    cases h3
    obtain ⟨v2, h4, h5⟩ := Reps.get r2 z2
    have h6 := y2 ws (g.sqT s q2)
    rw [h4] at h6
    cases h6
    exact pair_new s1 hT (Rep.monoW g s h2) (Rep.monoW g s h5)
theorem itV_zipL (s : SO K m H st) (q : Rd H a (.lst vs)) (hn : a ∉ m) (q2 : Rd H b (.lst ws)) (hn2 : b ∉ m) (r : Reps K m H ds vs) (r2 : Reps K m H es ws) : ItV K (Itz K a b) m H (zipD ds es) := by
  have hl := Reps.len r
  have hl2 := Reps.len r2
  have hz := zipD_len (ds := ds) (es := es)
  refine ⟨fun i m1 H1 st1 g s1 hi => ?_, fun i m1 H1 st1 x H2 d g s1 hd y => ?_, fun i m1 H1 st1 g s1 hi => ⟨vs, ws, Or.inl (g.rdL hn q).1, Or.inl (g.rdL hn2 q2).1, by omega⟩⟩
  · exact ⟨vs, ws, vs[i]'(by omega), ws[i]'(by omega), Or.inl (g.rdL hn q).1, Or.inl (g.rdL hn2 q2).1, List.getElem?_eq_getElem _, List.getElem?_eq_getElem _⟩
  · obtain ⟨T, x', y', e, hT, eH, y1, y2⟩ := y
    subst e eH
    obtain ⟨d1, d2, z1, z2, ed⟩ := zipD_get hd
    subst ed
    obtain ⟨v, h1, h2⟩ := Reps.get r z1
    have h3 := y1 vs (Or.inl (g.rdL hn q).1)
    rw [h1] at h3
    cases h3
    obtain ⟨v2, h4, h5⟩ := Reps.get r2 z2
    have h6 := y2 ws (Or.inl (g.rdL hn2 q2).1)
    rw [h4] at h6
    cases h6
    exact pair_new s1 hT (Rep.monoW g s h2) (Rep.monoW g s h5)
end
section
variable {X : Cx} {W : WX} {a b c e tg : Expr} {es rest : List Expr} {pos p2 p : Pos} {ga gb gc : G} {gt gu : GT} {gr gi : GA} {gl : GL} {st1 st2 : Stmt} {sts body : List Stmt} {gs hs : GS}
def iEnumD : List D → S → R (List D) := fun ds st => match ds with
  | [.lv xs] => .ok (enumD xs) st
  | [.fz xs] => .ok (enumD xs) st
  | _ => .bad
theorem di_enum {elts : List Expr} {kk : Nat} {tpos : Pos} (hm : X.mg "enumerate" = none) (ha : DA X W [e] gr) (hg : Gl X "enumerate" := by rfl) (hs : starEach [e] X.env = [(false, eval e X.env)] := by rfl) : DI X W (.Tuple elts kk tpos) (.Call (.Name "enumerate" p) [e] [] pos) (iOf iEnumD gr) :=
  di_of (rc := fun vs H1 R' => ∃ a xs, vs = [.ref a] ∧ SqL X.K H1 a xs ∧ R' (Ite X.K a) H1) (fun m H st ds vs R' r s => by
    rcases ds with _ | ⟨d, _ | ⟨d2, t⟩⟩
    · trivial
    · cases d with
      | lv xs =>
        intro k
        obtain ⟨v, ev, e1⟩ := rep1 r
        obtain ⟨a, ws, ew, sq, hn, rs⟩ := e1
        subst ew
        exact ⟨a, ws, ev, Or.inl (Or.inl sq), k _ m H Gr.refl (itV_enum s (Or.inl ⟨Or.inl sq, hn⟩) rs) s⟩
      | fz xs =>
        intro k
        obtain ⟨v, ev, e1⟩ := rep1 r
        obtain ⟨a, ws, ew, sq, rs⟩ := e1
        subst ew
        exact ⟨a, ws, ev, sq.sq, k _ m H Gr.refl (itV_enum s sq rs) s⟩
      | _ => trivial
    · cases d <;> trivial) (fun h => pi_enum hg hm h hs) ha
def iZipD : List D → S → R (List D) := fun ds st => match ds with
  | [.tup xs, .tup ys] => .ok (zipD xs ys) st
  | [.lv xs, .lv ys] => .ok (zipD xs ys) st
  | _ => .bad
theorem di_zip {elts : List Expr} {kk : Nat} {tpos : Pos} (hm : X.mg "zip" = none) (ha : DA X W [a, b] gr) (hg : Gl X "zip" := by rfl) (hs : starEach [a, b] X.env = (false, eval a X.env) :: starEach [b] X.env := by rfl) (hpl : (backTo pos (starEach [b] X.env)).any (·.1) = false := by rfl) : DI X W (.Tuple elts kk tpos) (.Call (.Name "zip" p) [a, b] [] pos) (iOf iZipD gr) :=
  di_of (rc := fun vs H1 R' => ∃ a b xs ys, vs = [.ref a, .ref b] ∧ ((SqL X.K H1 a xs ∧ SqL X.K H1 b ys ∧ R' (Itz X.K a b) H1) ∨ (SqT X.K H1 a xs ∧ SqT X.K H1 b ys ∧ R' (RZ.ItzT X.K a b) H1))) (fun m H st ds vs R' r s => by
    rcases ds with _ | ⟨d, _ | ⟨d2, _ | ⟨d3, t⟩⟩⟩
    · trivial
    · cases d <;> trivial
    · cases d with
      | tup xs =>
        cases d2 with
        | tup ys =>
          intro k
          obtain ⟨v, v2, ev, e1, e2⟩ := rep2 r
          obtain ⟨a, ws, ew, sq, rs⟩ := e1
          obtain ⟨b, ws2, ew2, sq2, rs2⟩ := e2
          subst ew ew2
          exact ⟨a, b, ws, ws2, ev, Or.inr ⟨sq, sq2, k _ m H Gr.refl (itV_zipT s sq sq2 rs rs2) s⟩⟩
        | _ => trivial
      | lv xs =>
        cases d2 with
        | lv ys =>
          intro k
          obtain ⟨v, v2, ev, e1, e2⟩ := rep2 r
          obtain ⟨a, ws, ew, sq, hn, rs⟩ := e1
          obtain ⟨b, ws2, ew2, sq2, hn2, rs2⟩ := e2
          subst ew ew2
          exact ⟨a, b, ws, ws2, ev, Or.inl ⟨Or.inl (Or.inl sq), Or.inl (Or.inl sq2), k _ m H Gr.refl (itV_zipL s (Or.inl sq) hn (Or.inl sq2) hn2 rs rs2) s⟩⟩
        | _ => trivial
      | _ => cases d2 <;> trivial
    · cases d <;> cases d2 <;> trivial) (fun h => RZ.pi_zipA hg hm h hs hpl) ha
/-! ### targets -/
def TgOk (K : PySem.W.Frag) (g : TG) (t : D → En → Option En) : Prop := ∀ (m : Ms) (H : Hp) (d : D) (v : V) (r r' : En) (σ : L2.St) (Q : L2.St → Hp → Prop), Rep K m H d v → EO K m H σ r → t d r = some r' → (∀ σ', EO K m H σ' r' → Q σ' H) → g v σ H Q
def tgV (i : Nat) : D → En → Option En := fun d r => some (r.set i (some d))
theorem tgV_ok {K : PySem.W.Frag} {i : Nat} : TgOk K (gName i) (tgV i) := fun m H d v r r' σ Q rv E e k => by
  cases e
  exact k _ (E.set rv i)
def tgT (is : List Nat) : D → En → Option En := fun d r => match d with
  | .tup ds => setAll is ds r
  | _ => none
theorem tgT_ok {K : PySem.W.Frag} {is : List Nat} : TgOk K (gTup K is.length (tgN is)) (tgT is) := fun m H d v r r' σ Q rv E e k => by
  cases d with
  | tup ds =>
    obtain ⟨a, vs, ev, sq, rs⟩ := rv
    have e' : setAll is ds r = some r' := e
    exact ⟨a, vs, ev, sq, (Reps.len rs).trans (setAll_len e'), tgN_ok rs E e' k⟩
  | _ => cases e
/-! ### for -/
/-- the loop over what is still to come -/
def loopV (t : D → En → Option En) (body : GS) : List D → GS
  | [], r, st => .nx r st
  | d :: ds, r, st => match t d r with
    | none => .bad
    | some r1 => match body r1 st with
      | .nx r2 st2 => loopV t body ds r2 st2
      | .ct r2 st2 => loopV t body ds r2 st2
      | .bk r2 st2 => .nx r2 st2
      | o => o
def sI (gi : GA) (k : List D → GS) : GS := fun r st => match gi r st with
  | .ok ds st1 => k ds r st1
  | .err c fs s => .err c fs r s
  | .bad => .bad
def sFor (gi : GA) (t : D → En → Option En) (body : GS) : GS := sI gi fun ds => loopV t body ds
theorem ds_for {g : TG} {t : D → En → Option En} (hp : PassesOwn (model X.prog X.w) X.A X.env X.xe) (hc : X.calm = true) (hi : DI X W tg e gi) (hg : PG X tg g) (ht : TgOk X.K g t) (hb : DB X W body gs)
    (hs : ∀ x, foldedSetIterable e X.env x = pure x := by intro _; rfl) : DS X W (.For tg e body [] pos) (sFor gi t gs) := PS.imp (ps_for hp hc hi hg hb hs) fun Z σ H h => by
  obtain ⟨m, r, st, E, s, q⟩ := h
  unfold sFor sI at q
  refine ⟨m, r, st, E, s, ?_⟩
  cases ea : gi r st with
  | bad => rw [ea] at q; exact q
  | err c fs st1 =>
    rw [ea] at q
    exact w_of E s q
  | ok ds st1 =>
    rw [ea] at q
    intro J m1 H1 g1 it s1
    refine ⟨fun i k σ H => k = ds.length - i ∧ i ≤ ds.length ∧ ∃ m r st, Gr m1 H1 m H ∧ EO X.K m H σ r ∧ SO X.K m H st ∧ SAns X.K X.mg W Z m H (loopV t gs (ds.drop i) r st), ⟨_, rfl, Nat.zero_le _, m1, r, st1, Gr.refl, E.mono g1 s, s1, SAns.mono g1 q⟩, ?_⟩
    rintro i k σ2 H2 ⟨rfl, hi2, m2, r2, st2, g2, E2, s2, q2⟩
    by_cases hlt : i < ds.length
    · refine Or.inr ⟨it.go i m2 H2 st2 g2.w s2 hlt, fun σ' H' => ∃ m r st, Gr m1 H1 m H' ∧ EO X.K m H' σ' r ∧ SO X.K m H' st ∧ SAns X.K X.mg W Z m H' (loopV t gs (ds.drop (i + 1)) r st), fun σ' H' z => ⟨_, by omega, rfl, hlt, z⟩, fun x H' y => ?_⟩
      rw [List.drop_eq_getElem_cons hlt] at q2
      obtain ⟨g3, r3, s3⟩ := it.yld i m2 H2 st2 x H' ds[i] g2.w s2 (List.getElem?_eq_getElem hlt) y
      unfold loopV at q2
      cases et : t ds[i] r2 with
      | none => rw [et] at q2; exact q2.elim
      | some r4 =>
        rw [et] at q2
        dsimp only at q2
        refine ht m2 H' ds[i] x r2 r4 σ2 _ r3 (E2.mono g3 s2) et fun σ3 E3 => ⟨m2, r4, st2, E3, s3, ?_⟩
        cases eb : gs r4 st2 with
        | bad => rw [eb] at q2; exact q2.elim
        | nx r5 st5 =>
          rw [eb] at q2
          exact fun σ' m' H' g E' s' => ⟨m', r5, st5, (g2.trans g3).trans g, E', s', SAns.mono (g3.trans g) q2⟩
        | ct r5 st5 =>
          rw [eb] at q2
          exact fun σ' m' H' g E' s' => ⟨m', r5, st5, (g2.trans g3).trans g, E', s', SAns.mono (g3.trans g) q2⟩
        | bk r5 st5 =>
          rw [eb] at q2
          exact fun σ' m' H' g E' s' => q2 σ' m' H' (g3.trans g) E' s'
        | rt d st5 =>
          rw [eb] at q2
          exact fun v m' H' g r' s' => q2 v m' H' (g3.trans g) r' s'
        | err c fs r5 st5 =>
          rw [eb] at q2
          exact fun cls d σ' m' H' g er E' s' => q2 cls d σ' m' H' (g3.trans g) er E' s'
    · rw [List.drop_eq_nil_of_le (by omega)] at q2
      exact Or.inl ⟨it.stop i m2 H2 st2 g2.w s2 (by omega), q2 σ2 m2 H2 Gr.refl E2 s2⟩
/-- the loop over a changing list, as it stands at each turn, of one length -/
def loopL (t : D → En → Option En) (body : GS) (l n : Nat) : Nat → GS
  | 0, r, st => (match st[l]? with
    | some ds => if ds.length = n then .nx r st else .bad
    | none => .bad)
  | k + 1, r, st => (match st[l]? with
    | some ds => if ds.length = n then (match ds[n - (k + 1)]? with
      | some d => (match t d r with
        | none => .bad
        | some r1 => match body r1 st with
          | .nx r2 st2 => loopL t body l n k r2 st2
          | .ct r2 st2 => loopL t body l n k r2 st2
          | .bk r2 st2 => .nx r2 st2
          | o => o)
      | none => .bad) else .bad
    | none => .bad)
def sForL (gl : GL) (t : D → En → Option En) (body : GS) : GS := fun r st => match gl r st with
  | .ok ln st1 => loopL t body ln.1 ln.2 ln.2 r st1
  | .err c fs s => .err c fs r s
  | .bad => .bad
theorem ds_forL {g : TG} {t : D → En → Option En} (hp : PassesOwn (model X.prog X.w) X.A X.env X.xe) (hc : X.calm = true) (hi : DIL X W tg e gl) (hg : PG X tg g) (ht : TgOk X.K g t) (hb : DB X W body gs)
    (hs : ∀ x, foldedSetIterable e X.env x = pure x := by intro _; rfl) : DS X W (.For tg e body [] pos) (sForL gl t gs) := PS.imp (ps_for hp hc hi hg hb hs) fun Z σ H h => by
  obtain ⟨m, r, st, E, s, q⟩ := h
  unfold sForL at q
  refine ⟨m, r, st, E, s, ?_⟩
  cases ea : gl r st with
  | bad => rw [ea] at q; exact q
  | err c fs st1 =>
    rw [ea] at q
    exact w_of E s q
  | ok ln st1 =>
    obtain ⟨l, n⟩ := ln
    rw [ea] at q
    dsimp only at q
    intro a m1 H1 g1 hl s1
    dsimp only at hl
    have stay : ∀ {m2 H2}, Gr m1 H1 m2 H2 → m2.l[l]? = some a := fun {m2 H2} g => g.loc hl
    refine ⟨fun i k σ H => k + i = n ∧ ∃ m r st, Gr m1 H1 m H ∧ EO X.K m H σ r ∧ SO X.K m H st ∧ SAns X.K X.mg W Z m H (loopL t gs l n k r st), ⟨n, rfl, m1, r, st1, Gr.refl, E.mono g1 s, s1, SAns.mono g1 q⟩, ?_⟩
    rintro i k σ2 H2 ⟨hk, m2, r2, st2, g2, E2, s2, q2⟩
    cases k with
    | zero =>
      unfold loopL at q2
      cases el : st2[l]? with
      | none => rw [el] at q2; exact q2.elim
      | some ds =>
        rw [el] at q2
        dsimp only at q2
        by_cases hn : ds.length = n
        · rw [if_pos hn] at q2
          obtain ⟨vs, h1, h2⟩ := s2.lst l a ds (stay g2) el
          exact Or.inl ⟨⟨vs, Or.inl (Or.inl h1), by rw [Reps.len h2]; omega⟩, q2 σ2 m2 H2 Gr.refl E2 s2⟩
        · rw [if_neg hn] at q2
          exact q2.elim
    | succ k =>
      unfold loopL at q2
      cases el : st2[l]? with
      | none => rw [el] at q2; exact q2.elim
      | some ds =>
        rw [el] at q2
        dsimp only at q2
        by_cases hn : ds.length = n
        · rw [if_pos hn] at q2
          have hi3 : n - (k + 1) = i := by omega
          rw [hi3] at q2
          obtain ⟨vs, h1, h2⟩ := s2.lst l a ds (stay g2) el
          have hlt : i < ds.length := by omega
          rw [List.getElem?_eq_getElem hlt] at q2
          dsimp only at q2
          obtain ⟨v, h3, h4⟩ := Reps.get h2 (List.getElem?_eq_getElem hlt)
          refine Or.inr ⟨⟨vs, v, Or.inl (Or.inl h1), h3⟩, fun σ' H' => ∃ m r st, Gr m1 H1 m H' ∧ EO X.K m H' σ' r ∧ SO X.K m H' st ∧ SAns X.K X.mg W Z m H' (loopL t gs l n k r st), fun σ' H' z => ⟨k, by omega, by omega, z⟩, fun x H' y => ?_⟩
          obtain ⟨eH, y⟩ := y
          subst eH
          have h5 := y vs (Or.inl (Or.inl h1))
          rw [h3] at h5
          cases h5
          cases et : t ds[i] r2 with
          | none => rw [et] at q2; exact q2.elim
          | some r4 =>
            rw [et] at q2
            dsimp only at q2
            refine ht m2 _ ds[i] _ r2 r4 σ2 _ h4 E2 et fun σ3 E3 => ⟨m2, r4, st2, E3, s2, ?_⟩
            cases eb : gs r4 st2 with
            | bad => rw [eb] at q2; exact q2.elim
            | nx r5 st5 =>
              rw [eb] at q2
              exact fun σ' m' H' g E' s' => ⟨m', r5, st5, g2.trans g, E', s', SAns.mono g q2⟩
            | ct r5 st5 =>
              rw [eb] at q2
              exact fun σ' m' H' g E' s' => ⟨m', r5, st5, g2.trans g, E', s', SAns.mono g q2⟩
            | bk r5 st5 =>
              rw [eb] at q2
              exact q2
            | rt d st5 =>
              rw [eb] at q2
              exact q2
            | err c fs r5 st5 =>
              rw [eb] at q2
              exact q2
        · rw [if_neg hn] at q2
          exact q2.elim
end
end Sv
set_option Elab.async false
set_option linter.all false
set_option maxRecDepth 100000
set_option maxHeartbeats 4000000
namespace Sv
open PySem PySem.Spec PyProof.Rows L2
/-! ### list comprehensions -/
abbrev W0 : WX := fun _ _ _ _ => False
def wipeD (r : En) : List Nat → En
  | [] => r
  | v :: vs => (wipeD r vs).set v none
section
variable {K : PySem.W.Frag} {m m' : Ms} {H H' : Hp} {st : S} {σ : L2.St} {r : En}
theorem EO.unset (E : EO K m H σ r) (v : Nat) : EO K m H (σ.set v none) (r.set v none) := by
  refine ⟨by rw [List.length_set, List.length_set, E.len], fun i d e => ?_⟩
  by_cases hi : v = i
  · subst hi
    by_cases hl : v < r.length
    · rw [List.getElem?_set_self hl] at e
      cases e
    · rw [List.getElem?_eq_none (by rw [List.length_set]; omega)] at e
      cases e
  · rw [List.getElem?_set_ne hi] at e ⊢
    exact E.get i d e
theorem EO.wipe (E : EO K m H σ r) : ∀ vs : List Nat, EO K m H (L2.wipe σ vs) (wipeD r vs)
  | [] => E
  | v :: vs => (EO.wipe E vs).unset v
theorem wipe_set {σ : L2.St} {i : Nat} {v : Option V} : ∀ {vs : List Nat}, i ∈ vs → L2.wipe (σ.set i v) vs = L2.wipe σ vs
  | [], h => by cases h
  | j :: vs, h => by
    show (L2.wipe (σ.set i v) vs).set j none = (L2.wipe σ vs).set j none
    by_cases hj : i ∈ vs
    · rw [wipe_set hj]
    · have e : i = j := by
        rcases List.mem_cons.mp h with z | z
        · exact z
        · exact absurd z hj
      subst e
      refine List.ext_getElem? fun k => ?_
      by_cases hk : i = k
      · subst hk
        by_cases hl : i < σ.length
        · rw [List.getElem?_set_self (by rw [wipe_length, List.length_set]; exact hl), List.getElem?_set_self (by rw [wipe_length]; exact hl)]
        · rw [List.getElem?_eq_none (by rw [List.length_set, wipe_length, List.length_set]; omega), List.getElem?_eq_none (by rw [List.length_set, wipe_length]; omega)]
      · rw [List.getElem?_set_ne hk, List.getElem?_set_ne hk]
        have key : ∀ us : List Nat, (L2.wipe (σ.set i v) us)[k]? = (L2.wipe σ us)[k]? := by
          intro us
          induction us with
          | nil => exact List.getElem?_set_ne hk
          | cons u us ih =>
            show ((L2.wipe (σ.set i v) us).set u none)[k]? = ((L2.wipe σ us).set u none)[k]?
            by_cases hu : u = k
            · subst hu
              by_cases hl : u < σ.length
              · rw [List.getElem?_set_self (by rw [wipe_length, List.length_set]; exact hl), List.getElem?_set_self (by rw [wipe_length]; exact hl)]
              · rw [List.getElem?_eq_none (by rw [List.length_set, wipe_length, List.length_set]; omega), List.getElem?_eq_none (by rw [List.length_set, wipe_length]; omega)]
            · rw [List.getElem?_set_ne hu, List.getElem?_set_ne hu]
              exact ih
        exact key vs
theorem wipe_idem {σ : L2.St} {i : Nat} {vs : List Nat} (h : i ∈ vs) : (L2.wipe σ vs).set i none = L2.wipe σ vs := by
  refine List.ext_getElem? fun k => ?_
  by_cases hk : i = k
  · subst hk
    by_cases hl : i < σ.length
    · rw [List.getElem?_set_self (by rw [wipe_length]; exact hl)]
      have h1 : i < (L2.wipe σ vs).length := by rw [wipe_length]; exact hl
      cases e : (L2.wipe σ vs)[i]? with
      | none => rw [List.getElem?_eq_none_iff] at e; omega
      | some o =>
        cases o with
        | none => rfl
        | some x => exact absurd h (wipe_some e).2
    · rw [List.getElem?_eq_none (by rw [List.length_set, wipe_length]; omega), List.getElem?_eq_none (by rw [wipe_length]; omega)]
  · rw [List.getElem?_set_ne hk]
theorem wipe_none {σ : L2.St} {vs : List Nat} : ∀ {us : List Nat}, (∀ i ∈ us, i ∈ vs) → L2.wipe (L2.wipe σ vs) us = L2.wipe σ vs
  | [], _ => rfl
  | u :: us, h => by
    show (L2.wipe (L2.wipe σ vs) us).set u none = _
    rw [wipe_none fun i hi => h i (List.mem_cons_of_mem _ hi)]
    exact wipe_idem (h u (List.mem_cons_self ..))
end
/-- a target of a block: the block's own names alone are set -/
def TgB (K : PySem.W.Frag) (vs : List Nat) (g : TG) (t : D → En → Option En) : Prop := ∀ (m : Ms) (H : Hp) (d : D) (v : V) (r r' : En) (σ : L2.St) (Q : L2.St → Hp → Prop), Rep K m H d v → EO K m H σ r → t d r = some r' → (∀ σ', EO K m H σ' r' → L2.wipe σ' vs = L2.wipe σ vs → Q σ' H) → g v σ H Q
theorem tgV_b {K : PySem.W.Frag} {i : Nat} {vs : List Nat} (hi : i ∈ vs) : TgB K vs (gName i) (tgV i) := fun m H d v r r' σ Q rv E e k => by
  cases e
  exact k _ (E.set rv i) (wipe_set hi)
theorem tgN_b {K : PySem.W.Frag} {m : Ms} {H : Hp} {ws : List Nat} {Q : L2.St → Hp → Prop} : ∀ {is : List Nat} {ds : List D} {vs : List V} {r r' : En} {σ : L2.St}, (∀ i ∈ is, i ∈ ws) → Reps K m H ds vs → EO K m H σ r → setAll is ds r = some r' → (∀ σ', EO K m H σ' r' → L2.wipe σ' ws = L2.wipe σ ws → Q σ' H) → tgN is vs σ H Q
  | [], [], vs, r, r', σ, _, rv, E, e, k => by
    cases e
    exact ⟨rv, k σ E rfl⟩
  | i :: is, d :: ds, vs, r, r', σ, hi, rv, E, e, k => by
    obtain ⟨v, t, ev, r1, rt⟩ := rv
    exact ⟨v, t, ev, tgN_b (fun j hj => hi j (List.mem_cons_of_mem _ hj)) rt (E.set r1 i) e fun σ' E' w => k σ' E' (w.trans (wipe_set (hi i (List.mem_cons_self ..))))⟩
  | [], _ :: _, _, _, _, _, _, _, _, e, _ => by cases e
  | _ :: _, [], _, _, _, _, _, _, _, e, _ => by cases e
theorem tgT_b {K : PySem.W.Frag} {is ws : List Nat} (hi : ∀ i ∈ is, i ∈ ws) : TgB K ws (gTup K is.length (tgN is)) (tgT is) := fun m H d v r r' σ Q rv E e k => by
  cases d with
  | tup ds =>
    obtain ⟨a, vs, ev, sq, rs⟩ := rv
    have e' : setAll is ds r = some r' := e
    exact ⟨a, vs, ev, sq, (Reps.len rs).trans (setAll_len e'), tgN_b hi rs E e' k⟩
  | _ => cases e
abbrev DTs (X : Cx) (W : WX) (ifs : List Expr) (g : GT) : Prop := PTs X ifs (tT X.K X.mg W g)
def gYes : GT := fun _ st => .ok true st
section
variable {X : Cx} {W : WX} {a b c e tg elt iter tg1 iter1 : Expr} {es rest ifs ifs1 : List Expr} {pos p2 p : Pos} {ga gb gc ge : G} {gt gu gt1 : GT} {gr gi gi1 : GA} {gl : GL} {gs hs : GS}
theorem PTs.imp {t t' : TT} (h : PTs X ifs t) (k : ∀ σ H Q, t' σ H Q → t σ H Q) : PTs X ifs t' := ⟨fun pins s σ H Q I q => h.run pins s σ H Q I (k _ _ _ q)⟩
theorem dts_nil : DTs X W [] gYes := PTs.imp pts_nil fun σ H Q q => by
  obtain ⟨m, r, st, E, s, q⟩ := q
  exact q m H Gr.refl s
theorem dts_one (h : DT X W c gt) : DTs X W [c] gt := pts_one h
/-- the elements -/
def lcLoop (t : D → En → Option En) (gt : GT) (ge : G) (r0 : En) : List D → S → R (List D)
  | [], st => .ok [] st
  | d :: ds, st => match t d r0 with
    | none => .bad
    | some r1 => match gt r1 st with
      | .ok true st1 => (match ge r1 st1 with
        | .ok y st2 => (match lcLoop t gt ge r0 ds st2 with
          | .ok ys st3 => .ok (y :: ys) st3
          | .err _ _ _ => .bad
          | .bad => .bad)
        | .err _ _ _ => .bad
        | .bad => .bad)
      | .ok false st1 => lcLoop t gt ge r0 ds st1
      | .err _ _ _ => .bad
      | .bad => .bad
/-- the elements made into a list -/
def gMk (c : Bool) (a : R (List D)) : R D := match a with
  | .ok ys st2 => nl c ys st2
  | .err _ _ _ => .bad
  | .bad => .bad
def gLc (c : Bool) (vs : List Nat) (gi : GA) (t : D → En → Option En) (gt : GT) (ge : G) : G := fun r st => match gi r st with
  | .ok ds st1 => gMk c (lcLoop t gt ge (wipeD r vs) ds st1)
  | .err c fs s => .err c fs s
  | .bad => .bad
/-- how far it is: D the list in the making, acc in it -/
structure Mk (K : PySem.W.Frag) (m1 : Ms) (H1 : Hp) (A : Addr) (es : List (L2.St × En)) (m : Ms) (H : Hp) (st : S) (ds : List D) : Prop where
  g : Gr m1 H1 m H
  so : SO K m H st
  eo : ∀ e ∈ es, EO K m H e.1 e.2
  hid : ∃ nh, m.h = nh ++ A :: m1.h ∧ A ∉ nh
  made : ∃ acc, H A = some (.lst acc) ∧ Reps K m H ds acc
section
variable {K : PySem.W.Frag} {m1 m m' : Ms} {H1 H H' : Hp} {A : Addr} {es : List (L2.St × En)} {σ : L2.St} {r : En} {st st1 st' : S} {ds : List D} {d : D} {v : V} {c : Bool}
theorem Mk.start (s : SO K m1 H1 st) (E : ∀ e ∈ es, EO K m1 H1 e.1 e.2) (hA : H1 A = none) : Mk K m1 H1 A es ⟨m1.l, A :: m1.h, m1.t⟩ (upd H1 A (.lst [])) st [] := by
  obtain ⟨g, s2⟩ := s.hide (vs := []) hA
  exact ⟨g, s2, fun e he => (E e he).mono g s, ⟨[], rfl, by simp⟩, [], upd_same, rfl⟩
theorem Mk.ne (k : Mk K m1 H1 A es m H st ds) : A ∈ m.h := by
  obtain ⟨nh, e, _⟩ := k.hid
  rw [e]
  simp
theorem Mk.push (k : Mk K m1 H1 A es m H st ds) (E : EO K m H σ r) : Mk K m1 H1 A ((σ, r) :: es) m H st ds := ⟨k.g, k.so, fun e he => by
  rcases List.mem_cons.mp he with z | z
  · rw [z]
    exact E
  · exact k.eo e z, k.hid, k.made⟩
theorem Mk.pop {x : L2.St × En} (k : Mk K m1 H1 A (x :: es) m H st ds) : Mk K m1 H1 A es m H st ds := ⟨k.g, k.so, fun e he => k.eo e (List.mem_cons_of_mem _ he), k.hid, k.made⟩
/-- more happens, the list stays -/
theorem Mk.on (k : Mk K m1 H1 A es m H st ds) (g : Gr m H m' H') (s : SO K m' H' st') : Mk K m1 H1 A es m' H' st' ds := by
  obtain ⟨nh, e, hn⟩ := k.hid
  obtain ⟨acc, ha, ra⟩ := k.made
  obtain ⟨n2, e2, f2⟩ := g.hid
  refine ⟨k.g.trans g, s, fun e he => (k.eo e he).mono g k.so, ⟨n2 ++ nh, by rw [e2, e, List.append_assoc], fun z => ?_⟩, acc, g.keepL A _ ha (k.so.dis A k.ne) (k.so.neT ha), Reps.mono g k.so ra⟩
  rcases List.mem_append.mp z with z | z
  · rw [f2 A z] at ha
    cases ha
  · exact hn z
/-- one more is put into it -/
theorem Mk.put {acc : List V} (k : Mk K m1 H1 A es m H st ds) (hA : H1 A = none) (rv : Rep K m H d v) (ha : H A = some (.lst acc)) : Mk K m1 H1 A es m (upd H A (.lst (acc ++ [v]))) st (ds ++ [d]) := by
  obtain ⟨acc', ha', ra⟩ := k.made
  rw [ha] at ha'
  cases ha'
  refine ⟨⟨k.g.more, k.g.hid, k.g.tbl, fun a o h hn ht => ?_, fun a o h => ?_⟩, k.so.made k.ne, fun e he => (k.eo e he).made k.so k.ne, k.hid, _, upd_same, Reps.made k.so k.ne (ra.snoc rv)⟩
  · rw [upd_ne (ne_of_none h hA)]
    exact k.g.keepL a o h hn ht
  · rw [upd_ne (ne_of_none h hA)]
    exact k.g.there a o h
/-- it is made -/
theorem Mk.fin {Q : VK} (k : Mk K m1 H1 A es m H st ds) (hA : H1 A = none) (s1 : SO K m1 H1 st1) (e : nl c ds st = .ok d st')
    (q : ∀ v m' H', Gr m1 H1 m' H' → Rep K m' H' d v → SO K m' H' st' → Q v H') : Q (.ref A) H := by
  obtain ⟨nh, eh, hn⟩ := k.hid
  obtain ⟨acc, ha, ra⟩ := k.made
  have hA1 : A ∉ m1.h := fun z => s1.notin hA (Or.inr (Or.inl z))
  have sh := SO.show (c := c) k.so eh ha hn hA1 ra
  have eb : (if c = true then D.loc st.length else D.lv ds) = d ∧ (if c = true then st ++ [ds] else st) = st' := by
    unfold nl at e
    split at e
    · cases c
      · cases e
        exact ⟨rfl, rfl⟩
      · cases e
        exact ⟨rfl, rfl⟩
    · cases e
  rw [eb.1, eb.2] at sh
  refine q (.ref A) ⟨if c = true then m.l ++ [A] else m.l, nh ++ m1.h, m.t⟩ H ⟨?_, ⟨nh, rfl, fun a hx => ?_⟩, k.g.tbl, fun a o h hn2 ht => ?_, k.g.there⟩ sh.2 sh.1
  · obtain ⟨n1, e1, f1⟩ := k.g.more
    cases c
    · exact ⟨n1, e1, f1⟩
    · refine ⟨n1 ++ [A], by show m.l ++ [A] = _; rw [e1, List.append_assoc], fun a hx => ?_⟩
      rcases List.mem_append.mp hx with z | z
      · exact f1 a z
      · have z2 : a = A := by simpa using z
        rw [z2]
        exact hA
  · obtain ⟨n2, e2, f2⟩ := k.g.hid
    rw [eh] at e2
    have e3 : (nh ++ [A]) ++ m1.h = n2 ++ m1.h := by rw [← e2]; simp
    have e4 := List.append_cancel_right e3
    exact f2 a (by rw [← e4]; simp [hx])
  · exact k.g.keepL a o h hn2 ht
end
/-- the loop of a comprehension -/
theorem lc_walk {K : PySem.W.Frag} {mg : Str → Option Value} {m1 m : Ms} {H1 H : Hp} {A : Addr} {es : List (L2.St × En)} {σ : L2.St} {r : En} {st st' : S} {ds done ys : List D} {g : TG} {t : D → En → Option En} {vs : List Nat} {J : It} (hA : H1 A = none) (hg : TgB K vs g t) (hw : L2.wipe σ vs = σ)
    (it : ItV K J m H ds) (k0 : Mk K m1 H1 A ((σ, r) :: es) m H st done) (el : lcLoop t gt ge r ds st = .ok ys st') (hlen : (done ++ ys).length ≤ 100000) :
    ∃ Wv : Nat → Nat → Hp → Prop, (∃ k, Wv 0 k H) ∧ ∀ i k H, Wv i k H → (J.stop i H ∧ ∃ m, Mk K m1 H1 A ((σ, r) :: es) m H st' (done ++ ys)) ∨
      (J.go i H ∧ ∃ Nx : Hp → Prop, (∀ H', Nx H' → ∃ k', k' < k ∧ Wv (i + 1) k' H') ∧ ∀ x H', J.yld i H x H' → g x σ H' fun σ2 H2 => L2.wipe σ2 vs = σ ∧ tT K mg W0 gt σ2 H2 fun b H3 =>
        if b = true then tE K mg W0 ge σ2 H3 fun y H4 => ∃ acc, H4 A = some (.lst acc) ∧ acc.length < sizeLine ∧ Nx (upd H4 A (.lst (acc ++ [y]))) else Nx H3) := by
  refine ⟨fun i k H' => k = ds.length - i ∧ i ≤ ds.length ∧ ∃ m' st2 d2 y2, Gw m H m' H' ∧ Mk K m1 H1 A ((σ, r) :: es) m' H' st2 d2 ∧ d2 ++ y2 = done ++ ys ∧ lcLoop t gt ge r (ds.drop i) st2 = .ok y2 st', ⟨_, rfl, Nat.zero_le _, m, st, done, ys, Gr.refl.w, k0, rfl, el⟩, ?_⟩
  rintro i k H2 ⟨rfl, hi2, m2, st2, done, ys, w2, k2, ey, e2⟩
  by_cases hlt : i < ds.length
  · refine Or.inr ⟨it.go i m2 H2 st2 w2 k2.so hlt, fun H' => ∃ m' st2 d2 y2, Gw m H m' H' ∧ Mk K m1 H1 A ((σ, r) :: es) m' H' st2 d2 ∧ d2 ++ y2 = _ ∧ lcLoop t gt ge r (ds.drop (i + 1)) st2 = .ok y2 st',
      fun H' z => ⟨_, by omega, rfl, hlt, z⟩, fun x H' y => ?_⟩
    rw [List.drop_eq_getElem_cons hlt] at e2
    obtain ⟨g3, r3, s3⟩ := it.yld i m2 H2 st2 x H' ds[i] w2 k2.so (List.getElem?_eq_getElem hlt) y
    have k3 := k2.on g3 s3
    unfold lcLoop at e2
    cases et : t ds[i] r with
    | none => rw [et] at e2; cases e2
    | some r4 =>
    rw [et] at e2
    dsimp only at e2
    refine hg m2 H' ds[i] x _ r4 _ _ r3 (k3.eo (σ, r) (List.mem_cons_self ..)) et fun σ3 E3 hv => ⟨hv.trans hw, m2, r4, st2, E3, s3, ?_⟩
    cases eb : gt r4 st2 with
    | bad => rw [eb] at e2; cases e2
    | err c fs st5 => rw [eb] at e2; cases e2
    | ok b st5 =>
    rw [eb] at e2
    dsimp only
    intro m4 H4 g4 s4
    have k4 := k3.on g4 s4
    have w4 := w2.trans (g3.trans g4).w
    cases b with
    | false => exact ⟨m4, st5, done, ys, w4, k4, ey, e2⟩
    | true =>
    dsimp only at e2
    show tE K mg W0 ge σ3 H4 _
    refine tE_use (E3.mono g4 s3) s4 ?_
    cases ec : ge r4 st5 with
    | bad => rw [ec] at e2; cases e2
    | err c fs st6 => rw [ec] at e2; cases e2
    | ok y st6 =>
    rw [ec] at e2
    dsimp only at e2 ⊢
    intro v m5 H5 g5 r5 s5
    have k5 := k4.on g5 s5
    cases ed : lcLoop t gt ge r (ds.drop (i + 1)) st6 with
    | bad => rw [ed] at e2; cases e2
    | err c fs st6 => rw [ed] at e2; cases e2
    | ok ys2 st7 =>
    rw [ed] at e2
    cases e2
    obtain ⟨acc, ha, ra⟩ := k5.made
    refine ⟨acc, ha, ?_, m5, st6, done ++ [y], ys2, (w4.trans g5.w).trans (s5.madeW k5.ne), k5.put hA r5 ha, by rw [← ey]; simp, ed⟩
    have l1 := Reps.len ra
    rw [← ey, List.length_append, List.length_cons] at hlen
    have l3 : (100000 : Nat) ≤ sizeLine := by decide
    omega
  · rw [List.drop_eq_nil_of_le (by omega)] at e2
    unfold lcLoop at e2
    cases e2
    rw [List.append_nil] at ey
    subst ey
    exact Or.inl ⟨it.stop i m2 H2 _ w2 k2.so (by omega), m2, k2⟩
/-- one comprehension, what it asks -/
theorem tLc_ok {K : PySem.W.Frag} {mg : Str → Option Value} {c : Bool} {vs : List Nat} {g : TG} {t : D → En → Option En} (hg : TgB K vs g t) {σ : L2.St} {H : Hp} {Q : VK} (h : tE K mg W (gLc c vs gi t gt ge) σ H Q) :
    tLc (tI K mg W gi) g (tT K mg W0 gt) (tE K mg W0 ge) vs σ H Q := by
  obtain ⟨m, r, st, E, s, q⟩ := h
  unfold gLc at q
  refine ⟨m, r, st, E, s, ?_⟩
  cases ea : gi r st with
  | bad => rw [ea] at q; exact q
  | err c fs st1 => rw [ea] at q; exact q
  | ok ds st1 =>
    rw [ea] at q
    dsimp only at q
    intro J m1 H1 g1 it s1 A hA
    cases el : lcLoop t gt ge (wipeD r vs) ds st1 with
    | bad => rw [el] at q; exact q.elim
    | err c fs st1 => rw [el] at q; exact q.elim
    | ok ys0 st0 =>
    rw [el] at q
    unfold gMk at q
    dsimp only at q
    cases en : nl c ys0 st0 with
    | bad => rw [en] at q; exact q.elim
    | err c' fs st1 =>
      unfold nl at en
      split at en
      · split at en <;> cases en
      · cases en
    | ok d stF =>
    rw [en] at q
    dsimp only at q
    have E1 := (E.mono g1 s).wipe vs
    have k0 : Mk K m1 H1 A [(L2.wipe σ vs, wipeD r vs)] ⟨m1.l, A :: m1.h, m1.t⟩ (upd H1 A (.lst [])) st1 [] := Mk.start s1 (fun e he => by
      have z : e = (L2.wipe σ vs, wipeD r vs) := by simpa using he
      rw [z]
      exact E1) hA
    obtain ⟨Wv, w0, turn⟩ := lc_walk (mg := mg) (ge := ge) (gt := gt) (es := []) hA hg (wipe_none fun _ h => h) (it.mono k0.g.w) k0 el (by rw [List.nil_append]; exact nl_len en)
    refine ⟨Wv, w0, fun i k H w => (turn i k H w).imp (fun ⟨z1, m5, z2⟩ => ⟨z1, ?_⟩) fun z => z⟩
    exact z2.fin hA s1 en fun v m' H' g' => q v m' H' (g1.trans g')
/-! ### two clauses -/
def lcLoop2 (t : D → En → Option En) (gt : GT) (gi1 : GA) (t1 : D → En → Option En) (gt1 : GT) (ge : G) (vs1 : List Nat) (r0 : En) : List D → S → R (List D)
  | [], st => .ok [] st
  | d :: ds, st => match t d r0 with
    | none => .bad
    | some r1 => match gt r1 st with
      | .ok true st1 => (match gi1 r1 st1 with
        | .ok es st2 => (match lcLoop t1 gt1 ge (wipeD r1 vs1) es st2 with
          | .ok ys st3 => (match lcLoop2 t gt gi1 t1 gt1 ge vs1 r0 ds st3 with
            | .ok zs st4 => .ok (ys ++ zs) st4
            | .err _ _ _ => .bad
            | .bad => .bad)
          | .err _ _ _ => .bad
          | .bad => .bad)
        | .err _ _ _ => .bad
        | .bad => .bad)
      | .ok false st1 => lcLoop2 t gt gi1 t1 gt1 ge vs1 r0 ds st1
      | .err _ _ _ => .bad
      | .bad => .bad
def gLc2 (c : Bool) (vs vs1 : List Nat) (gi : GA) (t : D → En → Option En) (gt : GT) (gi1 : GA) (t1 : D → En → Option En) (gt1 : GT) (ge : G) : G := fun r st => match gi r st with
  | .ok ds st1 => gMk c (lcLoop2 t gt gi1 t1 gt1 ge vs1 (wipeD r vs) ds st1)
  | .err c fs s => .err c fs s
  | .bad => .bad
theorem tLc2_ok {K : PySem.W.Frag} {mg : Str → Option Value} {c : Bool} {vs vs1 : List Nat} {g g1 : TG} {t t1 : D → En → Option En} (hg : TgB K vs g t) (hg1 : TgB K vs1 g1 t1) {σ : L2.St} {H : Hp} {Q : VK} (h : tE K mg W (gLc2 c vs vs1 gi t gt gi1 t1 gt1 ge) σ H Q) :
    tLc2 (tI K mg W gi) g (tT K mg W0 gt) (tI K mg W0 gi1) g1 (tT K mg W0 gt1) (tE K mg W0 ge) vs vs1 σ H Q := by
  obtain ⟨m, r, st, E, s, q⟩ := h
  unfold gLc2 at q
  refine ⟨m, r, st, E, s, ?_⟩
  cases ea : gi r st with
  | bad => rw [ea] at q; exact q
  | err c fs st1 => rw [ea] at q; exact q
  | ok ds st1 =>
    rw [ea] at q
    dsimp only at q
    intro J m1 H1 g1' it s1 A hA
    cases el : lcLoop2 t gt gi1 t1 gt1 ge vs1 (wipeD r vs) ds st1 with
    | bad => rw [el] at q; exact q.elim
    | err c fs st1 => rw [el] at q; exact q.elim
    | ok ys0 st0 =>
    rw [el] at q
    unfold gMk at q
    dsimp only at q
    cases en : nl c ys0 st0 with
    | bad => rw [en] at q; exact q.elim
    | err c' fs st1 =>
      unfold nl at en
      split at en
      · split at en <;> cases en
      · cases en
    | ok d stF =>
    rw [en] at q
    dsimp only at q
    have hlen := nl_len en
    have E1 := (E.mono g1' s).wipe vs
    have k0 : Mk K m1 H1 A [(L2.wipe σ vs, wipeD r vs)] ⟨m1.l, A :: m1.h, m1.t⟩ (upd H1 A (.lst [])) st1 [] := Mk.start s1 (fun e he => by
      have z : e = (L2.wipe σ vs, wipeD r vs) := by simpa using he
      rw [z]
      exact E1) hA
    refine ⟨fun i k H => k = ds.length - i ∧ i ≤ ds.length ∧ ∃ m st done ys, Mk K m1 H1 A [(L2.wipe σ vs, wipeD r vs)] m H st done ∧ done ++ ys = ys0 ∧ lcLoop2 t gt gi1 t1 gt1 ge vs1 (wipeD r vs) (ds.drop i) st = .ok ys st0,
      ⟨_, rfl, Nat.zero_le _, _, st1, [], ys0, k0, rfl, el⟩, ?_⟩
    rintro i k H2 ⟨rfl, hi2, m2, st2, done, ys, k2, ey, e2⟩
    by_cases hlt : i < ds.length
    · refine Or.inr ⟨it.go i m2 H2 st2 k2.g.w k2.so hlt, fun H' => ∃ m st done ys, Mk K m1 H1 A [(L2.wipe σ vs, wipeD r vs)] m H' st done ∧ done ++ ys = ys0 ∧ lcLoop2 t gt gi1 t1 gt1 ge vs1 (wipeD r vs) (ds.drop (i + 1)) st = .ok ys st0,
        fun H' z => ⟨_, by omega, rfl, hlt, z⟩, fun x H' y => ?_⟩
      rw [List.drop_eq_getElem_cons hlt] at e2
      obtain ⟨g3, r3, s3⟩ := it.yld i m2 H2 st2 x H' ds[i] k2.g.w k2.so (List.getElem?_eq_getElem hlt) y
      have k3 := k2.on g3 s3
      unfold lcLoop2 at e2
      cases et : t ds[i] (wipeD r vs) with
      | none => rw [et] at e2; cases e2
      | some r4 =>
      rw [et] at e2
      dsimp only at e2
      refine hg m2 H' ds[i] x _ r4 _ _ r3 (k3.eo _ (List.mem_cons_self ..)) et fun σ3 E3 hv => ⟨hv.trans (wipe_none fun _ h => h), m2, r4, st2, E3, s3, ?_⟩
      cases eb : gt r4 st2 with
      | bad => rw [eb] at e2; cases e2
      | err c fs st5 => rw [eb] at e2; cases e2
      | ok b st5 =>
      rw [eb] at e2
      dsimp only
      intro m4 H4 g4 s4
      have k4 := k3.on g4 s4
      cases b with
      | false => exact ⟨m4, st5, done, ys, k4, ey, e2⟩
      | true =>
      dsimp only at e2
      refine ⟨m4, r4, st5, E3.mono g4 s3, s4, ?_⟩
      cases ec : gi1 r4 st5 with
      | bad => rw [ec] at e2; cases e2
      | err c fs st6 => rw [ec] at e2; cases e2
      | ok es st6 =>
      rw [ec] at e2
      dsimp only at e2 ⊢
      intro J1 m5 H5 g5 it1 s5
      have k5 := (k4.on g5 s5).push (((E3.mono g4 s3).mono g5 s4).wipe vs1)
      cases ed : lcLoop t1 gt1 ge (wipeD r4 vs1) es st6 with
      | bad => rw [ed] at e2; cases e2
      | err c fs st6 => rw [ed] at e2; cases e2
      | ok ys2 st7 =>
      rw [ed] at e2
      dsimp only at e2
      cases ef : lcLoop2 t gt gi1 t1 gt1 ge vs1 (wipeD r vs) (ds.drop (i + 1)) st7 with
      | bad => rw [ef] at e2; cases e2
      | err c fs st6 => rw [ef] at e2; cases e2
      | ok zs st8 =>
      rw [ef] at e2
      cases e2
      obtain ⟨Wv, w0, turn⟩ := lc_walk (mg := mg) (ge := ge) (gt := gt1) hA hg1 (wipe_none fun _ h => h) it1 k5 ed (by
        rw [← ey, List.length_append, List.length_append] at hlen
        rw [List.length_append]
        omega)
      exact ⟨Wv, w0, fun j k H w => (turn j k H w).imp (fun ⟨z1, m6, z2⟩ => ⟨z1, m6, st7, done ++ ys2, zs, z2.pop, by rw [← ey, List.append_assoc], ef⟩) fun z => z⟩
    · rw [List.drop_eq_nil_of_le (by omega)] at e2
      unfold lcLoop2 at e2
      cases e2
      rw [List.append_nil] at ey
      subst ey
      exact Or.inl ⟨it.stop i m2 H2 _ k2.g.w k2.so (by omega), k2.fin hA s1 en fun v m' H' g' => q v m' H' (g1'.trans g')⟩
/-! ### the rules -/
section
variable {scope : Scope} {own : List (Str × Nat)} {pos spos : Pos} {g g1 : TG} {t t1 : D → En → Option En}
theorem dlc (c : Bool) (own : List (Str × Nat)) (hc : X.calm = true) (hN : X.N.Nodup) (hi : DI X W tg iter gi) (ok : BlkOk X.N X.env.scope scope own) (hT : TgB X.K (own.map (·.2)) g t)
    (hg : ∀ (s : Shared) (H : Hp) (C : Addr) (cl : List (Str × Addr)) (fp : List Addr), PG (X.blk s H scope (compEnvC scope cl C X.env) fp) tg g) (ht : ∀ (s : Shared) (H : Hp) (C : Addr) (cl : List (Str × Addr)) (fp : List Addr), DTs (X.blk s H scope (compEnvC scope cl C X.env) fp) W0 ifs gt)
    (he : ∀ (s : Shared) (H : Hp) (C : Addr) (cl : List (Str × Addr)) (fp : List Addr), DE (X.blk s H scope (compEnvC scope cl C X.env) fp) W0 elt ge) (hs : ∀ x, foldedSetIterable iter X.env x = pure x := by intro _; rfl) :
    DE X W (.ListComp elt [⟨tg, iter, ifs, 0⟩] scope pos) (gLc c (own.map (·.2)) gi t gt ge) :=
  PE.imp (pe_lc hc hN hi ok hg ht he hs) fun σ H Q h => tLc_ok hT h
theorem ds_asglc (c : Bool) (i : Nat) {y : Str} {py : Pos} (own : List (Str × Nat)) (hc : X.calm = true) (hN : X.N.Nodup) (hi : DI X W tg iter gi) (ok : BlkOk X.N X.env.scope scope own) (hT : TgB X.K (own.map (·.2)) g t)
    (hg : ∀ (s : Shared) (H : Hp) (C : Addr) (cl : List (Str × Addr)) (fp : List Addr), PG (X.blk s H scope (compEnvC scope cl C X.env) fp) tg g) (ht : ∀ (s : Shared) (H : Hp) (C : Addr) (cl : List (Str × Addr)) (fp : List Addr), DTs (X.blk s H scope (compEnvC scope cl C X.env) fp) W0 ifs gt)
    (he : ∀ (s : Shared) (H : Hp) (C : Addr) (cl : List (Str × Addr)) (fp : List Addr), DE (X.blk s H scope (compEnvC scope cl C X.env) fp) W0 elt ge) (hy : X.N[i]? = some y := by rfl) (hyl : X.env.scope.names.lookup y = some .local := by rfl)
    (hsw : swapsWith (.ListComp elt [⟨tg, iter, ifs, 0⟩] scope pos) (some (.Name y py)) spos.line X.env = pure true := by exact sw_true rfl rfl rfl (by decide +kernel)) (hs : ∀ x, foldedSetIterable iter X.env x = pure x := by intro _; rfl) :
    DS X W (.Assign [.Name y py] (.ListComp elt [⟨tg, iter, ifs, 0⟩] scope pos) spos) (sAsg i (gLc c (own.map (·.2)) gi t gt ge)) :=
  PS.imp (ps_setLc hc hN hy hyl hsw hi ok hg ht he hs) fun Z σ H h => tLc_ok hT (tS_E h fun d v m1 H1 r st1 E s rv q => q _ m1 H1 Gr.refl (E.set rv i) s)
theorem dlc2 (c : Bool) (own : List (Str × Nat)) (vs1 : List Nat) (hc : X.calm = true) (hN : X.N.Nodup) (hi : DI X W tg iter gi) (ok : BlkOk X.N X.env.scope scope own) (hv : ∀ i ∈ vs1, i ∈ own.map (·.2)) (hT : TgB X.K (own.map (·.2)) g t) (hT1 : TgB X.K vs1 g1 t1)
    (hg : ∀ (s : Shared) (H : Hp) (C : Addr) (cl : List (Str × Addr)) (fp : List Addr), PG (X.blk s H scope (compEnvC scope cl C X.env) fp) tg g) (ht : ∀ (s : Shared) (H : Hp) (C : Addr) (cl : List (Str × Addr)) (fp : List Addr), DTs (X.blk s H scope (compEnvC scope cl C X.env) fp) W0 ifs gt)
    (hi1 : ∀ (s : Shared) (H : Hp) (C : Addr) (cl : List (Str × Addr)) (fp : List Addr), DI (X.blk s H scope (compEnvC scope cl C X.env) fp) W0 tg1 iter1 gi1)
    (hg1 : ∀ (s : Shared) (H : Hp) (C : Addr) (cl : List (Str × Addr)) (fp : List Addr), PG (X.blk s H scope (compEnvC scope cl C X.env) fp) tg1 g1) (ht1 : ∀ (s : Shared) (H : Hp) (C : Addr) (cl : List (Str × Addr)) (fp : List Addr), DTs (X.blk s H scope (compEnvC scope cl C X.env) fp) W0 ifs1 gt1)
    (he : ∀ (s : Shared) (H : Hp) (C : Addr) (cl : List (Str × Addr)) (fp : List Addr), DE (X.blk s H scope (compEnvC scope cl C X.env) fp) W0 elt ge) (hs : ∀ x, foldedSetIterable iter X.env x = pure x := by intro _; rfl) (hs1 : ∀ env x, foldedSetIterable iter1 env x = pure x := by intro _ _; rfl) :
    DE X W (.ListComp elt [⟨tg, iter, ifs, 0⟩, ⟨tg1, iter1, ifs1, 0⟩] scope pos) (gLc2 c (own.map (·.2)) vs1 gi t gt gi1 t1 gt1 ge) :=
  PE.imp (pe_lc2 hc hN hi ok hv hg ht hi1 hg1 ht1 he hs hs1) fun σ H Q h => tLc2_ok hT hT1 h
theorem ds_asglc2 (c : Bool) (i : Nat) {y : Str} {py : Pos} (own : List (Str × Nat)) (vs1 : List Nat) (hc : X.calm = true) (hN : X.N.Nodup) (hi : DI X W tg iter gi) (ok : BlkOk X.N X.env.scope scope own) (hv : ∀ i ∈ vs1, i ∈ own.map (·.2)) (hT : TgB X.K (own.map (·.2)) g t) (hT1 : TgB X.K vs1 g1 t1)
    (hg : ∀ (s : Shared) (H : Hp) (C : Addr) (cl : List (Str × Addr)) (fp : List Addr), PG (X.blk s H scope (compEnvC scope cl C X.env) fp) tg g) (ht : ∀ (s : Shared) (H : Hp) (C : Addr) (cl : List (Str × Addr)) (fp : List Addr), DTs (X.blk s H scope (compEnvC scope cl C X.env) fp) W0 ifs gt)
    (hi1 : ∀ (s : Shared) (H : Hp) (C : Addr) (cl : List (Str × Addr)) (fp : List Addr), DI (X.blk s H scope (compEnvC scope cl C X.env) fp) W0 tg1 iter1 gi1)
    (hg1 : ∀ (s : Shared) (H : Hp) (C : Addr) (cl : List (Str × Addr)) (fp : List Addr), PG (X.blk s H scope (compEnvC scope cl C X.env) fp) tg1 g1) (ht1 : ∀ (s : Shared) (H : Hp) (C : Addr) (cl : List (Str × Addr)) (fp : List Addr), DTs (X.blk s H scope (compEnvC scope cl C X.env) fp) W0 ifs1 gt1)
    (he : ∀ (s : Shared) (H : Hp) (C : Addr) (cl : List (Str × Addr)) (fp : List Addr), DE (X.blk s H scope (compEnvC scope cl C X.env) fp) W0 elt ge) (hy : X.N[i]? = some y := by rfl) (hyl : X.env.scope.names.lookup y = some .local := by rfl)
    (hsw : swapsWith (.ListComp elt [⟨tg, iter, ifs, 0⟩, ⟨tg1, iter1, ifs1, 0⟩] scope pos) (some (.Name y py)) spos.line X.env = pure true := by exact sw_true rfl rfl rfl (by decide +kernel)) (hs : ∀ x, foldedSetIterable iter X.env x = pure x := by intro _; rfl) (hs1 : ∀ env x, foldedSetIterable iter1 env x = pure x := by intro _ _; rfl) :
    DS X W (.Assign [.Name y py] (.ListComp elt [⟨tg, iter, ifs, 0⟩, ⟨tg1, iter1, ifs1, 0⟩] scope pos) spos) (sAsg i (gLc2 c (own.map (·.2)) vs1 gi t gt gi1 t1 gt1 ge)) :=
  PS.imp (ps_setLc2 hc hN hy hyl hsw hi ok hv hg ht hi1 hg1 ht1 he hs hs1) fun Z σ H h => tLc2_ok hT hT1 (tS_E h fun d v m1 H1 r st1 E s rv q => q _ m1 H1 Gr.refl (E.set rv i) s)
end
end
end Sv
set_option Elab.async false
set_option linter.all false
set_option maxRecDepth 100000
set_option maxHeartbeats 4000000
namespace Sv
open PySem PySem.Spec PyProof.Rows L2
/-! ### a def -/
def startD (N : List Str) (ds : List D) : En := ds.map some ++ List.replicate (N.length - ds.length) none
def fnF (N : List Str) (g : GS) : List D → S → R D := fun ds st => match g (startD N ds) st with
  | .nx _ st' => .ok .non st'
  | .rt d st' => .ok d st'
  | .err c fs _ st' => .err c fs st'
  | .bk _ _ => .bad
  | .ct _ _ => .bad
  | .bad => .bad
theorem EO.start {K : PySem.W.Frag} {m : Ms} {H : Hp} {N : List Str} {ds : List D} {vs : List V} (r : Reps K m H ds vs) : EO K m H (L2.start N vs) (startD N ds) := by
  have l := Reps.len r
  refine ⟨by unfold L2.start startD; simp [l], fun i d e => ?_⟩
  unfold startD at e
  unfold L2.start
  by_cases hi : i < ds.length
  · rw [List.getElem?_append_left (by simpa using hi), List.getElem?_map] at e
    cases z : ds[i]? with
    | none => rw [z] at e; cases e
    | some d' =>
      rw [z] at e
      cases e
      obtain ⟨v, h1, h2⟩ := Reps.get r z
      exact ⟨v, by rw [List.getElem?_append_left (by simp [l]; exact hi), List.getElem?_map, h1]; rfl, h2⟩
  · rw [List.getElem?_append_right (by simpa using hi)] at e
    by_cases hj : i - (ds.map some).length < N.length - ds.length
    · rw [List.getElem?_replicate_of_lt hj] at e
      cases e
    · rw [List.getElem?_eq_none (by rw [List.length_replicate]; omega)] at e
      cases e
section
variable {P : Program} {w : World} {K : PySem.W.Frag} {mg : Str → Option Value} {base : Heap}
abbrev WF (E : XK) : WX := fun cls d _ H => E cls d H
/-- a def keeps what its body says -/
theorem fok {x qual : Str} {st : Stmt} {f : Addr} {fd : FuncData} {N ps : List Str} {k : Nat} {gs : GS} (F : Fun K x qual st f fd) (S : FnScope N ps (defScope st))
    (h : ∀ (cdv : Value) (A : Around) (outer : List Env) (s : Shared) (H : Hp) (E : XK), Room k (A.deeper (envOfC qual (defScope st) s.heap.objs.size f cdv)) →
      DB (cxOf (L2.CX P w) P w K mg base N qual (defScope st) f cdv A outer s H E) (WF E) (defBody st) gs) : Fok P w K mg base (k + 1) f fd ps (fnF N gs) := by
  refine F.okX S (fun vs H Q E h => h.1) fun cdv A outer s H vs Q E hr hsp => ⟨_, h cdv A outer s H E hr, ?_⟩
  obtain ⟨hn, m, ds, st, rv, so, q⟩ := hsp
  refine ⟨m, startD N ds, st, EO.start rv, so, ?_⟩
  unfold fnF at q
  cases e : gs (startD N ds) st with
  | bad => rw [e] at q; exact q.elim
  | bk r' st' => rw [e] at q; exact q.elim
  | ct r' st' => rw [e] at q; exact q.elim
  | nx r' st' =>
    rw [e] at q
    exact fun σ' m' H' g _ s' => q .non m' H' g rfl s'
  | rt d st' =>
    rw [e] at q
    exact q
  | err c fs r' st' =>
    rw [e] at q
    exact fun cls d _ m' H' g er _ s' => q cls d m' H' g er s'
end
/-- within a def's body: what it lets out -/
theorem tkF {P : Program} {w : World} {K : PySem.W.Frag} {mg : Str → Option Value} {base : Heap} {N : List Str} {qual : Str} {scope : Scope} {f : Addr} {cd : Value} {A : Around} {outer : List Env} {s : Shared} {H : Hp} {E : XK} :
    Takes (cxOf (L2.CX P w) P w K mg base N qual scope f cd A outer s H E) (WF E) := takes_of rfl rfl rfl rfl
theorem ppF {P : Program} {w : World} {K : PySem.W.Frag} {mg : Str → Option Value} {base : Heap} {N : List Str} {qual : Str} {scope : Scope} {f : Addr} {cd : Value} {A : Around} {outer : List Env} {s : Shared} {H : Hp} {E : XK} :
    PassesOwn (model P w) (cxOf (L2.CX P w) P w K mg base N qual scope f cd A outer s H E).A (cxOf (L2.CX P w) P w K mg base N qual scope f cd A outer s H E).env (cxOf (L2.CX P w) P w K mg base N qual scope f cd A outer s H E).xe := passes_of rfl
/-! ### an own exception with two fields, raised -/
section
variable {K : PySem.W.Frag} {m : Ms} {H H' : Hp} {st : S}
theorem Gr.ext (h : ∀ b o, H b = some o → H' b = some o) : Gr m H m H' := ⟨⟨[], by simp, by simp⟩, ⟨[], rfl, by simp⟩, rfl, fun a o e _ _ => h a o e, fun a o e => ⟨o, h a o e⟩⟩
theorem SO.ext (s : SO K m H st) (h : ∀ b o, H b = some o → H' b = some o) : SO K m H' st := by
  refine ⟨s.len, s.nd, s.dis, fun a ha => ?_, s.tabN fun a ps q => h _ _ q, s.need, fun l a ds e1 e2 => ?_⟩
  · obtain ⟨vs, q⟩ := s.hid a ha
    exact ⟨vs, h _ _ q⟩
  · obtain ⟨vs, q1, q2⟩ := s.lst l a ds e1 e2
    exact ⟨vs, h _ _ q1, Reps.mono (Gr.ext h) s q2⟩
end
/-- what __init__ of such a class promises -/
def spIni (C : Addr) (f1 f2 : Str) : Sp := fun vs H Q _ => ∃ (a : Addr) (v1 v2 : V), vs = [.ref a, v1, v2] ∧ H a = some (exo a C none) ∧
  ∀ dx, H dx = none → dx ≠ a → Q .non (upd (upd (upd H dx (exd dx [(f1, v1)])) a (exo a C (some dx))) dx (exd dx [(f2, v2), (f1, v1)]))
/-- what the written part says of such a class at C, its __init__ at fI, named x -/
structure XcC (K : PySem.W.Frag) (mg : Str → Option Value) (x : Str) (C fI : Addr) : Prop where
  ox : OexC K C
  xf : XfC K C
  mg : mg x = some (.ref C)
  iC : PySem.W.findIn K (.ref C) "__init__" = some (some (.ref fI))
  tI : PySem.W.typeIn K (.ref fI) = some (.type "function")
  te : PySem.W.exmOne K (.ref C) (.ref C) = some true
def iniB2 (f1 f2 : Str) (p1 p2 p3 p4 q1 q2 q3 q4 : Pos) (self a b : Str) : List Stmt := [.Assign [.Attribute (.Name self p1) f1 p2] (.Name a p3) p4, .Assign [.Attribute (.Name self q1) f2 q2] (.Name b q3) q4]
section
variable {P : Program} {w : World} {K : PySem.W.Frag} {mg : Str → Option Value} {base : Heap}
theorem ini_ok {x qual : Str} {st : Stmt} {C f : Addr} {fd : FuncData} {N : List Str} {k : Nat} {f1 f2 self a b : Str} {p1 p2 p3 p4 q1 q2 q3 q4 : Pos} (hN : N = [self, a, b]) (T : OexC K C) (n1 : PySem.W.findIn K (.ref C) f1 = some none) (n2 : PySem.W.findIn K (.ref C) f2 = some none) (F : Fun K x qual st f fd) (S : FnScope N N (defScope st))
    (hb : defBody st = iniB2 f1 f2 p1 p2 p3 p4 q1 q2 q3 q4 self a b)
    (h0 : Vis (defScope st) self := by first | exact Or.inl rfl | exact Or.inr (Or.inl rfl) | exact Or.inr (Or.inr rfl)) (h1 : Vis (defScope st) a := by first | exact Or.inl rfl | exact Or.inr (Or.inl rfl) | exact Or.inr (Or.inr rfl)) (h2 : Vis (defScope st) b := by first | exact Or.inl rfl | exact Or.inr (Or.inl rfl) | exact Or.inr (Or.inr rfl))
    (d0 : (self == ("__debug__" : Str)) = false := by decide) (d1 : (a == ("__debug__" : Str)) = false := by decide) (d2 : (b == ("__debug__" : Str)) = false := by decide) (e0 : (self == ("__classdict__" : Str)) = false := by decide) (e1 : (a == ("__classdict__" : Str)) = false := by decide) (e2 : (b == ("__classdict__" : Str)) = false := by decide)
    (s1 : ∀ env : Env, env.scope = defScope st → swapsWith (.Name a p3) (some (.Attribute (.Name self p1) f1 p2)) p4.line env = pure false := by intro env h; rfl) (s2 : ∀ env : Env, env.scope = defScope st → swapsWith (.Name b q3) (some (.Attribute (.Name self q1) f2 q2)) q4.line env = pure false := by intro env h; rfl) :
    FnOk P w K mg base (L2.CX P w) (k + 1) f fd N (spIni C f1 f2) := by
  subst hN
  refine F.okX S (fun vs H Q E h => ?_) fun cdv A outer s H vs Q E hr hsp => ⟨_, by
    rw [hb]
    exact pss_cons (ps_ost (pv 0 rfl h0 d0 e0) (pv 1 rfl h1 d1 e1) (s1 _ rfl)) (pss_one (ps_ost (pv 0 rfl h0 d0 e0) (pv 2 rfl h2 d2 e2) (s2 _ rfl))), ?_⟩
  · obtain ⟨a, v1, v2, rfl, _⟩ := h
    rfl
  · obtain ⟨a, v1, v2, rfl, ha, q⟩ := hsp
    refine ⟨v1, rfl, .ref a, rfl, a, C, rfl, T, n1, Or.inl ⟨ha, fun dx hd hne => ?_⟩⟩
    refine ⟨v2, rfl, .ref a, rfl, a, C, rfl, T, n2, Or.inr ⟨dx, [(f1, v1)], upd_same, ?_, by show 1 ≤ 900; omega, q dx hd hne⟩⟩
    rw [upd_ne hne]
    exact upd_same
end
section
variable {X : Cx} {W : WX} {a b c e : Expr} {es : List Expr} {pos pos2 p2 p : Pos} {gr : GA} {gs : GS}
def sRaise2 (c f1 f2 : Str) (gr : GA) : GS := sA gr fun ds r st => match ds with
  | [x, y] => .err c [(f2, y), (f1, x)] r st
  | _ => .bad
theorem tS_A' {K : PySem.W.Frag} {mg : Str → Option Value} {Z : Ends} {σ : L2.St} {H : Hp} {k : List D → En → S → O} {R1 : List V → Hp → Prop} (h : tS K mg W (sA gr k) Z σ H)
    (hk : ∀ ds vs m1 H1 r st1, EO K m1 H1 σ r → SO K m1 H1 st1 → Reps K m1 H1 ds vs → SAns K mg W Z m1 H1 (k ds r st1) → R1 vs H1) : tA K mg W gr σ H R1 := tS_A h hk
theorem ds_raise2 {x f1 f2 : Str} {C fI : Addr} {k : Nat} {fd : FuncData} {ps : List Str} (hc : X.calm = true) (tk : Takes X W) (T : XcC X.K X.mg x C fI) (F1 : FnOk X.prog X.w X.K X.mg X.base (L2.CX X.prog X.w) k fI fd ps (spIni C f1 f2)) (hr : Room (k + 1) X.A) (hb : Binds X.K fd ps []) (ha : DA X W [a, b] gr) (hg : Gl X x := by rfl)
    (hdb : (x == ("__debug__" : Str)) = false := by decide) (he : starEach [a, b] X.env = (false, eval a X.env) :: starEach [b] X.env := by rfl) (hpl : (backTo pos (starEach [b] X.env)).any (·.1) = false := by rfl) :
    DS X W (.Raise (some (.Call (.Name x p) [a, b] [] pos)) none pos2) (sRaise2 x f1 f2 gr) :=
  PS.imp (ps_raise hc tk (pmk_oex T.ox T.iC T.tI F1 hr hb .nil (fun pins σ H s e s' I z => by
    obtain ⟨_, _, _, _, _, _, _, _, _, _, _, _, z⟩ := z
    exact z.elim) hg T.mg ha hdb he hpl)) fun Z σ H h => tS_A h fun ds vs m1 H1 r st1 E s rv q => by
    rcases ds with _ | ⟨d, _ | ⟨d2, _ | ⟨d3, t⟩⟩⟩
    · exact q.elim
    · exact q.elim
    · obtain ⟨v, u, ev, r1, r2⟩ := rep2 rv
      subst ev
      refine ⟨by simp, fun ad had => ⟨ad, v, u, rfl, upd_same, fun dx hd hne => ⟨rfl, dx, [(f2, u), (f1, v)], ?_, upd_same, ?_, ?_⟩⟩⟩
      · rw [upd_ne hne.symm]
        exact upd_same
      · rw [upd_ne hne] at hd
        exact hd
      · have hd' : H1 dx = none := by
          rw [upd_ne hne] at hd
          exact hd
        have ext : ∀ b o, H1 b = some o → (upd (del (upd (upd (upd (upd H1 ad (exo ad C none)) dx (exd dx [(f1, v)])) ad (exo ad C (some dx))) dx (exd dx [(f2, u), (f1, v)])) ad) dx (.xd [(f2, u), (f1, v)])) b = some o := fun b o hb => by
          have n1 : b ≠ dx := ne_of_none hb hd'
          have n2 : b ≠ ad := ne_of_none hb had
          rw [upd_ne n1, del_ne n2, upd_ne n1, upd_ne n2, upd_ne n1, upd_ne n2]
          exact hb
        refine q _ _ σ m1 _ (Gr.ext ext) ⟨C, dx, [(f2, u), (f1, v)], T.mg, rfl, rfl, upd_same, rfl, ?_⟩ (E.mono (Gr.ext ext) s) (s.ext ext)
        exact ⟨u, [v], rfl, Rep.mono (Gr.ext ext) s r2, v, [], rfl, Rep.mono (Gr.ext ext) s r1, rfl⟩
    · exact q.elim
/-! ### try: body, except x as n: return (n.f, .., constants) -/
/-- what is handed back of a caught exception -/
inductive XA where
  | fld (f : Str)
  | con (d : D)
def xaVal (fs : List (Str × D)) : XA → Option D
  | .fld f => fs.lookup f
  | .con d => some d
def xaVals (fs : List (Str × D)) : List XA → Option (List D)
  | [] => some []
  | x :: xs => match xaVal fs x, xaVals fs xs with
    | some d, some ds => some (d :: ds)
    | _, _ => none
/-- the caught exception's fields, within the suite -/
structure Cau (K : PySem.W.Frag) (i : Nat) (a C : Addr) (cls : Value) (d : Option Addr) (fs : List (Str × D)) (m : Ms) (σ : L2.St) (H : Hp) : Prop where
  cls : cls = .ref C
  var : σ[i]? = some (some (.ref a))
  fld : ∃ (dx : Addr) (ws : List (Str × V)), d = some dx ∧ H dx = some (.xd ws) ∧ ws.map (·.1) = fs.map (·.1) ∧ Reps K m H (fs.map (·.2)) (ws.map (·.2))
theorem lookup_reps {K : PySem.W.Frag} {m : Ms} {H : Hp} {f : Str} {d : D} : ∀ {fs : List (Str × D)} {ws : List (Str × V)}, ws.map (·.1) = fs.map (·.1) → Reps K m H (fs.map (·.2)) (ws.map (·.2)) → fs.lookup f = some d → ∃ v, ws.lookup f = some v ∧ Rep K m H d v
  | [], _, _, _, e => by cases e
  | (g, d') :: fs, [], h, _, _ => by cases h
  | (g, d') :: fs, (g', w) :: ws, h, r, e => by
    have h1 : g' = g := (List.cons.inj h).1
    have h2 : ws.map (·.1) = fs.map (·.1) := (List.cons.inj h).2
    obtain ⟨v, t, ev, r1, r2⟩ := r
    have e1 : w = v := (List.cons.inj ev).1
    have e2 : ws.map (·.2) = t := (List.cons.inj ev).2
    subst h1 e1 e2
    by_cases hg : f = g'
    · subst hg
      simp only [List.lookup, beq_self_eq_true] at e ⊢
      cases e
      exact ⟨w, rfl, r1⟩
    · have hb : (f == g') = false := by simpa using hg
      simp only [List.lookup, hb] at e ⊢
      exact lookup_reps h2 r2 e
def tXas (K : PySem.W.Frag) (i : Nat) (a C : Addr) (cls : Value) (d : Option Addr) (xs : List XA) : TA := fun σ H Q => ∃ m fs ds, Cau K i a C cls d fs m σ H ∧ xaVals fs xs = some ds ∧ ∀ vs, Reps K m H ds vs → Q vs H
/-- the tuple's parts -/
def PXas (X : Cx) (i : Nat) (C : Addr) (es : List Expr) (xs : List XA) : Prop := ∀ (a : Addr) (oe : Obj) (cls : Value) (d : Option Addr) (pn : List (Addr × Obj)), Zc cls d oe → (∃ vs, oe.data = .fields vs) → PA (X.suite a ((a, oe) :: pn)) es (tXas X.K i a C cls d xs)
theorem px_nil {i : Nat} {C : Addr} : PXas X i C [] [] := fun a oe cls d pn hz hf => PA.imp pa_nil fun σ H Q q => by
  obtain ⟨m, fs, ds, k, e, q⟩ := q
  cases e
  exact q [] rfl
theorem px_fld (i : Nat) {C : Addr} {n f : Str} {p1 p2 : Pos} {xs : List XA} (T : XfC X.K C) (hno : PySem.W.findIn X.K (.ref C) f = some none) (h : PXas X i C es xs) (hN : X.N[i]? = some n := by rfl) (hv : Vis X.env.scope n := by first | exact Or.inl rfl | exact Or.inr (Or.inl rfl) | exact Or.inr (Or.inr rfl))
    (hd : (n == ("__debug__" : Str)) = false := by decide) (hcd : (n == ("__classdict__" : Str)) = false := by decide) (hb : attributeBase (.Name n p1) f X.env (eval (.Name n p1) X.env) = eval (.Name n p1) X.env := by rfl)
    (hs : starEach (.Attribute (.Name n p1) f p2 :: es) X.env = (false, eval (.Attribute (.Name n p1) f p2) X.env) :: starEach es X.env := by rfl) : PXas X i C (.Attribute (.Name n p1) f p2 :: es) (.fld f :: xs) := fun a oe cls d pn hz hf =>
  PA.imp (pa_cons (pe_xf T hno hz hf (pe_var (X := X.suite a ((a, oe) :: pn)) hN hv hd hcd) hb) (h a oe cls d pn hz hf) hs) fun σ H Q q => by
    obtain ⟨m, fs, ds, k, e, q⟩ := q
    obtain ⟨dx, ws, ed, hx, hn, hr⟩ := k.fld
    have e0 : (match fs.lookup f, xaVals fs xs with
      | some d, some ds => some (d :: ds)
      | _, _ => none) = some ds := e
    cases e1 : fs.lookup f with
    | none => rw [e1] at e0; cases e0
    | some d1 =>
      cases e2 : xaVals fs xs with
      | none => rw [e1, e2] at e0; cases e0
      | some d2 =>
        rw [e1, e2] at e0
        cases e0
        obtain ⟨v, hl, rv⟩ := lookup_reps hn hr e1
        exact ⟨.ref a, k.var, rfl, k.cls, dx, ws, v, ed, hx, hl, m, fs, d2, k, e2, fun vs r => q (v :: vs) ⟨v, vs, rfl, rv, r⟩⟩
theorem px_con {i : Nat} {C : Addr} {v : V} {d0 : D} {xs : List XA} (hp : ∀ Y : Cx, PE Y e (tC v)) (hr : ∀ K m H, Rep K m H d0 v) (h : PXas X i C es xs)
    (hs : starEach (e :: es) X.env = (false, eval e X.env) :: starEach es X.env := by rfl) : PXas X i C (e :: es) (.con d0 :: xs) := fun a oe cls d pn hz hf =>
  PA.imp (pa_cons (hp (X.suite a ((a, oe) :: pn))) (h a oe cls d pn hz hf) hs) fun σ H Q q => by
    obtain ⟨m, fs, ds, k, e, q⟩ := q
    have e0 : (match some d0, xaVals fs xs with
      | some d, some ds => some (d :: ds)
      | _, _ => none) = some ds := e
    cases e2 : xaVals fs xs with
    | none => rw [e2] at e0; cases e0
    | some d2 =>
      rw [e2] at e0
      cases e0
      exact ⟨m, fs, d2, k, e2, fun vs r => q (v :: vs) ⟨v, vs, rfl, hr _ _ _, r⟩⟩
theorem px_str {i : Nat} {C : Addr} {x : Str} {j : Nat} {pp : Pos} {xs : List XA} (h : PXas X i C es xs)
    (hs : starEach (.Constant (.str x) j pp :: es) X.env = (false, eval (.Constant (.str x) j pp) X.env) :: starEach es X.env := by rfl) : PXas X i C (.Constant (.str x) j pp :: es) (.con (.str x) :: xs) := px_con (fun Y => pe_str) (fun _ _ _ => rfl) h hs
theorem px_int {i : Nat} {C : Addr} {x : Int} {j : Nat} {pp : Pos} {xs : List XA} (h : PXas X i C es xs)
    (hs : starEach (.Constant (.int x) j pp :: es) X.env = (false, eval (.Constant (.int x) j pp) X.env) :: starEach es X.env := by rfl) : PXas X i C (.Constant (.int x) j pp :: es) (.con (.int x) :: xs) := px_con (fun Y => pe_int) (fun _ _ _ => rfl) h hs
def sTry (i : Nat) (c : Str) (gb : GS) (xs : List XA) : GS := fun r st => match gb r st with
  | .err c' fs r' st' => if c' = c ∧ i < r'.length ∧ xs.length ≤ 100000 then (match xaVals fs xs with
    | some ds => .rt (.tup ds) st'
    | none => .bad) else .bad
  | o => o
theorem xaVals_len {fs : List (Str × D)} : ∀ {xs : List XA} {ds : List D}, xaVals fs xs = some ds → ds.length = xs.length
  | [], ds, e => by
    cases e
    rfl
  | x :: xs, ds, e => by
    have e0 : (match xaVal fs x, xaVals fs xs with
      | some d, some ds => some (d :: ds)
      | _, _ => none) = some ds := e
    cases e1 : xaVal fs x with
    | none => rw [e1] at e0; cases e0
    | some d1 =>
      cases e2 : xaVals fs xs with
      | none => rw [e1, e2] at e0; cases e0
      | some d2 =>
        rw [e1, e2] at e0
        cases e0
        rw [List.length_cons, List.length_cons, xaVals_len e2]
theorem ds_try (i : Nat) {x n : Str} {C fI : Addr} {body : List Stmt} {np pos pos' rp tp : Pos} {x1} {xs : List XA} (hs : X.stack = X.env :: X.outer) (hf : X.env.frame = some X.env.locals) (hN : X.N.Nodup) (T : XcC X.K X.mg x C fI)
    (hb : ∀ (W : WX) (pn : List (Addr × Obj)) (xe : Value → Shared → Prop), Takes (X.tr pn xe) W → PassesOwn (model X.prog X.w) X.A X.env xe → DB (X.tr pn xe) W body gs)
    (hx : PXas X i C es xs) (hi : X.N[i]? = some n := by rfl) (hln : X.env.kindOf n = some .local := by rfl) (hg : Gl X x := by rfl) (hdb : (x == ("__debug__" : Str)) = false := by decide) :
    DS X W (.Try body [.ExceptHandler (some (.Name x np)) (some n) [.Return (some (.Tuple es x1 tp)) rp] pos'] [] [] pos) (sTry i x gs xs) := by
  have tk : Takes X fun cls d σ H => False := fun u s' z => by
    obtain ⟨_, _, _, _, _, _, _, _, _, _, _, _, _, _, _, _, z⟩ := z
    exact z.elim
  refine PS.imp (ps_try_as (i := i) (tb := fun W => tS X.K X.mg W gs) hs hf hN hi hln (⟨hg, hdb, Or.inl T.mg⟩ : Names X x (.ref C)) tk hb fun a oe cls d pn hz hf => pss_one (ps_ret (pe_tup (hx a oe cls d pn hz hf)))) fun Z σ H h => ?_
  obtain ⟨m, r, st, E, s, q⟩ := h
  unfold sTry at q
  refine ⟨m, r, st, E, s, ?_⟩
  cases eb : gs r st with
  | err c' fs r' st' =>
    rw [eb] at q
    dsimp only at q
    by_cases hc : c' = x ∧ i < r'.length ∧ xs.length ≤ 100000
    · rw [if_pos hc] at q
      obtain ⟨hc, hir, hl⟩ := hc
      subst hc
      cases ev : xaVals fs xs with
      | none => rw [ev] at q; exact q.elim
      | some ds =>
        rw [ev] at q
        intro cls d σ' m' H' g er E' s'
        obtain ⟨C', dx, ws, h1, h2, h3, h4, h5, h6⟩ := er
        rw [T.mg] at h1
        cases h1
        subst h2
        refine ⟨true, T.te, fun _ a ha => ?_, fun z => by cases z⟩
        have hil : i < σ'.length := by
          rw [E'.len]
          exact hir
        refine ⟨m', fs, ds, ⟨rfl, by rw [List.getElem?_set_self hil], dx, ws, h3, h4, h5, h6⟩, ev, fun vs rv => ⟨?_, fun p hp => ?_⟩⟩
        · rw [Reps.len rv, xaVals_len ev]
          exact sz hl
        · exact newT s' rv hp fun w m2 H2 g2 r2 s2 => q w m2 H2 (g.trans g2) r2 s2
    · rw [if_neg hc] at q
      exact q.elim
  | _ => rw [eb] at q; exact q
end
end Sv
set_option Elab.async false
set_option linter.all false
set_option maxRecDepth 100000
set_option maxHeartbeats 4000000
namespace Sv
open PySem PySem.Spec PyProof.Rows L2
/-- a def of the text that keeps F -/
structure Pok (P : Program) (w : World) (K : PySem.W.Frag) (mg : Str → Option Value) (base : Heap) (k : Nat) (x : Str) (st : Stmt) (ps : List Str) (F : List D → S → R D) : Prop where
  ex : ∃ (f : Addr) (fd : FuncData), mg x = some (.ref f) ∧ PySem.W.keepIn K (.ref f) = true ∧ Fun K x x st f fd ∧ Binds K fd ps [] ∧ Fok P w K mg base k f fd ps F
/-- what the written part holds of a def -/
structure Dfn (K : PySem.W.Frag) (mg : Str → Option Value) (x : Str) (st : Stmt) : Prop where
  ex : ∃ (f : Addr) (fd : FuncData), mg x = some (.ref f) ∧ Fun K x x st f fd
/-- the params as they come by place: shown by rfl -/
def BindRfl (x : Str) (st : Stmt) (ps : List Str) : Prop := ∀ (kV doc pm : Value) (an : Option Addr) (cdv ct : Value) (us : List Value), us.length = ps.length → bindArgs (PySem.W.fnOf x x (defArgs st) (defBody st) (defScope st) .none kV doc pm an cdv ct) ⟨us, []⟩ = pure (ps.zip us)
def BindKw (x : Str) (st : Stmt) (ps ks : List Str) (ix : List Nat) : Prop := ∀ (kV doc pm : Value) (an : Option Addr) (cdv ct : Value) (us : List Value), us.length = ks.length → bindArgs (PySem.W.fnOf x x (defArgs st) (defBody st) (defScope st) .none kV doc pm an cdv ct) ⟨[], ks.zip us⟩ = pure (ps.zip (pick ix us))
theorem Fun.kwB {K : PySem.W.Frag} {x : Str} {st : Stmt} {f : Addr} {fd : FuncData} {ps ks : List Str} {ix : List Nat} (F : Fun K x x st f fd) (h : BindKw x st ps ks ix) : KwB K fd ps ks ix := by
  obtain ⟨oc, od, kV, doc, pm, an, cdv, ct, osl, rfl, lk, hcd⟩ := F.ex
  exact fun s ws _ hl => BindsTo.of_eq (h kV doc pm an cdv ct ws hl)
section
variable {P : Program} {w : World} {K : PySem.W.Frag} {mg : Str → Option Value} {base : Heap}
/-- a def, its body derived -/
theorem pok {x : Str} {st : Stmt} {N ps : List Str} {k : Nat} {gs : GS} (T : Dfn K mg x st) (S : FnScope N ps (defScope st)) (hb : BindRfl x st ps)
    (h : ∀ (f : Addr) (cdv : Value) (A : Around) (outer : List Env) (s : Shared) (H : Hp) (E : XK), Room k (A.deeper (envOfC x (defScope st) s.heap.objs.size f cdv)) →
      DB (cxOf (L2.CX P w) P w K mg base N x (defScope st) f cdv A outer s H E) (WF E) (defBody st) gs) : Pok P w K mg base (k + 1) x st ps (fnF N gs) := by
  obtain ⟨f, fd, h1, F⟩ := T.ex
  exact ⟨f, fd, h1, F.kp, F, F.binds hb, fok F S fun cdv A outer s H E hr => h f cdv A outer s H E hr⟩
theorem pokbad {x : Str} {st : Stmt} {ps : List Str} {k : Nat} (T : Dfn K mg x st) (hb : BindRfl x st ps) : Pok P w K mg base k x st ps fun _ _ => .bad := by
  obtain ⟨f, fd, h1, F⟩ := T.ex
  exact ⟨f, fd, h1, F.kp, F, F.binds hb, fun vs H Q E z => z.1, fun A outer s H args us vs Q E _ _ _ _ z => by
    obtain ⟨_, _, _, _, _, _, z⟩ := z
    exact z.elim⟩
end
section
variable {X : Cx} {W : WX} {a b c e : Expr} {es rest : List Expr} {pos p2 p : Pos} {ga gb gc : G} {gr : GA} {k m : Nat} {ps : List Str} {F : List D → S → R D} {x : Str} {st : Stmt}
theorem dcall (tk : Takes X W) (T : Pok X.prog X.w X.K X.mg X.base k x st ps F) (hr : Room m X.A) (ha : DA X W (e :: es) gr) (hkm : k ≤ m := by decide) (hg : Gl X x := by rfl)
    (hdb : (x == ("__debug__" : Str)) = false := by decide) (he : starEach (e :: es) X.env = (false, eval e X.env) :: starEach es X.env := by rfl) (hpl : (backTo pos (starEach es X.env)).any (·.1) = false := by rfl) : DE X W (.Call (.Name x p) (e :: es) [] pos) (gDef ps.length F gr) := by
  obtain ⟨f, fd, h1, h2, h3, h4, h5⟩ := T.ex
  exact ddef tk h5 (hr.mono hkm) h1 h2 h4 ha hg hdb he hpl
theorem dcall0 (T : Pok X.prog X.w X.K X.mg X.base k x st [] F) (hr : Room m X.A) (hkm : k ≤ m := by decide) (hg : Gl X x := by rfl) (hdb : (x == ("__debug__" : Str)) = false := by decide) : DE X W (.Call (.Name x p) [] [] pos) (gDef0 F) := by
  obtain ⟨f, fd, h1, h2, h3, h4, h5⟩ := T.ex
  exact ddef0 h5 (hr.mono hkm) h1 h2 h4 hg hdb
theorem dcallk (ks : List Str) (ix : List Nat) {kws : List Keyword} (tk : Takes X W) (T : Pok X.prog X.w X.K X.mg X.base k x st ps F) (hr : Room m X.A) (hb : BindKw x st ps ks ix) (ha : DK X W kws gr) (hkm : k ≤ m := by decide) (hg : Gl X x := by rfl)
    (hall : (backToKw pos (keywordEach kws X.env)).all (·.1.isSome) = true := by rfl) (hks : (backToKw pos (keywordEach kws X.env)).filterMap (·.1) = ks := by rfl)
    (hdb : (x == ("__debug__" : Str)) = false := by decide) (hpl : ((backTo pos (starEach [] X.env)).any (·.1) || (backToKw pos (keywordEach kws X.env)).any (·.1.isNone)) = false := by rfl) : DE X W (.Call (.Name x p) [] kws pos) (gKw ps.length ks.length ix F gr) := by
  obtain ⟨f, fd, h1, h2, h3, h4, h5⟩ := T.ex
  exact ddefk tk h5 (hr.mono hkm) h1 h2 (Sv.Fun.kwB h3 hb) ha hg hall hks hdb hpl
/-- a module's constant as the written part holds it -/
structure Con (K : PySem.W.Frag) (mg : Str → Option Value) (x : Str) (d : D) : Prop where
  ex : ∃ (u : Value) (v : V), mg x = some u ∧ RelV v u ∧ ∀ m H, Rep K m H d v
theorem dcon {d : D} (T : Con X.K X.mg x d) (hg : Gl X x := by rfl) (hd : (x == ("__debug__" : Str)) = false := by decide) : DE X W (.Name x pos) (gC d) := by
  obtain ⟨u, v, h1, h2, h3⟩ := T.ex
  exact dglob h1 h2 h3 hg hd
theorem hu64 {A : Around} (hr : Room m A) : A.units + 64 < cLine := by
  have := hr.un
  omega
end
end Sv
set_option Elab.async false
set_option linter.all false
set_option maxRecDepth 100000
set_option maxHeartbeats 4000000
namespace Sg
open PySem PySem.Spec PyProof.Rows L2 GenW
/-! ### for, in a generator's body -/
def tGFor (wi : TI) (g : TG) (tb : TGn) : TGn := fun D ys σ H => wi σ H fun J H1 => ∃ W : Nat → Nat → List V → L2.St → Hp → Prop, (∃ m, W 0 m ys σ H1) ∧ ∀ i m ys σ H, W i m ys σ H →
  (J.stop i H ∧ D.nx ys σ H) ∨ (J.go i H ∧ ∃ N : List V → L2.St → Hp → Prop, (∀ ys' σ' H', N ys' σ' H' → ∃ m', m' < m ∧ W (i + 1) m' ys' σ' H') ∧ ∀ x H', J.yld i H x H' → g x σ H' fun σ2 H2 => tb { D with nx := N, ct := N, bk := D.nx } ys σ2 H2)
/-- what stands behind such a loop's call -/
abbrev aft {α : Type} (X : Cx) (K : Flow → Sem PySem.Fin) (J : Value → Sem PySem.Fin) (gd : Bool → Bool) (lv : List Value → List Value) (x : α → Result) : α → Sem PySem.Fin := fun a =>
  ((match x a with | .ok f => (.pure f : Sem Flow) | .error e => .raise e).onRaise (cameBack X.env)).wrap K J gd lv
theorem gs_for {X : Cx} {tg iter : Expr} {body : List Stmt} {pos : Pos} {wi : TI} {g : TG} {tb : TGn} (hp : PassesOwn (model X.prog X.w) X.A X.env X.xe) (hc : X.calm = true) (hi : PI X tg iter wi) (hg : PG X tg g) (hb : L2.GSs X body tb)
    (hs : ∀ x, foldedSetIterable iter X.env x = pure x := by intro _; rfl) : L2.GS X (.For tg iter body [] pos) (tGFor wi g tb) := by
  refine ⟨fun A Sa ip R n ys s₀ c fs K J gd lv s σ H D gc hn k hI ht => ?_⟩
  rw [exec_For]
  refine seg_bind_wrap (wpAny_standAt ?_)
  refine seg_bind_wrap ?_
  rw [gc.over]
  obtain ⟨acc, cc, rA, I⟩ := hI
  refine wpAny_mono (hi.run _ s σ H _ I ht) (fun v s1 h1 => ?_) fun x s' hx => k.exc n s₀ x s' hx
  refine seg_bind_wrap (wpAny_of_eq (hs v) (seg_bind_wrap (wpAny_standAt (seg_bind_wrap ?_))))
  rw [gc.over]
  refine wpAny_holding (wpAny_mono h1 (fun itv s2 h2 => ?_) fun x s' hx => k.exc n s₀ x s' hx)
  obtain ⟨it, fp, tn, Jt, H2, e, I2, T, st2, f2, W, ⟨m0, w0⟩, turn⟩ := h2
  subst e
  have ipne : ∀ {b : Addr}, b ∈ fp → b ≠ Sa := fun {b} hb z => by
    have q := (f2 b hb).2.2.2.2.2 (Sa, lstObj acc cc) (List.mem_append_right _ List.mem_cons_self)
    exact q z.symm
  have lay : ∀ p, L2.GC X Sa ip A (.forLoop tg (.ref it) body [] X.env) (.ret (aft X K J gd lv id) none (gd false) (lv []) c p [] :: fs) id := fun p => gc_loop gc rfl rfl
  show Seg _ _ _ _ _ _ _ (.call (.forLoop tg (.ref it) body [] X.env) none (gd false) (lv []) (aft X K J gd lv id)) fs s2
  refine seg_call fun p => ?_
  have stat : ∀ {acc' : Array Value} {cc' : Nat} {H' : Hp}, (∀ b ∈ fp, H' b = none) → ∀ b ∈ fp, FpOk X ((Sa, lstObj acc' cc') :: ip) H' b := fun {acc' cc' H'} hn b hb => by
    obtain ⟨_, q1, q2, q3, q4, q5⟩ := f2 b hb
    refine ⟨hn b hb, q1, q2, q3, q4, fun p hp => ?_⟩
    rcases List.mem_append.mp hp with z | z
    · exact q5 p (List.mem_append_left _ z)
    · rcases List.mem_cons.mp z with z | z
      · rw [z]
        exact fun z2 => ipne hb z2.symm
      · exact q5 p (List.mem_append_right _ (List.mem_cons_of_mem _ z))
  have loop : ∀ (m i n : Nat) (ys : List V) (s₀ s : Shared) (σ : L2.St) (H : Hp), n + ys.length = sizeLine → W i m ys σ H → GI X Sa ip ys σ H s → tn i s.heap → (∀ b ∈ fp, H b = none) →
      Seg (model X.prog X.w) A R (GY X Sa) n s₀ (.forLoop tg (.ref it) body [] X.env) ((model X.prog X.w).den (.forLoop tg (.ref it) body [] X.env)) (.ret (aft X K J gd lv id) none (gd false) (lv []) c p [] :: fs) s := by
    intro m
    induction m using Nat.strongRecOn with
    | ind m ih =>
    intro i n ys s₀ s σ H hn w hI st fr
    have ee : ∀ (n : Nat) (s₀ : Shared) (x : Value) (s' : Shared), X.xe x s' → Seg (model X.prog X.w) A R (GY X Sa) n s₀ (.forLoop tg (.ref it) body [] X.env)
        ((do noteFrame x X.env; theTreesLotGoes x : Sem Unit).wrap (fun _ => .raise x) .raise id id) (.ret (aft X K J gd lv id) none (gd false) (lv []) c p [] :: fs) s' := fun n s₀ x s' hx => by
      refine seg_wrap ?_
      rw [(lay p).over]
      refine wpAny_bind (wpAny_mono (hp x s' hx) (fun _ s'' hcb => wpAny_theTreesLotGoes ?_) fun y s'' hcb => ?_)
      · exact seg_leaf (.error x) (seg_cameBack gc k hcb)
      · exact seg_leaf (.error y) (seg_cameBack gc k hcb)
    have hov : A.over (.forLoop tg (.ref it) body [] X.env) (.ret (aft X K J gd lv id) none (gd false) (lv []) c p [] :: fs) = X.A := (lay p).over
    show Seg _ _ _ _ _ _ _ ((forTurn tg (.ref it) body [] X.env).onRaise (fun x => do noteFrame x X.env; theTreesLotGoes x)) _ _
    rw [Sem.onRaise_eq_wrap]
    have note : ∀ x : Value, ((do noteFrame x X.env; theTreesLotGoes x : Sem Unit).bind fun _ => (Sem.raise x : Sem PySem.Fin)) = (do noteFrame x X.env; theTreesLotGoes x : Sem Unit).wrap (fun _ => .raise x) .raise id id := fun x => Sem.bind_eq_wrap _ _
    refine seg_bind_wrap (wpAny_standAt ?_)
    refine seg_bind_wrap ?_
    rw [hov]
    obtain ⟨acc, cc, rA, I3⟩ := hI
    rcases turn i m ys σ H w with ⟨stop, qn⟩ | ⟨go, N, hN, step⟩
    · refine wpAny_onRaise (wpAny_mono (T.done X rfl rfl rfl hc i _ s σ H (fun _ _ => False) I3 (stat fr) st stop) (fun r s4 ⟨hr, I4⟩ => ?_) fun _ _ z => z.elim)
      subst hr
      refine seg_again rfl ?_
      exact seg_leaf (.ok .next) (k.ok n ys s₀ s4 .next hn ⟨σ, H, ⟨acc, cc, rA, I4⟩, qn⟩)
    · refine wpAny_onRaise (wpAny_mono (T.item X rfl rfl rfl hc i _ s σ H (fun _ _ => False) I3 (stat fr) st go) (fun r s4 ⟨u, hr, h4⟩ => ?_) fun _ _ z => z.elim)
      subst hr
      refine seg_bind_wrap ?_
      rw [hov]
      refine wpAny_mono h4 (fun _ s5 ⟨x, H5, I5, r5, y5, st5, fr5⟩ => ?_) fun _ _ z => z.elim
      have pinned := I5.pinned (stat fr5) (T.obj _ _ st5)
      have ip2 : ∀ q ∈ ip ++ pinsAt fp s5.heap, q.1 ≠ Sa := fun q hq => by
        rcases List.mem_append.mp hq with z | z
        · exact gc.ip q z
        · exact ipne (of_pinsAt z).1
      refine seg_bind_wrap ?_
      rw [hov]
      refine wpAny_mono (hg.run _ s5 σ H5 x u _ pinned r5 (step x H5 y5)) (fun _ s6 ⟨σ6, H6, I6, q6⟩ => ?_) fun x s' hx => by
        have z := ee n s₀ x s' hx
        rw [← note x] at z
        exact z
      rw [Sem.bind_eq_wrap', Sem.wrap_wrap]
      have less : ∀ {ys' : List V} {σ' : L2.St} {H' : Hp} {s' : Shared}, GI X Sa (ip ++ pinsAt fp s5.heap) ys' σ' H' s' → GI X Sa ip ys' σ' H' s' ∧ tn (i + 1) s'.heap ∧ ∀ b ∈ fp, H' b = none := fun {ys' σ' H' s'} z => by
        obtain ⟨acc', cc', rA', I'⟩ := z
        have pinOf : ∀ b ∈ fp, ∀ o, s5.heap.get? b = some o → (b, o) ∈ X.pn ++ ((Sa, lstObj acc' cc') :: (ip ++ pinsAt fp s5.heap)) := fun b hb o e =>
          List.mem_append_right _ (List.mem_cons_of_mem _ (List.mem_append_right _ (mem_pinsAt hb e)))
        refine ⟨⟨acc', cc', rA', I'.pins_of fun q hq => I'.pin q (List.mem_append_right _ ?_)⟩, T.keep _ _ _ st5 fun b hb o e => (I'.pin (b, o) (pinOf b hb o e)).1, fun b hb => ?_⟩
        · rcases List.mem_cons.mp hq with z | z
          · rw [z]
            exact List.mem_cons_self
          · exact List.mem_cons_of_mem _ (List.mem_append_left _ z)
        · obtain ⟨o, e, _⟩ := T.obj _ _ st5 b hb
          exact (I'.pin (b, o) (pinOf b hb o e)).2.1
      refine hb.run A Sa (ip ++ pinsAt fp s5.heap) R n ys s₀ _ _ _ _ _ _ s6 σ6 H6 { D with nx := N, ct := N, bk := D.nx } ⟨gc.pn, ip2, gc.apart, hov, (lay p).split, (lay p).guard, rfl⟩ hn ⟨fun n' ys' s₀' s3 f hn' hsp => ?_, fun n' s₀' x s3 hx => ?_⟩ ⟨acc, cc, rA, I6.pins_of fun q hq => I6.pin q (by
          rcases List.mem_cons.mp hq with z | z
          · rw [z]
            exact List.mem_append_right _ (List.mem_append_left _ List.mem_cons_self)
          · rcases List.mem_append.mp z with z | z
            · exact List.mem_append_right _ (List.mem_append_left _ (List.mem_cons_of_mem _ z))
            · exact List.mem_append_right _ (List.mem_append_right _ z))⟩ q6
      · cases f with
        | next =>
          obtain ⟨σ3, H3, I3', n3⟩ := hsp
          obtain ⟨L1, L2, L3⟩ := less I3'
          obtain ⟨m', hm, w3⟩ := hN ys' σ3 H3 n3
          exact seg_again rfl (ih m' hm (i + 1) n' ys' s₀' s3 σ3 H3 hn' w3 L1 L2 L3)
        | cont =>
          obtain ⟨σ3, H3, I3', n3⟩ := hsp
          obtain ⟨L1, L2, L3⟩ := less I3'
          obtain ⟨m', hm, w3⟩ := hN ys' σ3 H3 n3
          exact seg_again rfl (ih m' hm (i + 1) n' ys' s₀' s3 σ3 H3 hn' w3 L1 L2 L3)
        | brk =>
          obtain ⟨σ3, H3, I3', n3⟩ := hsp
          exact seg_leaf (.ok .next) (k.ok n' ys' s₀' s3 .next hn' ⟨σ3, H3, (less I3').1, n3⟩)
        | ret v =>
          obtain ⟨v3, σ3, H3, I3', r3, n3⟩ := hsp
          exact seg_leaf (.ok (.ret v)) (k.ok n' ys' s₀' s3 (.ret v) hn' ⟨v3, σ3, H3, (less I3').1, r3, n3⟩)
      · have z := ee n' s₀' x s3 hx
        rw [← note x] at z
        exact z
  exact loop m0 0 n ys s₀ s2 σ H2 hn w0 ⟨acc, cc, rA, I2⟩ st2 fun b hb => (f2 b hb).1
end Sg
set_option Elab.async false
set_option linter.all false
set_option maxRecDepth 100000
set_option maxHeartbeats 4000000
namespace Sv
open PySem PySem.Spec PyProof.Rows L2
/-! ### generator defs that are drained by list() -/
inductive OG where
  | nx (ys : List D) (r : En) (st : S)
  | rt (ys : List D) (st : S)
  | bk (ys : List D) (r : En) (st : S)
  | ct (ys : List D) (r : En) (st : S)
  | bad
abbrev GG := List D → En → S → OG
def tG (K : PySem.W.Frag) (g : GG) : TGn := fun Z ys σ H => ∃ m r st dys, EO K m H σ r ∧ SO K m H st ∧ Reps K m H dys ys ∧ match g dys r st with
  | .nx dys' r' st' => ∀ ys' σ' m' H', Gr m H m' H' → EO K m' H' σ' r' → SO K m' H' st' → Reps K m' H' dys' ys' → Z.nx ys' σ' H'
  | .bk dys' r' st' => ∀ ys' σ' m' H', Gr m H m' H' → EO K m' H' σ' r' → SO K m' H' st' → Reps K m' H' dys' ys' → Z.bk ys' σ' H'
  | .ct dys' r' st' => ∀ ys' σ' m' H', Gr m H m' H' → EO K m' H' σ' r' → SO K m' H' st' → Reps K m' H' dys' ys' → Z.ct ys' σ' H'
  | .rt dys' st' => ∀ ys' m' H', Gr m H m' H' → SO K m' H' st' → Reps K m' H' dys' ys' → Z.rt ys' .non H'
  | .bad => False
abbrev GAns (K : PySem.W.Frag) (Z : GEnds) (m : Ms) (H : Hp) (o : OG) : Prop := match o with
  | .nx dys' r' st' => ∀ ys' σ' m' H', Gr m H m' H' → EO K m' H' σ' r' → SO K m' H' st' → Reps K m' H' dys' ys' → Z.nx ys' σ' H'
  | .bk dys' r' st' => ∀ ys' σ' m' H', Gr m H m' H' → EO K m' H' σ' r' → SO K m' H' st' → Reps K m' H' dys' ys' → Z.bk ys' σ' H'
  | .ct dys' r' st' => ∀ ys' σ' m' H', Gr m H m' H' → EO K m' H' σ' r' → SO K m' H' st' → Reps K m' H' dys' ys' → Z.ct ys' σ' H'
  | .rt dys' st' => ∀ ys' m' H', Gr m H m' H' → SO K m' H' st' → Reps K m' H' dys' ys' → Z.rt ys' .non H'
  | .bad => False
theorem GAns.mono {K : PySem.W.Frag} {Z : GEnds} {m m1 : Ms} {H H1 : Hp} {o : OG} (g : Gr m H m1 H1) (h : GAns K Z m H o) : GAns K Z m1 H1 o := by
  cases o with
  | nx a b c => exact fun ys' σ' m' H' g2 => h ys' σ' m' H' (g.trans g2)
  | bk a b c => exact fun ys' σ' m' H' g2 => h ys' σ' m' H' (g.trans g2)
  | ct a b c => exact fun ys' σ' m' H' g2 => h ys' σ' m' H' (g.trans g2)
  | rt a b => exact fun ys' m' H' g2 => h ys' m' H' (g.trans g2)
  | bad => exact h
abbrev DG (X : Cx) (st : Stmt) (g : GG) : Prop := L2.GS X st (tG X.K g)
abbrev DGB (X : Cx) (sts : List Stmt) (g : GG) : Prop := L2.GSs X sts (tG X.K g)
theorem GS.imp {X : Cx} {st : Stmt} {t t' : TGn} (h : L2.GS X st t) (k : ∀ Z ys σ H, t' Z ys σ H → t Z ys σ H) : L2.GS X st t' := ⟨fun A Sa ip R n ys s₀ c fs K J gd lv s σ H D g hn kk hI ht => h.run A Sa ip R n ys s₀ c fs K J gd lv s σ H D g hn kk hI (k _ _ _ _ ht)⟩
theorem GSs.imp {X : Cx} {st : List Stmt} {t t' : TGn} (h : L2.GSs X st t) (k : ∀ Z ys σ H, t' Z ys σ H → t Z ys σ H) : L2.GSs X st t' := ⟨fun A Sa ip R n ys s₀ c fs K J gd lv s σ H D g hn kk hI ht => h.run A Sa ip R n ys s₀ c fs K J gd lv s σ H D g hn kk hI (k _ _ _ _ ht)⟩
section
variable {X : Cx} {W : WX} {a b c e tg : Expr} {es rest : List Expr} {pos p2 p yp : Pos} {ga gb ge : G} {gr gi : GA} {st1 : Stmt} {sts body : List Stmt} {gs : GS} {gg hh : GG}
def ggPl (gs : GS) : GG := fun dys r st => match gs r st with
  | .nx r' st' => .nx dys r' st'
  | .bk r' st' => .bk dys r' st'
  | .ct r' st' => .ct dys r' st'
  | _ => .bad
theorem dg_plain (h : DS X W st1 gs) : DG X st1 (ggPl gs) := GS.imp (gs_ps h) fun Z ys σ H q => by
  obtain ⟨m, r, st, dys, E, s, ry, q⟩ := q
  unfold ggPl at q
  refine ⟨m, r, st, E, s, ?_⟩
  cases eg : gs r st with
  | nx r' st' =>
    rw [eg] at q
    exact fun σ' m' H' g E' s' => q ys σ' m' H' g E' s' (Reps.mono g s ry)
  | bk r' st' =>
    rw [eg] at q
    exact fun σ' m' H' g E' s' => q ys σ' m' H' g E' s' (Reps.mono g s ry)
  | ct r' st' =>
    rw [eg] at q
    exact fun σ' m' H' g E' s' => q ys σ' m' H' g E' s' (Reps.mono g s ry)
  | _ => rw [eg] at q; exact q.elim
def ggYi (ge : G) : GG := fun dys r st => match ge r st with
  | .ok d st1 => if dys.length < 100000 then .nx (dys ++ [d]) r st1 else .bad
  | _ => .bad
theorem dg_yield (h : DE X W e ge) (hco : X.env.scope.isCoroutine = false := by rfl) (hi : interactive X.env = false := by rfl) : DG X (.Expr (.Yield (some e) yp) pos) (ggYi ge) := GS.imp (gs_yield h hco hi) fun Z ys σ H q => by
  obtain ⟨m, r, st, dys, E, s, ry, q⟩ := q
  unfold ggYi at q
  cases eg : ge r st with
  | ok d st1 =>
    rw [eg] at q
    dsimp only at q
    by_cases hl : dys.length < 100000
    · rw [if_pos hl] at q
      refine ⟨?_, tE_use E s ?_⟩
      · rw [Reps.len ry]
        exact Nat.lt_of_lt_of_le hl (by decide)
      · rw [eg]
        exact fun v m' H' g rv s' => q (ys ++ [v]) σ m' H' g (E.mono g s) s' ((Reps.mono g s ry).snoc rv)
    · rw [if_neg hl] at q
      exact q.elim
  | _ => rw [eg] at q; exact q.elim
def ggSkip : GG := fun dys r st => .nx dys r st
theorem dg_nil : DGB X [] ggSkip := GSs.imp gss_nil fun Z ys σ H q => by
  obtain ⟨m, r, st, dys, E, s, ry, q⟩ := q
  exact q ys σ m H Gr.refl E s ry
def ggSeq (g h : GG) : GG := fun dys r st => match g dys r st with
  | .nx dys' r' st' => h dys' r' st'
  | o => o
theorem dg_cons (h1 : DG X st1 gg) (h2 : DGB X sts hh) : DGB X (st1 :: sts) (ggSeq gg hh) := GSs.imp (gss_cons h1 h2) fun Z ys σ H q => by
  obtain ⟨m, r, st, dys, E, s, ry, q⟩ := q
  unfold ggSeq at q
  refine ⟨m, r, st, dys, E, s, ry, ?_⟩
  cases eg : gg dys r st with
  | nx dys' r' st' =>
    rw [eg] at q
    exact fun ys' σ' m' H' g E' s' ry' => ⟨m', r', st', dys', E', s', ry', GAns.mono g q⟩
  | _ => rw [eg] at q; exact q
def ggLoop (t : D → En → Option En) (body : GG) : List D → GG
  | [], dys, r, st => .nx dys r st
  | d :: ds, dys, r, st => match t d r with
    | none => .bad
    | some r1 => match body dys r1 st with
      | .nx dys2 r2 st2 => ggLoop t body ds dys2 r2 st2
      | .ct dys2 r2 st2 => ggLoop t body ds dys2 r2 st2
      | .bk dys2 r2 st2 => .nx dys2 r2 st2
      | o => o
def ggFor (gi : GA) (t : D → En → Option En) (body : GG) : GG := fun dys r st => match gi r st with
  | .ok ds st1 => ggLoop t body ds dys r st1
  | _ => .bad
theorem dg_for {g : TG} {t : D → En → Option En} (hp : PassesOwn (model X.prog X.w) X.A X.env X.xe) (hc : X.calm = true) (hi : DI X W tg e gi) (hg : PG X tg g) (ht : TgOk X.K g t) (hb : DGB X body gg)
    (hs : ∀ x, foldedSetIterable e X.env x = pure x := by intro _; rfl) : DG X (.For tg e body [] pos) (ggFor gi t gg) := GS.imp (Sg.gs_for hp hc hi hg hb hs) fun Z ys σ H h => by
  obtain ⟨m, r, st, dys, E, s, ry, q⟩ := h
  unfold ggFor at q
  refine ⟨m, r, st, E, s, ?_⟩
  cases ea : gi r st with
  | bad => rw [ea] at q; exact q
  | err c fs st1 => rw [ea] at q; exact q.elim
  | ok ds st1 =>
    rw [ea] at q
    intro J m1 H1 g1 it s1
    refine ⟨fun i k ys σ H => k = ds.length - i ∧ i ≤ ds.length ∧ ∃ m r st dys, Gr m1 H1 m H ∧ EO X.K m H σ r ∧ SO X.K m H st ∧ Reps X.K m H dys ys ∧ GAns X.K Z m H (ggLoop t gg (ds.drop i) dys r st), ⟨_, rfl, Nat.zero_le _, m1, r, st1, dys, Gr.refl, E.mono g1 s, s1, Reps.mono g1 s ry, GAns.mono g1 q⟩, ?_⟩
    rintro i k ys2 σ2 H2 ⟨rfl, hi2, m2, r2, st2, dys2, g2, E2, s2, ry2, q2⟩
    by_cases hlt : i < ds.length
    · refine Or.inr ⟨it.go i m2 H2 st2 g2.w s2 hlt, fun ys' σ' H' => ∃ m r st dys, Gr m1 H1 m H' ∧ EO X.K m H' σ' r ∧ SO X.K m H' st ∧ Reps X.K m H' dys ys' ∧ GAns X.K Z m H' (ggLoop t gg (ds.drop (i + 1)) dys r st), fun ys' σ' H' z => ⟨_, by omega, rfl, hlt, z⟩, fun x H' y => ?_⟩
      rw [List.drop_eq_getElem_cons hlt] at q2
      obtain ⟨g3, r3, s3⟩ := it.yld i m2 H2 st2 x H' ds[i] g2.w s2 (List.getElem?_eq_getElem hlt) y
      unfold ggLoop at q2
      cases et : t ds[i] r2 with
      | none => rw [et] at q2; exact q2.elim
      | some r4 =>
        rw [et] at q2
        dsimp only at q2
        refine ht m2 H' ds[i] x r2 r4 σ2 _ r3 (E2.mono g3 s2) et fun σ3 E3 => ⟨m2, r4, st2, dys2, E3, s3, Reps.mono g3 s2 ry2, ?_⟩
        cases eb : gg dys2 r4 st2 with
        | bad => rw [eb] at q2; exact q2.elim
        | nx a5 r5 st5 =>
          rw [eb] at q2
          exact fun ys' σ' m' H' g E' s' ry' => ⟨m', r5, st5, a5, (g2.trans g3).trans g, E', s', ry', GAns.mono (g3.trans g) q2⟩
        | ct a5 r5 st5 =>
          rw [eb] at q2
          exact fun ys' σ' m' H' g E' s' ry' => ⟨m', r5, st5, a5, (g2.trans g3).trans g, E', s', ry', GAns.mono (g3.trans g) q2⟩
        | bk a5 r5 st5 =>
          rw [eb] at q2
          exact fun ys' σ' m' H' g E' s' ry' => q2 ys' σ' m' H' (g3.trans g) E' s' ry'
        | rt d st5 =>
          rw [eb] at q2
          exact fun ys' m' H' g s' ry' => q2 ys' m' H' (g3.trans g) s' ry'
    · rw [List.drop_eq_nil_of_le (by omega)] at q2
      exact Or.inl ⟨it.stop i m2 H2 st2 g2.w s2 (by omega), q2 ys2 σ2 m2 H2 Gr.refl E2 s2 ry2⟩
end
/-! ### the def, its call within list() -/
def PFG (K : PySem.W.Frag) (n : Nat) (F : List D → S → R (List D)) : SpG := fun vs H Q _ => vs.length = n ∧ ∃ m ds st, Reps K m H ds vs ∧ SO K m H st ∧ match F ds st with
  | .ok ys st' => ∀ ws m' H', Gr m H m' H' → Reps K m' H' ys ws → SO K m' H' st' → Q ws H'
  | _ => False
def fnG (N : List Str) (g : GG) : List D → S → R (List D) := fun ds st => match g [] (startD N ds) st with
  | .nx ys _ st' => .ok ys st'
  | .rt ys st' => .ok ys st'
  | _ => .bad
abbrev Gok (P : Program) (w : World) (K : PySem.W.Frag) (mg : Str → Option Value) (base : Heap) (k : Nat) (f : Addr) (fd : FuncData) (ps : List Str) (F : List D → S → R (List D)) : Prop := GFn P w K mg base k f fd ps (PFG K ps.length F)
structure Pgk (P : Program) (w : World) (K : PySem.W.Frag) (mg : Str → Option Value) (base : Heap) (k : Nat) (x : Str) (st : Stmt) (ps : List Str) (F : List D → S → R (List D)) : Prop where
  ex : ∃ (f : Addr) (fd : FuncData), mg x = some (.ref f) ∧ PySem.W.keepIn K (.ref f) = true ∧ Fun K x x st f fd ∧ Binds K fd ps [] ∧ Gok P w K mg base k f fd ps F
section
variable {P : Program} {w : World} {K : PySem.W.Frag} {mg : Str → Option Value} {base : Heap}
theorem pgk {x : Str} {st : Stmt} {N ps : List Str} {k : Nat} {gg : GG} (T : Dfn K mg x st) (Sc : GScope N ps (defScope st)) (hb : BindRfl x st ps)
    (h : ∀ (f : Addr) (cdv : Value) (A : Around) (outer : List Env) (s : Shared) (H : Hp) (E : XK) (pn : List (Addr × Obj)), Room k (A.deeper (envOfC x (defScope st) s.heap.objs.size f cdv)) →
      DGB (gcxOf P w K mg base N x (defScope st) f cdv A outer s H E pn) (defBody st) gg) : Pgk P w K mg base (k + 1) x st ps (fnG N gg) := by
  obtain ⟨f, fd, h1, F⟩ := T.ex
  refine ⟨f, fd, h1, F.kp, F, F.binds hb, ?_⟩
  obtain ⟨oc, od, kV, doc, pm, an, cdv, ct, osl, rfl, lk, hcd⟩ := F.ex
  refine gfn_of lk hcd Sc (fun vs H Q E z => z.1) fun A outer s H vs Q E pn hr hsp => ⟨_, h f cdv A outer s H E pn hr, ?_⟩
  obtain ⟨hn, m, ds, st', rv, so, q⟩ := hsp
  refine ⟨m, startD N ds, st', [], EO.start rv, so, rfl, ?_⟩
  unfold fnG at q
  cases e : gg [] (startD N ds) st' with
  | nx ys r' st2 =>
    rw [e] at q
    exact fun ys' σ' m' H' g _ s' ry => q ys' m' H' g ry s'
  | rt ys st2 =>
    rw [e] at q
    exact fun ys' m' H' g s' ry => ⟨rfl, q ys' m' H' g ry s'⟩
  | _ => rw [e] at q; exact q.elim
theorem tkG {N : List Str} {qual : Str} {scope : Scope} {f : Addr} {cd : Value} {A : Around} {outer : List Env} {s : Shared} {H : Hp} {E : XK} {pn : List (Addr × Obj)} : Takes (gcxOf P w K mg base N qual scope f cd A outer s H E pn) (WF E) := takes_gcx
theorem ppG {N : List Str} {qual : Str} {scope : Scope} {f : Addr} {cd : Value} {A : Around} {outer : List Env} {s : Shared} {H : Hp} {E : XK} {pn : List (Addr × Obj)} :
    PassesOwn (model P w) (gcxOf P w K mg base N qual scope f cd A outer s H E pn).A (gcxOf P w K mg base N qual scope f cd A outer s H E pn).env (gcxOf P w K mg base N qual scope f cd A outer s H E pn).xe := owns_gcx
end
section
variable {X : Cx} {W : WX} {e : Expr} {es : List Expr} {pos pos2 p p3 : Pos} {gr : GA} {k m : Nat} {ps : List Str} {F : List D → S → R (List D)} {x : Str} {st : Stmt}
def gLstG (c : Bool) (n : Nat) (F : List D → S → R (List D)) (gr : GA) : G := fun r st => match gr r st with
  | .ok ds st1 => if ds.length = n then gMk c (F ds st1) else .bad
  | .err c fs s => .err c fs s
  | .bad => .bad
theorem tListG_ok {K : PySem.W.Frag} {mg : Str → Option Value} {c : Bool} {n : Nat} {σ : L2.St} {H : Hp} {Q : VK} (h : tE K mg W (gLstG c n F gr) σ H Q) : tListG (fun σ H cont => tA K mg W gr σ H fun vs H1 => PFG K n F vs H1 cont E0) σ H Q := by
  obtain ⟨m, r, st, E, s, q⟩ := h
  unfold gLstG at q
  refine ⟨m, r, st, E, s, ?_⟩
  cases ea : gr r st with
  | bad => rw [ea] at q; exact q
  | err c fs st1 => rw [ea] at q; exact q
  | ok ds st1 =>
    rw [ea] at q
    dsimp only at q
    intro vs m1 H1 g1 r1 s1
    by_cases hn : ds.length = n
    · rw [if_pos hn] at q
      refine ⟨(Reps.len r1).trans hn, m1, ds, st1, r1, s1, ?_⟩
      cases ef : F ds st1 with
      | bad => rw [ef] at q; exact q.elim
      | err c fs st2 => rw [ef] at q; exact q.elim
      | ok ys st2 =>
        rw [ef] at q
        unfold gMk at q
        dsimp only at q
        intro ws m2 H2 g2 r2 s2 p hp
        cases en : nl c ys st2 with
        | bad => rw [en] at q; exact q.elim
        | err c' fs st3 =>
          unfold nl at en
          split at en
          · split at en <;> cases en
          · cases en
        | ok d st3 =>
          rw [en] at q
          exact newL s2 r2 hp en fun v m' H' g' => q v m' H' ((g1.trans g2).trans g')
    · rw [if_neg hn] at q
      exact q.elim
/-- list(f(e, ..)), f a generator def -/
theorem dlistG (c : Bool) (hml : X.mg "list" = none) (T : Pgk X.prog X.w X.K X.mg X.base k x st ps F) (hr : Room m X.A) (ha : DA X W (e :: es) gr) (hkm : k + 3 ≤ m := by decide) (hg : Gl X x := by rfl) (hgl : Gl X "list" := by rfl)
    (hdb : (x == ("__debug__" : Str)) = false := by decide) (he : starEach (e :: es) X.env = (false, eval e X.env) :: starEach es X.env := by rfl) (hpl : (backTo pos (starEach es X.env)).any (·.1) = false := by rfl)
    (hel : starEach [.Call (.Name x p) (e :: es) [] pos] X.env = (false, eval (.Call (.Name x p) (e :: es) [] pos) X.env) :: starEach [] X.env := by rfl) :
    DE X W (.Call (.Name "list" p3) [.Call (.Name x p) (e :: es) [] pos] [] pos2) (gLstG c ps.length F gr) := by
  obtain ⟨f, fd, h1, h2, h3, h4, h5⟩ := T.ex
  exact PE.imp (pe_listG (E := E0) (pgen_call h5 (hr.mono (by omega)) hg h1 h2 h4 .nil ha hdb he hpl) passL (fun _ _ _ z => z.elim) (hr.mono hkm) hgl hml (by rfl) (by decide) (by decide) hel) fun σ H Q q => by
    have z := tListG_ok q
    unfold tListG tCallG at *
    simpa using z
/-- f(x=e, ..) of a generator def -/
theorem pgen_kw {ks : List Str} {ix : List Nat} {kws : List Keyword} {f : Addr} {fd : FuncData} (FF : Gok X.prog X.w X.K X.mg X.base k f fd ps F) (hr : Room k X.A) (hm : X.mg x = some (.ref f)) (hk : PySem.W.keepIn X.K (.ref f) = true) (hb : KwB X.K fd ps ks ix) {ta : TA} (ha : PK X kws ta) (hg : Gl X x)
    (hall : (backToKw pos (keywordEach kws X.env)).all (·.1.isSome) = true) (hks : (backToKw pos (keywordEach kws X.env)).filterMap (·.1) = ks)
    (hdb : (x == ("__debug__" : Str)) = false) (hpl : ((backTo pos (starEach [] X.env)).any (·.1) || (backToKw pos (keywordEach kws X.env)).any (·.1.isNone)) = false) :
    PGen X k (.Call (.Name x p) [] kws pos) (fun σ H cont => ta σ H fun vs H1 => vs.length = ks.length ∧ PFG X.K ps.length F (pick ix vs) H1 cont E0) E0 := by
  refine ⟨fun pins s σ H cont I h => wpAny_Call_Name_kw (ld_glob I hg hm (PySem.W.callWith_KW0 (h₀ := X.base) I.ok.mod.kin hk hall ?_ hpl) hdb)⟩
  refine thn (ha.run pos pins s σ H _ I h) fun ws s2 ⟨zs, H2, I2, rz, hl, q2⟩ => ⟨I2.kIn, ?_⟩
  rw [hks]
  refine wpAny_call (codeAny_mono (FF.run X.A X.stack s2 H2 ⟨[], ks.zip ws⟩ (pick ix ws) (pick ix zs) cont E0 hr I2.env0 (hb s2 ws I2.kIn (by rw [← rz.length]; exact hl)) (pick_vals rz ix) q2) fun r s' hq => ?_)
  match r, hq with
  | .ok (.ret u), hq => exact ⟨H2, s2, [], I2, .nil, hq⟩
def gLstGk (c : Bool) (n nk : Nat) (ix : List Nat) (F : List D → S → R (List D)) (gr : GA) : G := fun r st => match gr r st with
  | .ok ds st1 => if ds.length = nk ∧ (pick ix ds).length = n then gMk c (F (pick ix ds) st1) else .bad
  | .err c fs s => .err c fs s
  | .bad => .bad
theorem tListGk_ok {K : PySem.W.Frag} {mg : Str → Option Value} {c : Bool} {n nk : Nat} {ix : List Nat} {σ : L2.St} {H : Hp} {Q : VK} (h : tE K mg W (gLstGk c n nk ix F gr) σ H Q) : tListG (fun σ H cont => tA K mg W gr σ H fun vs H1 => vs.length = nk ∧ PFG K n F (pick ix vs) H1 cont E0) σ H Q := by
  obtain ⟨m, r, st, E, s, q⟩ := h
  unfold gLstGk at q
  refine ⟨m, r, st, E, s, ?_⟩
  cases ea : gr r st with
  | bad => rw [ea] at q; exact q
  | err c fs st1 => rw [ea] at q; exact q
  | ok ds st1 =>
    rw [ea] at q
    dsimp only at q
    intro vs m1 H1 g1 r1 s1
    by_cases hn : ds.length = nk ∧ (pick ix ds).length = n
    · rw [if_pos hn] at q
      refine ⟨(Reps.len r1).trans hn.1, (Reps.len (pick_reps r1 ix)).trans hn.2, m1, pick ix ds, st1, pick_reps r1 ix, s1, ?_⟩
      cases ef : F (pick ix ds) st1 with
      | bad => rw [ef] at q; exact q.elim
      | err c fs st2 => rw [ef] at q; exact q.elim
      | ok ys st2 =>
        rw [ef] at q
        unfold gMk at q
        dsimp only at q
        intro ws m2 H2 g2 r2 s2 p hp
        cases en : nl c ys st2 with
        | bad => rw [en] at q; exact q.elim
        | err c' fs st3 =>
          unfold nl at en
          split at en
          · split at en <;> cases en
          · cases en
        | ok d st3 =>
          rw [en] at q
          exact newL s2 r2 hp en fun v m' H' g' => q v m' H' ((g1.trans g2).trans g')
    · rw [if_neg hn] at q
      exact q.elim
/-- list(f(x=e, ..)), f a generator def -/
theorem dlistGk (c : Bool) (ks : List Str) (ix : List Nat) {kws : List Keyword} (hml : X.mg "list" = none) (T : Pgk X.prog X.w X.K X.mg X.base k x st ps F) (hr : Room m X.A) (hb : BindKw x st ps ks ix) (ha : DK X W kws gr) (hkm : k + 3 ≤ m := by decide) (hg : Gl X x := by rfl) (hgl : Gl X "list" := by rfl)
    (hall : (backToKw pos (keywordEach kws X.env)).all (·.1.isSome) = true := by rfl) (hks : (backToKw pos (keywordEach kws X.env)).filterMap (·.1) = ks := by rfl)
    (hdb : (x == ("__debug__" : Str)) = false := by decide) (hpl : ((backTo pos (starEach [] X.env)).any (·.1) || (backToKw pos (keywordEach kws X.env)).any (·.1.isNone)) = false := by rfl)
    (hel : starEach [.Call (.Name x p) [] kws pos] X.env = (false, eval (.Call (.Name x p) [] kws pos) X.env) :: starEach [] X.env := by rfl) :
    DE X W (.Call (.Name "list" p3) [.Call (.Name x p) [] kws pos] [] pos2) (gLstGk c ps.length ks.length ix F gr) := by
  obtain ⟨f, fd, h1, h2, h3, h4, h5⟩ := T.ex
  exact PE.imp (pe_listG (E := E0) (pgen_kw h5 (hr.mono (by omega)) h1 h2 (Sv.Fun.kwB h3 hb) ha hg hall hks hdb hpl) passL (fun _ _ _ z => z.elim) (hr.mono hkm) hgl hml (by rfl) (by decide) (by decide) hel) fun σ H Q q => tListGk_ok q
end
end Sv
set_option Elab.async false
set_option linter.all false
set_option maxRecDepth 100000
set_option maxHeartbeats 4000000
namespace Sv
open PySem PySem.Spec PyProof.Rows L2
/-! ### from the head's facts to what the derivations ask -/
theorem fun_of_D {K : PySem.W.Frag} {x qual : Str} {st : Stmt} {f : Addr} {fd : FuncData} (F : FunD K x qual (defArgs st) (defBody st) (defScope st) [] [] f fd) : Fun K x qual st f fd := by
  obtain ⟨oc, od, dV, kV, doc, pm, an, cdv, ct, osl, rfl, lk, hcd, hd, _⟩ := F.ex
  have e : dV = .none := by
    rcases hd with ⟨_, z⟩ | ⟨z, _⟩
    · exact z
    · exact absurd rfl z
  subst e
  exact ⟨⟨oc, od, kV, doc, pm, an, cdv, ct, osl, rfl, lk, hcd⟩, F.kp⟩
def defD (x : Str) (st : Stmt) : He.DefD := ⟨(x, none), x, x, defArgs st, defBody st, defScope st, [], []⟩
def iniD (x q : Str) (st : Stmt) : He.DefD := ⟨(x, some "__init__"), "__init__", q, defArgs st, defBody st, defScope st, [], []⟩
section
variable {K : PySem.W.Frag} {h : Heap} {mg : Str → Option Value} {fa : List He.Fa} {fn : List He.DefD}
theorem dfn_of (X : K.In h) (G : h.Ns mainGlobals mg) (c : He.SaysD fa fn K) {x : Str} {st : Stmt} (i j : Nat) (h1 : fa[i]? = some (.glo x) := by rfl) (h2 : fn[j]? = some (defD x st) := by rfl) : Dfn K mg x st := by
  obtain ⟨fd, F⟩ := c.def_ j (d := defD x st) h2
  exact ⟨He.ga K x, fd, He.glo_ok X G (c.fact i h1), fun_of_D F⟩
theorem free_of (X : K.In h) (G : h.Ns mainGlobals mg) (c : He.SaysD fa fn K) {x : Str} (i : Nat) (h1 : fa[i]? = some (.free x) := by rfl) : mg x = none := He.free_ok X G (c.fact i h1)
/-- an own exception class, its chain of own classes over ValueError -/
def oexB (K : PySem.W.Frag) (C : Addr) : Bool := match K.lookup C with
  | some ⟨.type t, _, .cls cd, sl⟩ => decide (t = "type") && (match cd.mro, sl.toList with
    | .ref C' :: bm, [_, _, _, _, some (.builtin n), _] => decide (C' = C) && (decide (n = "ValueError.__new__") && (!cd.hasDel && (cd.hasDict && PySem.HandSPX.refsVE bm)))
    | _, _ => false)
  | _ => false
theorem oexB_ok {C : Addr} (e : oexB K C = true) : ∃ nm q N bs bm sn sub ab col dd k0 k1 k2 k3 k5, K.lookup C = some (excClassObj nm q C N bs bm true sn sub ab col dd k0 k1 k2 k3 k5 "ValueError.__new__") ∧ PySem.HandSPX.refsVE bm = true := by
  unfold oexB at e
  split at e
  · rename_i t dd cd sl hk
    obtain ⟨e1, e⟩ := Bool.and_eq_true_iff.mp e
    split at e
    · rename_i C' bm k0 k1 k2 k3 n k5 hm hs
      obtain ⟨e2, e⟩ := Bool.and_eq_true_iff.mp e
      obtain ⟨e3, e⟩ := Bool.and_eq_true_iff.mp e
      obtain ⟨e4, e⟩ := Bool.and_eq_true_iff.mp e
      obtain ⟨e5, e6⟩ := Bool.and_eq_true_iff.mp e
      obtain ⟨nm, bs, mro, ns, qn, hd, sn, sub, ab, col, dl⟩ := cd
      dsimp only at hm e4 e5
      have d1 := of_decide_eq_true e1
      have d2 := of_decide_eq_true e2
      have d3 := of_decide_eq_true e3
      have d4 : dl = false := by simpa using e4
      subst d1 d2 d3 d4 e5 hm
      have d5 : sl = #[k0, k1, k2, k3, some (.builtin "ValueError.__new__"), k5] := by
        obtain ⟨l⟩ := sl
        have hs' : l = _ := hs
        rw [hs']
      subst d5
      exact ⟨nm, qn, ns, bs, bm, sn, sub, ab, col, dd, k0, k1, k2, k3, k5, hk, e6⟩
    · cases e
  · cases e
/-- all that is asked of such a class -/
def xcB (K : PySem.W.Frag) (x : Str) : Bool := oexB K (He.ga K x) && (xfB K (He.ga K x) && (He.eqO (PySem.W.findIn K (.ref (He.ga K x)) "__setattr__") (some (some (.builtin "object.__setattr__"))) && (decide (PySem.W.typeIn K (.ref (He.ga K x)) = some (.type "type")) &&
  (PySem.W.keepIn K (.ref (He.ga K x)) && decide (PySem.W.typeIn K (.ref (He.ma K (He.ga K x) "__init__")) = some (.type "function"))))))
theorem xc_of (X : K.In h) (G : h.Ns mainGlobals mg) (c : He.SaysD fa fn K) {x : Str} (e : xcB K x = true) (i j k : Nat) (h1 : fa[i]? = some (.glo x) := by rfl) (h2 : fa[j]? = some (.meth x "__init__") := by rfl) (h3 : fa[k]? = some (.exm x x true) := by rfl) : XcC K mg x (He.ga K x) (He.ma K (He.ga K x) "__init__") := by
  obtain ⟨e1, e⟩ := Bool.and_eq_true_iff.mp e
  obtain ⟨e2, e⟩ := Bool.and_eq_true_iff.mp e
  obtain ⟨e3, e⟩ := Bool.and_eq_true_iff.mp e
  obtain ⟨e4, e⟩ := Bool.and_eq_true_iff.mp e
  obtain ⟨e5, e6⟩ := Bool.and_eq_true_iff.mp e
  have xf := xfB_ok e2
  exact ⟨⟨oexB_ok e1, He.eqO_ok e3, xf.exC, of_decide_eq_true e4, e5⟩, xf, He.glo_ok X G (c.fact i h1), (He.meth_ok (c.fact j h2)).1, of_decide_eq_true e6, He.exm_ok (c.fact k h3)⟩
theorem ini_of (c : He.SaysD fa fn K) {x q : Str} {st : Stmt} (j : Nat) (h2 : fn[j]? = some (iniD x q st) := by rfl) : ∃ fd, Fun K "__init__" q st (He.ma K (He.ga K x) "__init__") fd := by
  obtain ⟨fd, F⟩ := c.def_ j (d := iniD x q st) h2
  exact ⟨fd, fun_of_D F⟩
/-- a pair of numbers as the module's constant -/
theorem con2_of (X : K.In h) (G : h.Ns mainGlobals mg) (c : He.SaysD fa fn K) {x : Str} {a b : Int} (e : He.tupB K x [.int a, .int b] = true) (i : Nat) (h1 : fa[i]? = some (.glo x) := by rfl) : Con K mg x (.tup [.int a, .int b]) :=
  ⟨_, .ref (He.ga K x), He.glo_ok X G (c.fact i h1), rfl, fun m H => ⟨He.ga K x, [.int a, .int b], rfl, He.tupB_ok e H, ⟨.int a, [.int b], rfl, rfl, .int b, [], rfl, rfl, rfl⟩⟩⟩
/-! ### the start -/
theorem tab_of {a : Addr} (n : NeedTab K a) : a ∈ (tabNames.map fun x => He.cT K (x, none)).map (·.2) := by
  obtain ⟨x, hx, c, f, oc, od, fd, sl, e, dd, vs, sl2, h1, h2, h3, h4, h5⟩ := n
  refine List.mem_map.mpr ⟨He.cT K (x, none), List.mem_map.mpr ⟨x, hx, rfl⟩, ?_⟩
  have eg : He.ga K x = f := by
    unfold He.ga
    rw [h1]
  have ec : He.codeOf K (x, none) = c := He.codeOf_eq (p := (x, none)) (by show K.lookup (He.ga K x) = _; rw [eg]; exact h2) h3
  show He.tabOf K (He.codeOf K (x, none)) = a
  rw [ec]
  unfold He.tabOf
  rw [h4]
  have z : vs.getD 11 .none = .ref a := by
    rw [Array.getD_eq_getD_getElem?, h5]
    rfl
  dsimp only
  rw [z]
theorem so_start {H : Hp} (hT : ∀ p ∈ tabNames.map fun x => He.cT K (x, none), H p.2 = some (.tbl #[])) : SO K ⟨[], [], (tabNames.map fun x => He.cT K (x, none)).map (·.2)⟩ H [] :=
  ⟨rfl, List.nodup_nil, fun a ha => absurd ha (by simp), fun a ha => absurd ha (by simp), fun a ha => by
    obtain ⟨p, hp, e⟩ := List.mem_map.mp ha
    exact ⟨#[], by rw [← e]; exact hT p hp, by simp [TriplesOk]⟩, fun a => tab_of, fun l a ds h1 h2 => by simp at h2⟩
theorem script_rep {m : Ms} {H : Hp} {vs : List V} : ∀ {ns : List Int}, vs = ns.map V.int → Reps K m H (ns.map D.int) vs
  | [], e => e
  | n :: ns, e => ⟨.int n, ns.map V.int, e, rfl, script_rep rfl⟩
/-- the law's promise at the start -/
theorem pf_start {H : Hp} {a : Addr} {ns : List Int} {F : List D → S → R D} {st' : S} (hT : ∀ p ∈ tabNames.map fun x => He.cT K (x, none), H p.2 = some (.tbl #[])) (hS : SqL K H a (ns.map V.int)) (e : F [.fz (ns.map D.int)] [] = .ok (.bl true) st') :
    PF K mg 1 F [.ref a] H (fun v _ => v = .bl true) fun _ _ _ => False := by
  refine ⟨rfl, _, [.fz (ns.map D.int)], [], ⟨.ref a, [], rfl, ⟨a, ns.map V.int, rfl, ?_, script_rep rfl⟩, rfl⟩, so_start hT, ?_⟩
  · rcases hS with q | q
    · refine Or.inl ⟨q, fun z => ?_⟩
      rcases z with z | z | z
      · exact absurd z (by simp)
      · exact absurd z (by simp)
      · obtain ⟨p, hp, ep⟩ := List.mem_map.mp z
        have t := hT p hp
        rw [ep] at t
        rcases q with q | ⟨o, q⟩
        · rw [t] at q
          cases q
        · rw [t] at q
          cases q
    · exact Or.inr q
  · rw [e]
    exact fun v m' H' _ r _ => r
end
/-- the law's place in the head's end -/
theorem law_at {l : PySem.W.OpenLaw} {w : World} {K : PySem.W.Frag} {mg : Str → Option Value} {a : Addr} {h : Heap} {n k : Nat} {x : Str} {st : Stmt} {F : List D → S → R D} (hg : mg "law" = some (.ref a))
    (em : ∀ p ∈ tabNames.map fun x => He.cT K (x, none), h.get? p.2 = some { cls := .none, data := .fields #[] }) (out : ∀ p ∈ tabNames.map fun x => He.cT K (x, none), K.lookup p.2 = none) (hd : ∀ p ∈ tabNames.map fun x => He.cT K (x, none), PySem.W.CodeHd h p.1 p.2)
    (hlaw : ∀ ns : List Int, ns.length ≤ n → (∀ z ∈ ns, Builtin.Int.intBits z ≤ 1048576) → ∃ st', F [.fz (ns.map D.int)] [] = .ok (.bl true) st')
    (T : Dfn K mg "law" st) (hb : BindRfl "law" st [x])
    (hF : ∀ base : Heap, K.In base → base.Ns mainGlobals mg → (∀ p ∈ tabNames.map fun x => He.cT K (x, none), LamX.TabB base mg p.1 p.2) → Pok l.prog w K mg base k "law" st [x] F) : LamX.LawAtS l w K (L2.CX l.prog w) k n x mg a h := by
  obtain ⟨f, fd, h1, F0⟩ := T.ex
  rw [hg] at h1
  cases h1
  refine ⟨fd, _, PF K mg 1 F, em, out, hd, fun s u => ?_, fun H b ns hl hbits hT hS => ?_, fun base X G hTB => ?_⟩
  · obtain ⟨oc, od, kV, doc, pm, an, cdv, ct, osl, rfl, _, _⟩ := F0.ex
    exact BindsTo.of_eq (hb kV doc pm an cdv ct [u] rfl)
  · obtain ⟨st', e⟩ := hlaw ns hl hbits
    exact pf_start hT hS e
  · obtain ⟨f2, fd2, g1, g2, g3, g4, g5⟩ := (hF base X G hTB).ex
    rw [hg] at g1
    cases g1
    have same : fd2 = fd := by
      obtain ⟨oc, od, kV, doc, pm, an, cdv, ct, osl, e1, l1, _⟩ := F0.ex
      obtain ⟨oc2, od2, kV2, doc2, pm2, an2, cdv2, ct2, osl2, e2, l2, _⟩ := g3.ex
      rw [l1] at l2
      have z := Option.some.inj l2
      cases z
      rfl
    rw [same] at g5
    exact g5
end Sv
set_option Elab.async false
set_option linter.all false
set_option maxRecDepth 100000
set_option maxHeartbeats 4000000
namespace Sg
open PySem PySem.Spec PyProof.Rows L2 GenW
/-- what is left behind a generator drained into the list at Sa -/
abbrev Drained (P : Program) (w : World) (outer : List Env) (H : Hp) (sc : Shared) (ex : List Addr) (Q : List V → Hp → Prop) (Sa : Addr) (s' : Shared) : Prop :=
  ∃ (acc : Array Value) (c : Nat) (H' : Hp) (ys : List V), s'.heap.get? Sa = some (lstObj acc c) ∧ Vals ys acc.toList ∧ ys.length ≤ sizeLine ∧ s'.os = sc.os ∧ AllBare s'.gens ∧ Un (frs outer) ex H H' sc.heap s'.heap ∧ HOk P w H' s'.heap ∧ H' Sa = none ∧ Q ys H'
/-- all items of a generator that has not begun, into a new list -/
theorem collect_made {P : Program} {w : World} {outer : List Env} {H : Hp} {sc s : Shared} {ex : List Addr} {Q : List V → Hp → Prop} {EX : XK} {A : Around} {k : Nat} {u : Value} {Q' : List Value → Shared → Prop} {E : Value → Shared → Prop}
    (hr : Room (k + 3) A) (hfr : A.frames = some outer) (h : GMade P w k outer H sc ex Q EX u s) (hQ : ∀ s' acc, (∃ c H' ys, s'.heap.get? s.heap.objs.size = some (lstObj acc c) ∧ Vals ys acc.toList ∧ ys.length ≤ sizeLine ∧ s'.os = sc.os ∧ AllBare s'.gens ∧ Un (frs outer) ex H H' sc.heap s'.heap ∧ HOk P w H' s'.heap ∧ H' s.heap.objs.size = none ∧ Q ys H') → Q' acc.toList s')
    (hexc : ∀ e s' g, CX P w outer H sc EX e s' → L2.NotStop (model P w) e s'.heap ∧ E e (s'.setGen g .finished)) : wpAny (model P w) A (collect u) Q' E s := by
  obtain ⟨a, g, c, rfl, ha1, ha2, hg, hgs, hos, hb, hl, hkp, wake⟩ := h
  have nSa : s.heap.objs.size ≠ a := Nat.ne_of_gt ha2
  have nSc : s.heap.objs.size ≠ cStatics := Nat.ne_of_gt (let ⟨_, hn, _⟩ := hl; hn.lt)
  unfold collect
  refine wpAny_bind (wpAny_runValue (codeAny_builtin F.entry_proto_collect ?_))
  rw [Around.under_plainId F.plain_proto_collect _]
  show wpAny _ A.in1 (newList [] >>= fun l => again (.builtin "list.__iadd__" ⟨[l, .ref a], []⟩)) _ _ s
  refine wpAny_bind (wpAny_newObj_type (wpAny_pure ⟨plainId_quiet F.plain_list_iadd _, codeAny_builtin F.entry_list_iadd ?_⟩))
  rw [Around.under_plainId F.plain_list_iadd _]
  generalize hs1 : ({ s with heap := s.heap.push { cls := .type "list", data := .seq ([] : List Value).toArray } } : Shared) = s1
  have k1 : ∀ b o, s.heap.get? b = some o → s1.heap.get? b = some o := fun b o e => by rw [← hs1]; exact Heap.get?_push_of_some _ e
  have hS : s1.heap.get? s.heap.objs.size = some { cls := .type "list", data := .seq ([] : List Value).toArray } := by rw [← hs1]; exact Heap.get?_push_size _ rfl
  have gen : ∀ {hh : Heap}, (∀ b o, s.heap.get? b = some o → hh.get? b = some o) → hh.IsGen a g := fun {hh} q => hg.keeps q
  show wpAny _ A.in1 (Builtin.List.listExtendWith (.ref s.heap.objs.size) (.ref a) (.ref s.heap.objs.size)) _ _ _
  unfold Builtin.List.listExtendWith
  refine wpAny_bind (wpAny_typeOf (Heap.IsGen.typeIs (s := s1) (gen k1)) ?_)
  have q1 : Builtin.List.listSameRef (.ref s.heap.objs.size) (.ref a) = false := by simp [Builtin.List.listSameRef, nSa]
  have q2 : (Value.type "generator" == Value.type "list") = false := by decide
  have q3 : (Value.type "generator" == Value.type "tuple") = false := by decide
  simp only [q1, q2, q3, Bool.or_false, Bool.false_eq_true, if_false]
  refine wpAny_bind (wpAny_pyIter_gen (s := s1) (gen k1) (wpAny_bind (wpAny_holding ?_)))
  unfold Builtin.List.listLengthHint
  have hgs' : s1.gens[g]? = some (.fresh c) := by rw [← hs1]; exact hgs
  refine wpAny_bind (wpAny_specialOf (Heap.IsGen.typeIs (s := s1) (gen k1)) F.gen_no_len ?_)
  show wpAny _ A.in1 (specialOf (Value.ref a) (Str.ofString "__length_hint__") >>= _) _ _ _
  refine wpAny_bind (wpAny_specialOf (Heap.IsGen.typeIs (s := s1) (gen k1)) F.gen_no_hint (wpAny_pure ?_))
  show wpAny _ A.in1 (rule "list.extend.makes-room" >>= fun _ => (updateSeq s.heap.objs.size (·.push .none) >>= fun _ => updateSeq s.heap.objs.size (·.pop)) >>= fun _ =>
    again (.builtin "list.extend.loop" ⟨[.ref s.heap.objs.size, .ref a, .ref s.heap.objs.size], []⟩)) _ _ _
  refine wpAny_bind (wpAny_rule (wpAny_bind (wpAny_bind (wpAny_updateSeq hS rfl ?_))))
  have hS2 := Heap.get?_update_self (Obj.mapSeq (·.push Value.none)) hS rfl
  refine wpAny_updateSeq (hz := by seq_fits) hS2 rfl ?_
  have hS3 := Heap.get?_update_self (Obj.mapSeq (·.pop)) hS2 rfl
  have stay : ∀ (f : Obj → Obj) (hh : Heap), (∀ b o, s.heap.get? b = some o → hh.get? b = some o) → ∀ b o, s.heap.get? b = some o → (hh.update s.heap.objs.size f).get? b = some o := fun f hh q b o e =>
    (Heap.get?_update_other _ _ fun z => absurd (Heap.lt_size e) (by rw [z]; exact Nat.lt_irrefl _)).trans (q b o e)
  have k3 := stay (Obj.mapSeq (·.pop)) _ (stay (Obj.mapSeq (·.push Value.none)) _ k1)
  refine wpAny_pure ⟨plainId_quiet F.plain_extend_loop _, ?_⟩
  refine drain (P := P) (w := w) (outer := outer) (H := H) (sc := sc) (ex := ex) (Q := Q) (EX := EX) (A := A) (g := g) hr.hd (by have := hr.dp; omega) nSa nSc
    (fun s' acc c H' ys w1 w2 w3 w4 w5 w6 w7 w8 w9 => ?_) (fun e s' hc => hexc e s' g hc) sizeLine _ (gen k3) (hl.keeps k3) ⟨_, hgs', rfl, ?_⟩
  · show wpAny _ A (load s.heap.objs.size >>= _) _ _ s'
    exact wpAny_bind (wpAny_load w1 (wpAny_pure (hQ s' acc ⟨c, H', ys, w1, w2, w3, w4, w5, w6, w7, w8, w9⟩)))
  · refine wake _ _ _ ⟨hr.hd, ?_, ?_⟩ hfr (Nat.le_refl _) k3 ⟨_, hS3⟩ ?_ ?_
    · have := hr.dp
      show A.depth + 3 * k + 5 < _
      omega
    · have := hr.un
      show A.units + 1 + 1 + 16 * k + 200 < _
      omega
    · rw [← hs1]
      exact hos
    · rw [← hs1]
      exact allBare_setGen (s := { s with heap := _ }) hb rfl
/-- tuple(g) -/
theorem call_tuple_made {P : Program} {w : World} {outer : List Env} {H : Hp} {sc s : Shared} {ex : List Addr} {Q : List V → Hp → Prop} {EX : XK} {A : Around} {k : Nat} {u : Value} {Q' : Value → Shared → Prop} {E : Value → Shared → Prop}
    (hr : Room (k + 4) A) (hfr : A.frames = some outer) (h : GMade P w k outer H sc ex Q EX u s)
    (hQ : ∀ (s' : Shared) (acc : Array Value) (c : Nat) (H' : Hp) (ys : List V), s'.heap.get? s.heap.objs.size = some (lstObj acc c) → Vals ys acc.toList → ys.length ≤ sizeLine → s'.os = sc.os → AllBare s'.gens → Un (frs outer) ex H H' sc.heap s'.heap → HOk P w H' s'.heap → H' s.heap.objs.size = none → Q ys H' →
      Q' (.ref s'.heap.objs.size) { s' with heap := s'.heap.push { cls := .type "tuple", data := .seq acc } })
    (hexc : ∀ e s' g, CX P w outer H sc EX e s' → L2.NotStop (model P w) e s'.heap ∧ E e (s'.setGen g .finished)) : wpAny (model P w) A (call (.type "tuple") [u]) Q' E s := by
  obtain ⟨a, g, c, e, _, _, hg, _⟩ := id h
  subst e
  have room2 : Room (k + 3) A.in1.in1 := ⟨hr.hd, by have := hr.dp; show A.depth + 3 * (k + 3) + 5 < _; omega, by have := hr.un; show A.units + 1 + 1 + 16 * (k + 3) + 200 < _; omega⟩
  refine callType_codes (Q₁ := fun obj s₁ => s₁.TypeIs obj "tuple" ∧ Q' obj s₁) F.called_tuple (F.typeCall_tuple_1 _) F.entry_object_init ?_ fun obj s1 h1 => ?_
  · refine codeAny_of_tree ?_
    show wpAny _ A.in1.in1 (do checkBuiltinCall "tuple.__new__" ⟨[.type "tuple", .ref a], []⟩; again (.builtin "tuple.__new__" ⟨[.type "tuple", .ref a], []⟩)) _ _ s
    refine wpAny_bind (wpAny_of_eq (F.newCall_tuple_1 _) (wpAny_pure ⟨plainId_quiet F.plain_tuple_new _, codeAny_builtin F.entry_tuple_new ?_⟩))
    rw [Around.under_plainId F.plain_tuple_new _]
    have t1 := sub_tuple_self
    have t2 := init_tuple_lookup
    have t3 := madeHere_tuple
    have t4 := hg.typeIs (s := s)
    wp_walk using wpAny_typeOf t4, collect_made room2 hfr h
    case hexc => exact hexc
    case hQ =>
      intro s' acc ⟨c', H', ys, w1, w2, w3, w4, w5, w6, w7, w8, w9⟩
      have back : acc.toList.toArray = acc := by simp
      have fits : acc.toList.toArray.size ≤ sizeLine := by
        rw [back, ← Array.length_toList, ← Paired.length w2]
        exact w3
      show wpAny _ _ (Builtin.Tuple.tupleExact acc.toList.toArray >>= fun v => ret v) _ _ s'
      unfold Builtin.Tuple.tupleExact
      refine wpAny_bind (wpAny_newObj_type ?_ fits)
      rw [back]
      exact wpAny_pure ⟨⟨_, Heap.get?_push_size _ rfl, rfl⟩, hQ s' acc c' H' ys w1 w2 w3 w4 w5 w6 w7 w8 w9⟩
  · exact ⟨h1.1, F.args_object_init_2 obj _, object_init_meets F.called_tuple.init.lookup F.called_tuple.made (by decide) P w A.in1 _ s1 ⟨h1.1, rfl, h1.2⟩⟩
def tTupleG (tg : TGen) : TE := fun σ H Q => tg σ H fun out H2 => ∀ Sa p, H2 Sa = none → H2 p = none → p ≠ Sa → Q (.ref p) (upd (upd H2 Sa (.lst out)) p (.tup out))
/-- tuple(g) as an expression -/
theorem pe_tupleG {X : Cx} {k : Nat} {e : Expr} {tg : TGen} {E : XK} {nm : Str} {p pos' : Pos} (h : PGen X k e tg E) (hx : Passes (CX X.prog X.w) X E) (hns : NoStop X.K E) (hr : Room (k + 4) X.A) (hg : Gl X nm) (hmg : X.mg nm = none) (hv : bootBuiltins nm = some (.type "tuple")) (hnm : nm ≠ "__name__" := by decide) (hdb : (nm == ("__debug__" : Str)) = false := by decide)
    (he : starEach [e] X.env = (false, eval e X.env) :: starEach [] X.env := by rfl) : PE X (.Call (.Name nm p) [e] [] pos') (tTupleG tg) := by
  refine ⟨fun pins s σ H Q I hq => wpAny_Call_Name_kw (ld_blt I hg hmg hv (PyProof.Rows.callWith_type1 ?_ he rfl) hnm hdb)⟩
  rw [he]
  show wpAny _ _ (spliced ((false, eval e X.env) :: backTo pos' (starEach [] X.env))) _ _ s
  refine Calls.spliced_cons (thn (h.run pins s σ H _ I hq) fun u s1 ⟨H1, sc, ex, I1, hex, hG⟩ => Calls.spliced_nil ?_)
  have hsz : sc.heap.objs.size ≤ s1.heap.objs.size := by
    obtain ⟨a, g, c, _, h1, h2, _⟩ := hG
    exact Nat.le_trans h1 (Nat.le_of_lt h2)
  refine call_tuple_made hr I1.ok.frames hG (fun s' acc c H' ys q1 q2 hl q3 q4 q5 q6 q7 q8 => ?_) fun e s' g hc => ?_
  · have J := I1.drained hsz hl q1 q2 hex q3 q4 q5 q6 q7
    have hn : (upd H' s1.heap.objs.size (.lst ys)) s'.heap.objs.size = none := J.hok.fresh (Nat.le_refl _)
    have hne : s'.heap.objs.size ≠ s1.heap.objs.size := fun z => by
      rw [z, upd_same] at hn
      cases hn
    have hn2 : H' s'.heap.objs.size = none := by
      rw [upd_ne hne] at hn
      exact hn
    refine ⟨.ref s'.heap.objs.size, _, J.laid (t' := s'.toks) (a := s'.heap.objs.size) (o := .tup ys) (h' := s'.heap.push { cls := .type "tuple", data := .seq acc }) (fun b o e => Heap.get?_push_of_some _ e) (Nat.le_refl _) ⟨hl, acc.toList, q2, ⟨_, Heap.get?_push_size _ rfl, rfl, _, congrArg (fun z => Data.seq z _) (show acc = acc.toList.toArray by simp)⟩⟩, rfl, q8 _ _ q7 hn2 hne⟩
  · have kin : X.K.In s'.heap := by
      obtain ⟨a, B, H', cls, d, _, fl, _, ub, _⟩ := id hc
      refine I1.ok.mod.kin.keeps fun b o eb => fl.1 b o (ub.keep b o (I1.bs b o eb).1 (I1.bs b o eb).2 fun hm => ?_)
      rcases List.mem_cons.mp (I1.stkSub b hm) with z | z
      · have l1 := Heap.lt_size eb
        have l2 := Nat.le_trans I1.ok.bsz I1.ok.above
        rw [z] at l1
        exact absurd (Nat.lt_of_lt_of_le l1 l2) (Nat.lt_irrefl _)
      · exact I1.ok.nofr eb z
    refine ⟨notStop_of hns kin hc, hx pins σ H1 sc e _ I1 ?_⟩
    obtain ⟨a, B, H', cls, d, z1, fl, z2, ub, z3, z4, z5, z6⟩ := hc
    exact ⟨a, B, H', cls, d, z1, fl, z2, ub, z3, z4, allBare_setGen z5 rfl, z6⟩
end Sg
set_option Elab.async false
set_option linter.all false
set_option maxRecDepth 100000
set_option maxHeartbeats 4000000
namespace Sg
open PySem PySem.Spec PyProof.Rows L2 GenW
/-! ### a generator expression: a generator that has not begun -/
/-- the context of its frame -/
abbrev gex (X : Cx) (sc : Shared) (H1 : Hp) (A : Around) (cenv : Env) (fp : List Addr) (pn : List (Addr × Obj)) : Cx :=
  { X with s_0 := sc, H_0 := H1, A := A, env := cenv, outer := X.stack, stack := cenv :: X.stack, ex := fp, fn := fun _ => false, calm := true, pn := pn, xe := fun _ _ => False }
theorem gex_start {X : Cx} {pins : List (Addr × Obj)} {σ : L2.St} {H : Hp} {sc : Shared} {scope : Scope} {own : List (Str × Nat)} {fp : List Addr} {A : Around} {code : Value} {h' : Heap} {mm : Str → Option Value} {tk : Nat}
    (I : Inv X pins σ H sc) (ok : BlkOk X.N X.env.scope scope own) (hN : X.N.Nodup) (nc : ∀ y ∈ scope.names, y.2 ≠ .cell) (hfp : ∀ b ∈ fp, FpOk X pins H b ∧ b < sc.heap.objs.size) (hd : A.handled = none)
    (hfr : A.frames = some (genEnv scope (cloFrom X.env.cells scope.names []) sc.heap.objs.size code builtinsNs X.env :: X.stack)) (hn : h'.Ns sc.heap.objs.size mm) (kp : ∀ b o, sc.heap.get? b = some o → h'.get? b = some o) :
    Inv (gex X sc H A (genEnv scope (cloFrom X.env.cells scope.names []) sc.heap.objs.size code builtinsNs X.env) fp []) [] (wipe σ (own.map (·.2))) H { sc with heap := h', toks := tk } := by
  have hfree : ∀ y ∈ scope.names, y.2 = .free → ∃ c, X.env.cells.lookup y.1 = some c := fun y hy e => by
    rcases ok.free y hy e with k | k
    · exact I.ok.has _ (.inl k)
    · exact I.ok.has _ (.inr k)
  have cm : ∀ {y c}, (cloFrom X.env.cells scope.names []).lookup y = some c → X.env.cells.lookup y = some c := fun {y c} hl => by
    rcases cloFrom_mem (PySem.mem_of_lookup hl) with hm | ⟨h1, rfl⟩
    · cases hm
    · obtain ⟨c, hc⟩ := hfree _ h1 rfl
      rw [hc]
      rfl
  have look : ∀ {y}, scope.names.lookup y = some .free → ∃ c, (cloFrom X.env.cells scope.names []).lookup y = some c ∧ X.env.cells.lookup y = some c := fun {y} hl => by
    have hy : (y, NameKind.free) ∈ scope.names := PySem.mem_of_lookup hl
    obtain ⟨c', e'⟩ := mem_lookup (cloFrom_has (cells := X.env.cells) (acc := []) hy)
    exact ⟨c', e', cm e'⟩
  generalize hcl : cloFrom X.env.cells scope.names [] = cl at cm look hfr ⊢
  generalize hce : genEnv scope cl sc.heap.objs.size code builtinsNs X.env = ce at hfr ⊢
  have cL : ce.locals = sc.heap.objs.size := by subst hce; rfl
  have cC : ce.cells = cl := by subst hce; rfl
  have cS : ce.scope = scope := by subst hce; rfl
  have cG : ce.globals = X.env.globals := by subst hce; rfl
  have cB : ce.builtins = builtinsNs := by subst hce; rfl
  have cF : ce.frame = some ce.locals := by subst hce; rfl
  have okG : (gex X sc H A ce fp []).Ok := by
    refine ⟨I.ok.mod, by show ce.scope.kind = _; rw [cS]; exact ok.kind, by show ce.globals = _; rw [cG]; exact I.ok.glob, cB, by show sc.heap.objs.size ≤ ce.locals; rw [cL]; exact Nat.le_refl _,
      fun y z c e1 e2 => ?_, fun y hy => ?_, fun y c z e => absurd z Bool.false_ne_true, fun _ => hd, hfr, .inr ⟨rfl, cF⟩, fun b hb => ⟨?_, fun y c e z => ?_⟩, I.bs, Nat.le_trans I.ok.bsz I.sz, fun b o e hb => ?_, fun b hb z => ?_, I.stack, I.stkFree⟩
    · have e1 : ce.cells.lookup y = some c := e1
      have e2 : ce.cells.lookup z = some c := e2
      rw [cC] at e1 e2
      exact I.ok.inj y z c (cm e1) (cm e2)
    · show ∃ c, ce.cells.lookup y = some c
      have hy : ce.scope.names.lookup y = some .cell ∨ ce.scope.names.lookup y = some .free := hy
      rw [cS] at hy
      rw [cC]
      rcases hy with hy | hy
      · exact absurd rfl (nc _ (PySem.mem_of_lookup hy))
      · obtain ⟨c, h1, _⟩ := look hy
        exact ⟨c, h1⟩
    · show b ≠ ce.locals
      rw [cL]; exact Nat.ne_of_lt (hfp b hb).2
    · have e : ce.cells.lookup y = some c := e
      rw [cC] at e
      exact (hfp b hb).1.2.2.2.2.1 y c (cm e) z
    · rcases (hfp b hb).1.2.2.2.1 with z | z
      · exact I.ok.noex b o e z
      · exact absurd (Nat.lt_of_lt_of_le (Heap.lt_size e) (Nat.le_trans I.ok.bsz z)) (Nat.lt_irrefl _)
    · rcases List.mem_cons.mp (I.stkSub b z) with z | z
      · exact (hfp b hb).1.2.1 z
      · exact (hfp b hb).1.2.2.1 z
  refine ⟨okG, rfl, I.bare, Un.kept kp, ⟨mm, by show h'.Ns ce.locals mm; rw [cL]; exact hn, fun i y av e1 e2 e3 => ?_⟩, fun y c e => ?_, ?_, fun y c e => ?_, fun p hp => absurd (show p ∈ ([] : List (Addr × Obj)) ++ [] from hp) (by simp), I.hok.kept kp, by rw [wipe_length]; exact I.len⟩
  · obtain ⟨e2, hne⟩ := wipe_some e2
    have hfr : scope.names.lookup y = some .free := by
      have e3 : Vis ce.scope y := e3
      rw [cS] at e3
      have no : ∀ k, scope.names.lookup y = some k → ¬ (k = .local ∨ k = .cell) := fun k e hh => by
        rcases ok.own _ (PySem.mem_of_lookup e) hh with e' | e'
        · obtain ⟨p, hp, hpy⟩ := List.mem_map.mp e'
          have e3 := ok.ix p hp
          have : p.1 = y := hpy
          rw [this] at e3
          exact hne (List.mem_map.mpr ⟨p, hp, nodup_ix hN e3 e1⟩)
        · exact e' (List.mem_of_getElem? e1)
      rcases e3 with e3 | e3 | e3
      · exact absurd (.inl rfl) (no _ e3)
      · exact absurd (.inr rfl) (no _ e3)
      · exact e3
    obtain ⟨m, hn, hl⟩ := I.loc
    have hvis : Vis X.env.scope y := (ok.free _ (PySem.mem_of_lookup hfr) rfl).elim (fun k => .inr (.inl k)) (fun k => .inr (.inr k))
    obtain ⟨w, r, q⟩ := hl i y av e1 e2 hvis
    refine ⟨w, r, .inr ⟨.inr (by show ce.scope.names.lookup y = _; rw [cS]; exact hfr), ?_⟩⟩
    obtain ⟨c, h1, h2⟩ := look hfr
    rcases q with ⟨k, _⟩ | ⟨_, c', e', z⟩
    · have k : X.env.scope.names.lookup y = some .local := k
      rcases ok.free _ (PySem.mem_of_lookup hfr) rfl with k' | k' <;> rw [show X.env.scope.names.lookup y = _ from k'] at k <;> cases k
    · rw [h2] at e'; cases e'
      exact ⟨c, by show ce.cells.lookup y = _; rw [cC]; exact h1, z.keeps kp⟩
  · have e : ce.cells.lookup y = some c := e
    rw [cC] at e
    obtain ⟨w, z⟩ := I.cell y c (cm e)
    exact ⟨w, z.keeps kp⟩
  · show H ce.locals = none
    rw [cL]; exact I.hok.fresh (Nat.le_refl _)
  · have e : ce.cells.lookup y = some c := e
    rw [cC] at e
    exact I.freeC y c (cm e)
theorem over_ge {A : Around} {elt : Expr} {gens : List Comprehension} {scope : Scope} {pos : Pos} {it acc : Value} {env : Env} : A.over (.compLoop (.GeneratorExp elt gens scope pos) 0 it acc env) [] = A.deeper env := by
  first
    | rfl
    | (obtain ⟨hd, d, fr, gs, u⟩ := A; simp [Around.over, Around.deeper, marksOver, frameCount, unitsOf, envsOf, guardsOf, pushEnvs, pushGuards, Code.envs, Code.env?, Code.isFrame, Code.guards, Code.isGuard, Code.weight, Code.frames, Code.isCreation, Code.isCaller, Code.cUnits])
theorem over_ge0 {A : Around} {elt : Expr} {gens : List Comprehension} {scope : Scope} {pos : Pos} {it acc : Value} {env : Env} : A.over (.compStart (.GeneratorExp elt gens scope pos) 0 it acc env) [] = A.deeper env := by
  first
    | rfl
    | (obtain ⟨hd, d, fr, gs, u⟩ := A; simp [Around.over, Around.deeper, marksOver, frameCount, unitsOf, envsOf, guardsOf, pushEnvs, pushGuards, Code.envs, Code.env?, Code.isFrame, Code.guards, Code.isGuard, Code.weight, Code.frames, Code.isCreation, Code.isCaller, Code.cUnits])
/-- what a generator expression hands out: W by the turn and a measure -/
def tGe (P : Addr) (wi : TI) (g : TG) (tt : TT) (te : TE) (vs : List Nat) : TGen := fun σ H cont => wi σ H fun J H1 => GxR.TabG H1 P ∧ ∀ H2, GxR.Tabbed P H1 H2 → ∃ W : Nat → Nat → List V → Hp → Prop, (∃ m, W 0 m [] H2) ∧ ∀ i m ys H, W i m ys H →
  (J.stop i H ∧ cont ys H) ∨ (J.go i H ∧ ∃ Nx : List V → Hp → Prop, (∀ ys' H', Nx ys' H' → ∃ m', m' < m ∧ W (i + 1) m' ys' H') ∧ ∀ x H', J.yld i H x H' → g x (wipe σ vs) H' fun σ2 H2 => wipe σ2 vs = wipe σ vs ∧ tt σ2 H2 fun b H3 =>
    if b = true then te σ2 H3 fun y H4 => ys.length < sizeLine ∧ Nx (ys ++ [y]) H4 else Nx ys H3)
theorem pgen_ge {X : Cx} {kk : Nat} {c P : Addr} {elt tg iter : Expr} {ifs : List Expr} {scope : Scope} {own : List (Str × Nat)} {gpos : Pos} {wi : TI} {g : TG} {tt : TT} {te : TE}
    (hc : X.calm = true) (hr : Room 1 X.A) (hN : X.N.Nodup) (TB : GxR.TabB X.base X.mg c P) (hcode : X.env.code = .ref c) (hi : PI X tg iter wi) (ok : BlkOk X.N X.env.scope scope own) (nc : ∀ y ∈ scope.names, y.2 ≠ .cell)
    (hco : scope.isCoroutine = false) (h0 : scope.names.lookup (".0" : Str) = some NameKind.local)
    (hg : ∀ (s : Shared) (H : Hp) (A : Around) (C : Addr) (cl : List (Str × Addr)) (cv : Value) (fp : List Addr) (pn : List (Addr × Obj)), Room kk A → PG (gex X s H A (genEnv scope cl C cv builtinsNs X.env) fp pn) tg g)
    (ht : ∀ (s : Shared) (H : Hp) (A : Around) (C : Addr) (cl : List (Str × Addr)) (cv : Value) (fp : List Addr) (pn : List (Addr × Obj)), Room kk A → PTs (gex X s H A (genEnv scope cl C cv builtinsNs X.env) fp pn) ifs tt)
    (he : ∀ (s : Shared) (H : Hp) (A : Around) (C : Addr) (cl : List (Str × Addr)) (cv : Value) (fp : List Addr) (pn : List (Addr × Obj)), Room kk A → PE (gex X s H A (genEnv scope cl C cv builtinsNs X.env) fp pn) elt te)
    (hs : ∀ v, genFold iter X.env v = pure v) : PGen X (kk + 1) (.GeneratorExp elt [⟨tg, iter, ifs, 0⟩] scope gpos) (tGe P wi g tt te (own.map (·.2))) E0 := by
  refine ⟨fun pins s σ H cont I h => ?_⟩
  have hfree : ∀ y ∈ scope.names, y.2 = .free → ∃ c, X.env.cells.lookup y.1 = some c := fun y hy e => by
    rcases ok.free y hy e with k | k
    · exact I.ok.has _ (.inl k)
    · exact I.ok.has _ (.inr k)
  refine wpAny_GeneratorExp_make hco (closure_ok hfree) nc h0 ok.kind (by have := hr.dp; omega) ?_ hs
  refine thn (hi.run pins s σ H _ I h) fun xv s1 hx => thn hx fun itv s2 h2 => ?_
  obtain ⟨it, fp, tn, J, H2, e, I2, T, st2, f2, ⟨ps, hP, ht0⟩, q⟩ := h2
  subst e
  refine ⟨I2.nolimit, ?_⟩
  have hPs : s2.heap.get? P = some { cls := .none, data := .fields ps } := I2.hok P _ hP
  have cd : PySem.W.CodeHd s2.heap c P := TB.code.keeps I2.bk
  have cont2 : ∀ (code : Value) (h3 : Heap) (tk : Nat) (ps' : Array Value), Heap.ExtBut P s2.heap h3 → s2.heap.objs.size ≤ h3.objs.size → h3.get? P = some { cls := .none, data := .fields ps' } → (∃ more, ps' = ps ++ more) → TriplesOk ps'.toList →
      wpAny (model X.prog X.w) X.A (builtinsFor X.env.globals X.env.builtins) (fun bi s₄ => ∀ h', h'.Ns s₄.heap.objs.size (fun y => if y = ".0" then some (Value.ref it) else none) → Heap.SameBut s₄.heap.objs.size (s₄.heap.push { cls := .type "frame", data := .dict #[] }) h' →
        (fun u s' => ∃ H1 sc ex, Inv X pins σ H1 sc ∧ ExOk X pins ex ∧ GMade X.prog X.w (kk + 1) X.stack H1 sc ex cont E0 u s') (.ref h'.objs.size) { s₄ with
            gens := s₄.gens.push (.fresh (.compStart (.GeneratorExp elt [⟨tg, iter, ifs, 0⟩] scope gpos) 0 (.ref it) .none (genEnv scope (cloFrom X.env.cells scope.names []) s₄.heap.objs.size code bi X.env))),
            toks := s₄.toks + 1 + 1 + 1,
            heap := h'.push { cls := .type "generator", data := .fields #[.int s₄.gens.size 0, .str "<genexpr>" (s₄.toks + 1), .str (X.env.qual ++ "<genexpr>") (s₄.toks + 1 + 1)] } }) X.xe { s2 with heap := h3, toks := tk } := by
    intro code h3 tk ps' hx hsz hP3 hmore ht3
    obtain ⟨bm, ob, e1, e2, e3, e4, e5, e6, e7, e8⟩ := TB.bm
    have keep3 : ∀ b u, b ≠ P → s2.heap.get? b = some u → h3.get? b = some u := fun b u hb e => hx b u hb e
    refine wpAny_builtinsFor (m := X.mg) (by rw [I2.ok.glob]; exact (I2.mod.glob.keeps I2.bk).extBut hx TB.gP) e1 e2 (keep3 _ _ e4 (I2.bk _ _ e5)) e6 e7 e8 ?_
    intro h' hns' hsb'
    obtain ⟨more, em⟩ := hmore
    have I3 : Inv X pins σ (upd H2 P (.tbl (ps ++ more))) { s2 with heap := h3, toks := tk } :=
      GxR.inv_tab (more := more) (h' := h3) (g' := s2.gens) (d' := s2.drawn) (t' := tk) I2 hP keep3 (by rw [← em]; exact hP3) I2.bare
    have hPne : ∀ b, b ∈ fp → b ≠ P := fun b hb z => by
      have q := (f2 b hb).1
      rw [z, hP] at q
      cases q
    generalize hsc : ({ s2 with heap := h3, toks := tk } : Shared) = sc at I3 hns' hsb' ⊢
    have scH : sc.heap = h3 := by rw [← hsc]
    have tb : GxR.Tabbed P H2 (upd H2 P (.tbl (ps ++ more))) := ⟨⟨ps ++ more, upd_same, by rw [← em]; exact ht3⟩, fun b hb => upd_ne hb⟩
    obtain ⟨W, ⟨m0, w0⟩, turn⟩ := q _ tb
    generalize hH3 : upd H2 P (.tbl (ps ++ more)) = H3 at I3 w0
    have st3 : tn 0 sc.heap := T.keep _ _ _ st2 fun b hb o e => by rw [scH]; exact keep3 b o (hPne b hb) e
    have f3 : ∀ b ∈ fp, FpOk X pins H3 b ∧ b < sc.heap.objs.size := fun b hb => by
      obtain ⟨o, e, _⟩ := T.obj _ _ st3 b hb
      refine ⟨⟨?_, (f2 b hb).2⟩, Heap.lt_size e⟩
      rw [← hH3, upd_ne (hPne b hb)]
      exact (f2 b hb).1
    have hsz' : h'.objs.size = sc.heap.objs.size + 1 := by rw [hsb'.1, Heap.size_push]
    have kp' : ∀ b o, sc.heap.get? b = some o → h'.get? b = some o := fun b o e => hsb'.extBut b o (Nat.ne_of_lt (Heap.lt_size e)) (Heap.get?_push_of_some _ e)
    refine ⟨H3, sc, fp, I3, fun b hb => ⟨(f3 b hb).1.2.2.2.1, (f3 b hb).1.2.1, (f3 b hb).1.2.2.2.2.1, (f3 b hb).1.2.2.2.2.2⟩, ?_⟩
    -- the generator's object
    generalize hgo : ({ cls := .type "generator", data := .fields #[.int sc.gens.size 0, .str "<genexpr>" (sc.toks + 1), .str (X.env.qual ++ "<genexpr>") (sc.toks + 1 + 1)] } : Obj) = go
    have hgen : ∀ hh : Heap, hh.get? h'.objs.size = some go → hh.IsGen h'.objs.size sc.gens.size := fun hh e => ⟨go, .str "<genexpr>" (sc.toks + 1), .str (X.env.qual ++ "<genexpr>") (sc.toks + 1 + 1), e, by rw [← hgo], by rw [← hgo], by rw [← hgo]⟩
    have hgd : ∀ v, go.data ≠ .cell v := fun v q => by rw [← hgo] at q; cases q
    have hpushed : (h'.push go).get? h'.objs.size = some go := Heap.get?_push_size _ (by rw [← hgo]; rfl)
    generalize hce : genEnv scope (cloFrom X.env.cells scope.names []) sc.heap.objs.size code builtinsNs X.env = ce
    have cL : ce.locals = sc.heap.objs.size := by rw [← hce]; rfl
    refine ⟨h'.objs.size, sc.gens.size, _, rfl, by omega, ?_, hgen _ hpushed, Array.getElem?_push_size .., rfl, ?_, ?_, fun b o e => Heap.get?_push_of_some _ (kp' b o e), ?_⟩
    · show _ < (h'.push _).objs.size
      rw [Heap.size_push]; exact Nat.lt_succ_self _
    · exact AllBare.push I3.bare rfl
    · exact I3.nolimit.keeps fun b o e => Heap.get?_push_of_some _ (kp' b o e)
    intro Aw Sx s5 hrw hfr hSx hk5 hSo hos hba
    have hrd : Room kk (Aw.deeper ce) := hrw.deeper ce
    have hSz : h'.objs.size < Sx := by
      have z : (h'.push go).objs.size ≤ Sx := hSx
      rw [Heap.size_push] at z
      exact z
    obtain ⟨cS, heS⟩ := hSo
    have kp5 : ∀ b o, h'.get? b = some o → s5.heap.get? b = some o := fun b o e => hk5 b o (Heap.get?_push_of_some _ e)
    have J0 : Inv (gex X sc H3 (Aw.deeper ce) ce fp []) [] (wipe σ (own.map (·.2))) H3 { sc with heap := h', toks := sc.toks } := by
      have z := gex_start (A := Aw.deeper ce) (code := code) (h' := h') (tk := sc.toks) I3 ok hN nc f3 hrw.hd (by rw [hce]; exact Around.frames_deeper hfr) hns' kp'
      rw [hce] at z
      exact z
    have J1 : Inv (gex X sc H3 (Aw.deeper ce) ce fp []) [] (wipe σ (own.map (·.2))) H3 s5 :=
      J0.call' (ch := []) hos (Un.kept kp5) (J0.hok.kept kp5) hba fun b z => by simp at z
    have hea : s5.heap.get? h'.objs.size = some go := hk5 _ go hpushed
    have sz1 : sc.heap.objs.size ≤ h'.objs.size := by omega
    have young : ∀ b, h'.objs.size ≤ b → H3 b = none ∧ b ≠ ce.locals ∧ b ∉ frs X.stack ∧ sc.heap.objs.size ≤ b ∧ ∀ y c, ce.cells.lookup y = some c → c ≠ b := fun b hb => by
      refine ⟨J0.hok.fresh hb, by rw [cL]; omega, J0.nofs hb, Nat.le_trans sz1 hb, fun y c e z => ?_⟩
      obtain ⟨v, ob, ho, _⟩ := J0.cell y c e
      have := Heap.lt_size ho
      rw [z] at this
      exact absurd (Nat.lt_of_lt_of_le this hb) (Nat.lt_irrefl _)
    have fpS : ∀ b ∈ fp, b < sc.heap.objs.size := fun b hb => (f3 b hb).2
    -- the frame's context, the generator's object pinned
    generalize hX : gex X sc H3 (Aw.deeper ce) ce fp [(h'.objs.size, go)] = X'
    have xB : Aw.deeper ce = X'.A := by rw [← hX]
    have hAp : Apart X' Sx := by
      obtain ⟨_, y2, _, y4, y5⟩ := young Sx (Nat.le_of_lt hSz)
      rw [← hX]
      exact ⟨y4, y2, y5⟩
    have hG : GI X' Sx [] [] (wipe σ (own.map (·.2))) H3 s5 := by
      rw [← hX]
      refine ⟨#[], cS, .nil, ?_⟩
      have pin : ∀ p ∈ [(h'.objs.size, go)] ++ [(Sx, lstObj #[] cS)], s5.heap.get? p.1 = some p.2 ∧ H3 p.1 = none ∧ p.1 ≠ ce.locals ∧ p.1 ∉ frs X.stack ∧ ∀ v, p.2.data ≠ .cell v := fun p hp => by
        rcases List.mem_append.mp hp with z | z
        · rw [List.mem_singleton.mp z]
          obtain ⟨y1, y2, y3, _, _⟩ := young h'.objs.size (Nat.le_refl _)
          exact ⟨hea, y1, y2, y3, hgd⟩
        · rw [List.mem_singleton.mp z]
          obtain ⟨y1, y2, y3, _, _⟩ := young Sx (Nat.le_of_lt hSz)
          exact ⟨heS, y1, y2, y3, fun v q => by cases q⟩
      exact ⟨⟨J1.ok.mod, J1.ok.kind, J1.ok.glob, J1.ok.blt, J1.ok.above, J1.ok.inj, J1.ok.has, J1.ok.cab, J1.ok.hd, J1.ok.frames, J1.ok.stk, J1.ok.exf, J1.ok.bs, J1.ok.bsz, J1.ok.noex, J1.ok.exfs, J1.ok.funs, J1.ok.frf⟩, J1.os, J1.bare, J1.base, J1.loc, J1.cell, J1.free, J1.freeC, pin, J1.hok, J1.len⟩
    have hpn : ∀ p ∈ X'.pn, p.1 ≠ Sx := fun p hp => by
      rw [← hX] at hp
      rw [List.mem_singleton.mp hp]
      exact Nat.ne_of_lt hSz
    have pgx : PG X' tg g := by rw [← hX, ← hce]; exact hg sc H3 _ _ _ _ fp _ (by rw [hce]; exact hrd)
    have ptx : PTs X' ifs tt := by rw [← hX, ← hce]; exact ht sc H3 _ _ _ _ fp _ (by rw [hce]; exact hrd)
    have pex : PE X' elt te := by rw [← hX, ← hce]; exact he sc H3 _ _ _ _ fp _ (by rw [hce]; exact hrd)
    have xenv : X'.env = ce := by rw [← hX]
    have xxe : ∀ e s', X'.xe e s' → False := fun e s' => by rw [← hX]; exact id
    have xp : X'.prog = X.prog := by rw [← hX]
    have xw : X'.w = X.w := by rw [← hX]
    have xK : X'.K = X.K := by rw [← hX]
    have xcalm : X'.calm = true := by rw [← hX]
    have stat : ∀ {acc' : Array Value} {cc' : Nat} {H' : Hp}, (∀ b ∈ fp, H' b = none) → ∀ b ∈ fp, FpOk X' ((Sx, lstObj acc' cc') :: []) H' b := fun {acc' cc' H'} hn b hb => by
      obtain ⟨⟨_, q1, q2, q3, q4, q5⟩, hlt⟩ := f3 b hb
      rw [← hX]
      refine ⟨hn b hb, (J1.ok.exf b hb).1, J1.ok.exfs b hb, .inl hb, fun x c e => (J1.ok.exf b hb).2 x c e, fun p hp => ?_⟩
      rcases List.mem_append.mp hp with z | z
      · rw [List.mem_singleton.mp z]
        exact Nat.ne_of_gt (Nat.lt_of_lt_of_le hlt sz1)
      · rw [List.mem_singleton.mp z]
        exact Nat.ne_of_gt (Nat.lt_trans (Nat.lt_of_lt_of_le hlt sz1) hSz)
    have over : Aw.over (.compLoop (.GeneratorExp elt [⟨tg, iter, ifs, 0⟩] scope gpos) 0 (.ref it) .none ce) [] = X'.A := by rw [over_ge]; exact xB
    have fin : ∀ {ip : List (Addr × Obj)} {ys : List V} {s' : Shared} {σ' : L2.St} {H' : Hp}, GI X' Sx ip ys σ' H' s' → s'.heap.IsGen h'.objs.size sc.gens.size := fun {ip ys s' σ' H'} hI => by
      obtain ⟨acc, cc, _, J⟩ := hI
      refine hgen _ (J.pin (h'.objs.size, go) (List.mem_append_left _ ?_)).1
      rw [← hX]
      exact List.mem_singleton.mpr rfl
    have loop : ∀ (m i n : Nat) (ys : List V) (s₀ s : Shared) (H : Hp), n + ys.length = sizeLine → W i m ys H → GI X' Sx [] ys (wipe σ (own.map (·.2))) H s → tn i s.heap → (∀ b ∈ fp, H b = none) →
        Seg (model X.prog X.w) Aw (REnd X.prog X.w X.stack H3 sc fp Sx h'.objs.size sc.gens.size cont E0) (YItem sc Sx h'.objs.size sc.gens.size) n s₀ (.compLoop (.GeneratorExp elt [⟨tg, iter, ifs, 0⟩] scope gpos) 0 (.ref it) .none ce)
          ((model X.prog X.w).den (.compLoop (.GeneratorExp elt [⟨tg, iter, ifs, 0⟩] scope gpos) 0 (.ref it) .none ce)) [] s := by
      intro m
      induction m using Nat.strongRecOn with
      | ind m ih =>
      intro i n ys s₀ s H hn w hI st fr
      show Seg _ Aw _ _ _ s₀ _ ((compTurn (.GeneratorExp elt [⟨tg, iter, ifs, 0⟩] scope gpos) 0 (.ref it) .none ce).onRaise (leaving ce)) [] s
      rw [compTurn_gen, Sem.onRaise_eq_wrap]
      refine seg_bind_wrap (wpAny_standAt ?_)
      refine seg_bind_wrap ?_
      rw [over]
      obtain ⟨acc, cc, rA, I3⟩ := hI
      rcases turn i m ys H w with ⟨stop, qn⟩ | ⟨go', Nx, hNx, step⟩
      · refine wpAny_mono (T.done X' xp xw xK xcalm i _ s _ H (fun _ _ => False) I3 (stat fr) st stop) (fun r s4 ⟨hr, I4⟩ => ?_) fun _ _ z => z.elim
        subst hr
        refine seg_end (.ok .next) (.inl ⟨.inr rfl, ?_⟩)
        obtain ⟨a1, _, _, acc', cc', ra, ea⟩ := GI.at ⟨acc, cc, rA, I4⟩
        have hb := I4.base
        have hk := I4.hok
        have ho := I4.os
        rw [← hX] at hb hk ho
        exact ⟨H, ys, acc', cc', ho, I4.bare, hb, hk, a1, ea, ra, by omega, qn⟩
      · refine wpAny_mono (T.item X' xp xw xK xcalm i _ s _ H (fun _ _ => False) I3 (stat fr) st go') (fun r s4 ⟨u, hr, h4⟩ => ?_) fun _ _ z => z.elim
        subst hr
        refine seg_bind_wrap ?_
        rw [over]
        refine wpAny_mono h4 (fun _ s6 ⟨x, H5, I5, r5, y5, st5, fr5⟩ => ?_) fun _ _ z => z.elim
        have pinned := I5.pinned (stat fr5) (T.obj _ _ st5)
        refine seg_bind_wrap ?_
        rw [over, ← xenv, ← xp, ← xw]
        refine wpAny_mono (pgx.run _ s6 _ H5 x u _ pinned r5 (step x H5 y5)) (fun _ s7 ⟨σ7, H7, I7, hw7, q7⟩ => ?_) fun e s' z => (xxe e s' z).elim
        refine seg_bind_wrap ?_
        rw [xenv, over, ← xenv]
        refine wpAny_mono (ptx.run _ s7 σ7 H7 _ I7 q7) (fun b s8 ⟨H8, I8, q8⟩ => ?_) fun e s' z => (xxe e s' z).elim
        have back : ∀ {ys' : List V} {H' : Hp} {s' : Shared} {acc' : Array Value} {cc' : Nat}, Vals ys' acc'.toList → Inv X' ((Sx, lstObj acc' cc') :: pinsAt fp s6.heap) σ7 H' s' → Nx ys' H' →
            ∃ m', m' < m ∧ W (i + 1) m' ys' H' ∧ GI X' Sx [] ys' (wipe σ (own.map (·.2))) H' s' ∧ tn (i + 1) s'.heap ∧ ∀ b ∈ fp, H' b = none := fun {ys' H' s' acc' cc'} ra I' nx => by
          obtain ⟨m', hm, w'⟩ := hNx ys' H' nx
          have pin' : ∀ b ∈ fp, ∀ o, s6.heap.get? b = some o → s'.heap.get? b = some o ∧ H' b = none := fun b hb o e =>
            let z := I'.pin (b, o) (List.mem_append_right _ (List.mem_cons_of_mem _ (mem_pinsAt hb e)))
            ⟨z.1, z.2.1⟩
          have hl : (wipe σ (own.map (·.2))).length = σ7.length := by rw [← hw7, wipe_length]
          refine ⟨m', hm, w', ⟨acc', cc', ra, ((I'.pins_of fun p hp => I'.pin p (List.mem_append_right _ ?_))).weak hl fun j v e => ?_⟩, T.keep _ _ _ st5 fun b hb o e => (pin' b hb o e).1, fun b hb => ?_⟩
          · rw [List.mem_singleton.mp hp]
            exact List.mem_cons_self
          · rw [← hw7] at e
            exact (wipe_some e).1
          · obtain ⟨o, e, _⟩ := T.obj _ _ st5 b hb
            exact (pin' b hb o e).2
        cases b with
        | false =>
          simp only [Bool.false_eq_true, if_false] at q8 ⊢
          obtain ⟨m', hm, w', G', t', n'⟩ := back rA I8 q8
          rw [xenv, xp, xw]
          exact seg_again rfl (ih m' hm (i + 1) n ys s₀ s8 H8 hn w' G' t' n')
        | true =>
          simp only [if_true] at q8 ⊢
          have hy : ∀ v, yieldOut X'.env v = yieldValue v := fun v => by
            have e : X'.env.scope.isCoroutine = false := by rw [xenv, ← hce]; exact hco
            simp only [yieldOut, e, Bool.false_eq_true, if_false]
          simp only [hy]
          rw [Sem.bind_eq_wrap', Sem.bind_eq_wrap', Sem.wrap_wrap, Sem.wrap_wrap]
          refine seg_wrap ?_
          rw [xenv, over, ← xenv]
          refine wpAny_mono (pex.run _ s8 σ7 H8 _ I8 q8) (fun v s9 ⟨y, H9, I9, r9, hlt, nx⟩ => ?_) fun e s' z => (xxe e s' z).elim
          obtain ⟨n, rfl⟩ : ∃ k, n = k + 1 := ⟨n - 1, by omega⟩
          have G9 : GI X' Sx (pinsAt fp s6.heap) ys σ7 H9 s9 := ⟨acc, cc, rA, I9⟩
          obtain ⟨_, _, _, acc', cc', ra', ea'⟩ := G9.at
          have hasz : acc'.size = ys.length := by
            have e1 := ra'.length
            have e2 : acc'.toList.length = acc'.size := by simp
            omega
          have ho := I9.os
          rw [← hX] at ho
          refine seg_at (seg_yield rfl rfl rfl ⟨ho, I9.bare, I9.nolimit, fin G9, ⟨acc', cc', ea', by rw [hasz]; exact hn⟩, fun s'' z => ?_⟩)
          have ipS : ∀ p ∈ pinsAt fp s6.heap, p.1 ≠ Sx := fun p hp => by
            have q := fpS _ (of_pinsAt hp).1
            exact Nat.ne_of_lt (Nat.lt_trans (Nat.lt_of_lt_of_le q sz1) hSz)
          obtain ⟨acc2, cc2, ra2, I10⟩ := G9.woken hpn ipS hAp r9 z
          obtain ⟨m', hm, w', G', t', n'⟩ := back ra2 I10 nx
          rw [xenv, xp, xw]
          exact seg_again rfl (ih m' hm (i + 1) n (ys ++ [y]) s'' s'' H9 (by rw [List.length_append, List.length_singleton]; omega) w' G' t' n')
    have st5 : tn 0 s5.heap := T.keep _ _ _ st3 fun b _ o e => kp5 b o (kp' b o e)
    have start := fun s₀ => loop m0 0 sizeLine [] s₀ s5 H3 (Nat.add_zero _) w0 hG st5 fun b hb => (f3 b hb).1.1
    show Seg _ Aw _ _ _ s5 _ ((compStart (.GeneratorExp elt [⟨tg, iter, ifs, 0⟩] scope gpos) 0 (.ref it) .none ce).onRaise (leaving ce)) [] s5
    unfold compStart
    rw [Sem.onRaise_eq_wrap]
    show Seg _ Aw _ _ _ s5 _ ((ask >>= _).wrap _ _ _ _) [] s5
    refine seg_bind_wrap (wpAny_askSetting ?_)
    split
    · exact seg_again rfl (start s5)
    · first
        | exact seg_bind_wrap (wpAny_rule (seg_bind_wrap (wpAny_standAt (seg_bind_wrap (T.self _ 0 s5 _ _ st5 (seg_again rfl (start s5)))))))
        | (refine seg_bind_wrap (wpAny_rule ?_); show Seg _ Aw _ _ _ s5 _ ((standAt iter.pos >>= _).wrap _ _ _ _) [] s5; exact seg_bind_wrap (wpAny_standAt (seg_bind_wrap (T.self _ 0 s5 _ _ st5 (seg_again rfl (start s5))))))
  cases hf : codeAmong gpos ps.toList with
  | none =>
    refine wpAny_genexprCodeX hcode (cd.code hPs ht0) (cd.tab hPs) hf fun c' h' tk hx hge hlt hco' _ htab' _ => ?_
    obtain ⟨o1, vs, f1, tf, fl, tg, inF, tx, tt, op, _, _, _, _, _, _, _, _, _, htr, _⟩ := hco'
    exact cont2 _ h' tk _ hx (Nat.le_trans hge (Nat.le_of_lt hlt)) htab'.2 ⟨_, rfl⟩ htr
  | some cv =>
    refine wpAny_genexprCode_hit hcode (cd.code hPs ht0) hf ?_
    exact cont2 cv s2.heap s2.toks ps (Heap.ExtBut.refl _ _) (Nat.le_refl _) hPs ⟨#[], by simp⟩ ht0
end Sg
set_option Elab.async false
set_option linter.all false
set_option maxRecDepth 100000
set_option maxHeartbeats 4000000
namespace Sv
open PySem PySem.Spec PyProof.Rows L2
/-! ### tuple(e for x in e2 if ..) -/
section
variable {K : PySem.W.Frag} {mg : Str → Option Value} {m m' : Ms} {H H' H1 : Hp} {st st' : S} {P : Addr}
theorem SO.tabbed (s : SO K m H st) (hP : P ∈ m.t) (t : GxR.Tabbed P H H') : Gr m H m H' ∧ SO K m H' st := by
  obtain ⟨⟨ps0, e0, t0⟩, k⟩ := t
  obtain ⟨qs, eP, _⟩ := s.tab P hP
  have ne : ∀ {a o}, H a = some o → (∀ q, o ≠ .tbl q) → H' a = some o := fun {a o} h hn => by
    rw [k a fun z => ?_]
    · exact h
    · rw [z, eP] at h
      exact hn qs (Option.some.inj h).symm
  have g : Gr m H m H' := by
    refine ⟨⟨[], by simp, by simp⟩, ⟨[], rfl, by simp⟩, rfl, fun a o h _ ht => ?_, fun a o h => ?_⟩
    · rw [k a fun z => ht (by rw [z]; exact hP)]
      exact h
    · by_cases z : a = P
      · rw [z]
        exact ⟨_, e0⟩
      · exact ⟨o, by rw [k a z]; exact h⟩
  refine ⟨g, s.len, s.nd, s.dis, fun a ha => ?_, fun a ha => ?_, s.need, fun l a ds h1 h2 => ?_⟩
  · obtain ⟨vs, q⟩ := s.hid a ha
    exact ⟨vs, ne q fun _ z => by cases z⟩
  · by_cases z : a = P
    · rw [z]
      exact ⟨ps0, e0, t0⟩
    · obtain ⟨ps, q1, q2⟩ := s.tab a ha
      exact ⟨ps, by rw [k a z]; exact q1, q2⟩
  · obtain ⟨vs, q1, q2⟩ := s.lst l a ds h1 h2
    exact ⟨vs, ne q1 (fun _ z => by cases z), Reps.mono g s q2⟩
def gTupGe (vs : List Nat) (gi : GA) (t : D → En → Option En) (gt : GT) (ge : G) : G := fun r st => match gi r st with
  | .ok ds st1 => (match lcLoop t gt ge (wipeD r vs) ds st1 with
    | .ok ys st2 => if ys.length ≤ 100000 then .ok (.tup ys) st2 else .bad
    | _ => .bad)
  | .err c fs s => .err c fs s
  | .bad => .bad
theorem ge_walk {σ : L2.St} {r : En} {ds yall : List D} {g : TG} {t : D → En → Option En} {gt : GT} {ge : G} {vs : List Nat} {J : It} (hg : TgB K vs g t) (s : SO K m H1 st) (E : EO K m H1 (L2.wipe σ vs) r)
    (it : ItV K J m H1 ds) (el : lcLoop t gt ge r ds st = .ok yall st') (hlen : yall.length ≤ 100000) :
    ∃ Wv : Nat → Nat → List V → Hp → Prop, (∃ k, Wv 0 k [] H1) ∧ ∀ i k ys H, Wv i k ys H → (J.stop i H ∧ ∃ m', Gr m H1 m' H ∧ SO K m' H st' ∧ Reps K m' H yall ys) ∨
      (J.go i H ∧ ∃ Nx : List V → Hp → Prop, (∀ ys' H', Nx ys' H' → ∃ k', k' < k ∧ Wv (i + 1) k' ys' H') ∧ ∀ x H', J.yld i H x H' → g x (L2.wipe σ vs) H' fun σ2 H2 => L2.wipe σ2 vs = L2.wipe σ vs ∧ tT K mg W0 gt σ2 H2 fun b H3 =>
        if b = true then tE K mg W0 ge σ2 H3 fun y H4 => ys.length < sizeLine ∧ Nx (ys ++ [y]) H4 else Nx ys H3) := by
  refine ⟨fun i k ys H => k = ds.length - i ∧ i ≤ ds.length ∧ ∃ m' st2 d2 y2, Gr m H1 m' H ∧ SO K m' H st2 ∧ Reps K m' H d2 ys ∧ d2 ++ y2 = yall ∧ lcLoop t gt ge r (ds.drop i) st2 = .ok y2 st', ⟨_, rfl, Nat.zero_le _, m, st, [], yall, Gr.refl, s, rfl, rfl, el⟩, ?_⟩
  rintro i k ys H2 ⟨rfl, hi2, m2, st2, d2, y2, g2, s2, ry, ey, e2⟩
  by_cases hlt : i < ds.length
  · refine Or.inr ⟨it.go i m2 H2 st2 g2.w s2 hlt, fun ys' H' => ∃ m' st2 d2 y2, Gr m H1 m' H' ∧ SO K m' H' st2 ∧ Reps K m' H' d2 ys' ∧ d2 ++ y2 = yall ∧ lcLoop t gt ge r (ds.drop (i + 1)) st2 = .ok y2 st',
      fun ys' H' z => ⟨_, by omega, rfl, hlt, z⟩, fun x H' y => ?_⟩
    rw [List.drop_eq_getElem_cons hlt] at e2
    obtain ⟨g3, r3, s3⟩ := it.yld i m2 H2 st2 x H' ds[i] g2.w s2 (List.getElem?_eq_getElem hlt) y
    unfold lcLoop at e2
    cases et : t ds[i] r with
    | none => rw [et] at e2; cases e2
    | some r4 =>
    rw [et] at e2
    dsimp only at e2
    refine hg m2 H' ds[i] x _ r4 _ _ r3 ((E.mono g2 s).mono g3 s2) et fun σ3 E3 hv => ⟨hv.trans (wipe_none fun _ h => h), m2, r4, st2, E3, s3, ?_⟩
    cases eb : gt r4 st2 with
    | bad => rw [eb] at e2; cases e2
    | err c fs st5 => rw [eb] at e2; cases e2
    | ok b st5 =>
    rw [eb] at e2
    dsimp only
    intro m4 H4 g4 s4
    have k4 := (g2.trans g3).trans g4
    have r4' := Reps.mono g4 s3 (Reps.mono g3 s2 ry)
    cases b with
    | false => exact ⟨m4, st5, d2, y2, k4, s4, r4', ey, e2⟩
    | true =>
    dsimp only at e2
    show tE K mg W0 ge σ3 H4 _
    refine tE_use (E3.mono g4 s3) s4 ?_
    cases ec : ge r4 st5 with
    | bad => rw [ec] at e2; cases e2
    | err c fs st6 => rw [ec] at e2; cases e2
    | ok y st6 =>
    rw [ec] at e2
    dsimp only at e2 ⊢
    intro v m5 H5 g5 r5 s5
    cases ed : lcLoop t gt ge r (ds.drop (i + 1)) st6 with
    | bad => rw [ed] at e2; cases e2
    | err c fs st6 => rw [ed] at e2; cases e2
    | ok ys2 st7 =>
    rw [ed] at e2
    cases e2
    refine ⟨?_, m5, st6, d2 ++ [y], ys2, k4.trans g5, s5, (Reps.mono g5 s4 r4').snoc r5, by rw [← ey]; simp, ed⟩
    have l1 := Reps.len ry
    rw [← ey, List.length_append, List.length_cons] at hlen
    have l3 : (100000 : Nat) ≤ sizeLine := by decide
    omega
  · rw [List.drop_eq_nil_of_le (by omega)] at e2
    unfold lcLoop at e2
    cases e2
    rw [List.append_nil] at ey
    subst ey
    exact Or.inl ⟨it.stop i m2 H2 _ g2.w s2 (by omega), m2, g2, s2, ry⟩
theorem tTupGe_ok {W : WX} {vs : List Nat} {gi : GA} {g : TG} {t : D → En → Option En} {gt : GT} {ge : G} (nd : NeedTab K P) (hg : TgB K vs g t) {σ : L2.St} {H : Hp} {Q : VK} (h : tE K mg W (gTupGe vs gi t gt ge) σ H Q) :
    Sg.tTupleG (Sg.tGe P (tI K mg W gi) g (tT K mg W0 gt) (tE K mg W0 ge) vs) σ H Q := by
  obtain ⟨m, r, st, E, s, q⟩ := h
  unfold gTupGe at q
  refine ⟨m, r, st, E, s, ?_⟩
  cases ea : gi r st with
  | bad => rw [ea] at q; exact q
  | err c fs st1 => rw [ea] at q; exact q
  | ok ds st1 =>
    rw [ea] at q
    dsimp only at q
    intro J m1 H1 g1 it s1
    refine ⟨s1.tab P (s1.need P nd), fun H2 tb => ?_⟩
    obtain ⟨g2, s2⟩ := s1.tabbed (s1.need P nd) tb
    cases el : lcLoop t gt ge (wipeD r vs) ds st1 with
    | bad => rw [el] at q; exact q.elim
    | err c fs st1 => rw [el] at q; exact q.elim
    | ok ys0 st0 =>
    rw [el] at q
    dsimp only at q
    by_cases hl : ys0.length ≤ 100000
    · rw [if_pos hl] at q
      dsimp only at q
      obtain ⟨Wv, w0, turn⟩ := ge_walk (mg := mg) hg s2 (((E.mono g1 s).wipe vs).mono g2 s1) (it.mono g2.w) el hl
      refine ⟨Wv, w0, fun i k ys H w => (turn i k ys H w).imp (fun ⟨z1, m5, g5, s5, r5⟩ => ⟨z1, fun Sa p hS hp hne => ?_⟩) fun z => z⟩
      have n1 : (upd H Sa (.lst ys)) p = none := by rw [upd_ne hne]; exact hp
      exact newT (s5.new hS) (Reps.mono (Gr.new hS) s5 r5) n1 fun w m' H' g' => q w m' H' ((((g1.trans g2).trans g5).trans (Gr.new hS)).trans g')
    · rw [if_neg hl] at q
      exact q.elim
end
section
variable {X : Cx} {W : WX} {elt tg iter : Expr} {ifs : List Expr} {pos gpos p3 : Pos} {ge : G} {gt : GT} {gi : GA} {g : TG} {t : D → En → Option En} {scope : Scope}
theorem dtupGe (kk : Nat) {k : Nat} {c P : Addr} (own : List (Str × Nat)) (hmt : X.mg "tuple" = none) (hc : X.calm = true) (hN : X.N.Nodup) (TB : GxR.TabB X.base X.mg c P) (nd : NeedTab X.K P) (hcode : X.env.code = .ref c) (hr : Room k X.A) (hi : DI X W tg iter gi) (ok : BlkOk X.N X.env.scope scope own) (hT : TgB X.K (own.map (·.2)) g t)
    (hg : ∀ (s : Shared) (H : Hp) (A : Around) (C : Addr) (cl : List (Str × Addr)) (cv : Value) (fp : List Addr) (pn : List (Addr × Obj)), Room kk A → PG (Sg.gex X s H A (genEnv scope cl C cv builtinsNs X.env) fp pn) tg g)
    (ht : ∀ (s : Shared) (H : Hp) (A : Around) (C : Addr) (cl : List (Str × Addr)) (cv : Value) (fp : List Addr) (pn : List (Addr × Obj)), Room kk A → DTs (Sg.gex X s H A (genEnv scope cl C cv builtinsNs X.env) fp pn) W0 ifs gt)
    (he : ∀ (s : Shared) (H : Hp) (A : Around) (C : Addr) (cl : List (Str × Addr)) (cv : Value) (fp : List Addr) (pn : List (Addr × Obj)), Room kk A → DE (Sg.gex X s H A (genEnv scope cl C cv builtinsNs X.env) fp pn) W0 elt ge)
    (hkm : kk + 5 ≤ k := by decide) (nc : ∀ y ∈ scope.names, y.2 ≠ .cell := by decide) (hco : scope.isCoroutine = false := by rfl) (h0 : scope.names.lookup (".0" : Str) = some NameKind.local := by rfl) (hs : ∀ v, genFold iter X.env v = pure v := by intro _; rfl) (hgt : Gl X "tuple" := by rfl)
    (hel : starEach [.GeneratorExp elt [⟨tg, iter, ifs, 0⟩] scope gpos] X.env = (false, eval (.GeneratorExp elt [⟨tg, iter, ifs, 0⟩] scope gpos) X.env) :: starEach [] X.env := by rfl) :
    DE X W (.Call (.Name "tuple" p3) [.GeneratorExp elt [⟨tg, iter, ifs, 0⟩] scope gpos] [] pos) (gTupGe (own.map (·.2)) gi t gt ge) :=
  PE.imp (Sg.pe_tupleG (E := E0) (Sg.pgen_ge hc (hr.mono (by omega)) hN TB hcode hi ok nc hco h0 hg ht he hs) passL (fun _ _ _ z => z.elim) (hr.mono hkm) hgt hmt (by rfl) (by decide) (by decide) hel) fun σ H Q q => tTupGe_ok nd hT q
end
section
variable {P : Program} {w : World} {K : PySem.W.Frag} {mg : Str → Option Value} {base : Heap}
/-- the def's code object and its table -/
structure TbX (K : PySem.W.Frag) (mg : Str → Option Value) (base : Heap) (x : Str) : Prop where
  ex : ∃ (f c P : Addr) (oc : Value) (od : Option Addr) (fd : FuncData) (sl : Array (Option Value)), mg x = some (.ref f) ∧ K.lookup f = some ⟨oc, od, .func fd, sl⟩ ∧ fd.code = .ref c ∧ GxR.TabB base mg c P ∧ NeedTab K P
/-- a def whose body makes generator expressions -/
theorem pokt {x : Str} {st : Stmt} {N ps : List Str} {k : Nat} {gs : GS} (T : Dfn K mg x st) (B : TbX K mg base x) (S : FnScope N ps (defScope st)) (hb : BindRfl x st ps)
    (h : ∀ (f c Pt : Addr) (A : Around) (outer : List Env) (s : Shared) (H : Hp) (E : XK), GxR.TabB base mg c Pt → NeedTab K Pt → Room k (A.deeper (envOfC x (defScope st) s.heap.objs.size f (.ref c))) →
      DB (cxOf (L2.CX P w) P w K mg base N x (defScope st) f (.ref c) A outer s H E) (WF E) (defBody st) gs) : Pok P w K mg base (k + 1) x st ps (fnF N gs) := by
  obtain ⟨f, fd, h1, F⟩ := T.ex
  obtain ⟨f2, c, Pt, oc2, od2, fd2, sl2, g1, g2, g3, g4, g5⟩ := B.ex
  rw [h1] at g1
  cases g1
  refine ⟨f, fd, h1, F.kp, F, F.binds hb, ?_⟩
  obtain ⟨oc, od, kV, doc, pm, an, cdv, ct, osl, rfl, lk, hcd⟩ := F.ex
  rw [lk] at g2
  have e1 : fd2 = PySem.W.fnOf x x (defArgs st) (defBody st) (defScope st) .none kV doc pm an cdv ct := by
    have z := Option.some.inj g2
    cases z
    rfl
  subst e1
  have e2 : cdv = .ref c := g3
  subst e2
  refine fn_of lk hcd S (fun vs H Q E h => h.1) fun A outer s H vs Q E hr hsp => ⟨_, h f c Pt A outer s H E g4 g5 hr, ?_⟩
  obtain ⟨hn, m, ds, st', rv, so, q⟩ := hsp
  refine ⟨m, startD N ds, st', EO.start rv, so, ?_⟩
  unfold fnF at q
  cases e : gs (startD N ds) st' with
  | bad => rw [e] at q; exact q.elim
  | bk r' st' => rw [e] at q; exact q.elim
  | ct r' st' => rw [e] at q; exact q.elim
  | nx r' st' =>
    rw [e] at q
    exact fun σ' m' H' g _ s' => q .non m' H' g rfl s'
  | rt d st' =>
    rw [e] at q
    exact fun v m' H' g rv s' => q v m' H' g rv s'
  | err c fs r' st' =>
    rw [e] at q
    exact fun cls d σ' m' H' g er _ s' => q cls d m' H' g er s'
end
end Sv
set_option Elab.async false
set_option linter.all false
set_option maxRecDepth 100000
set_option maxHeartbeats 4000000
namespace Sv
open PySem PySem.Spec PyProof.Rows L2
section
variable {K : PySem.W.Frag} {h : Heap} {mg : Str → Option Value} {fa : List He.Fa} {fn : List He.DefD}
theorem codeHdIn_tab {c P : Addr} (e : PySem.W.codeHdIn K c P = true) : ∃ v d vs sl, K.lookup c = some ⟨v, d, .fields vs, sl⟩ ∧ vs[11]? = some (.ref P) := by
  unfold PySem.W.codeHdIn at e
  split at e
  · rename_i vs sl hk
    refine ⟨_, _, vs, sl, hk, ?_⟩
    simp only [Bool.and_eq_true] at e
    have e1 := e.1.1.1.1.1
    split at e1
    · rename_i P' h11
      rw [h11, beq_iff_eq.mp e1]
    · cases e1
  · cases e
/-- a def's code object and its table, out of the head's facts -/
theorem tbx_of {base : Heap} (X : K.In h) (G : h.Ns mainGlobals mg) (c : He.SaysD fa fn K) {x : Str} {st : Stmt} (hx : x ∈ tabNames) (hd : PySem.W.codeHdIn K (He.cT K (x, none)).1 (He.cT K (x, none)).2 = true)
    (tb : LamX.TabB base mg (He.cT K (x, none)).1 (He.cT K (x, none)).2) (i j : Nat) (h1 : fa[i]? = some (.glo x) := by rfl) (h2 : fn[j]? = some (defD x st) := by rfl) : TbX K mg base x := by
  obtain ⟨fd, F⟩ := c.def_ j (d := defD x st) h2
  obtain ⟨oc, od, dV, kV, doc, pm, an, cdv, ct, osl, rfl, lk, hcd, _, _⟩ := F.ex
  obtain ⟨cc, rfl⟩ := He.codeIn_ref hcd
  have ec : He.codeOf K (x, none) = cc := He.codeOf_eq (p := (x, none)) lk rfl
  obtain ⟨v, d, vs, sl, k1, k2⟩ := codeHdIn_tab hd
  have k1 : K.lookup (He.codeOf K (x, none)) = some ⟨v, d, .fields vs, sl⟩ := k1
  rw [ec] at k1
  have tb2 : LamX.TabB base mg (He.codeOf K (x, none)) (He.tabOf K (He.codeOf K (x, none))) := tb
  have k2 : vs[11]? = some (.ref (He.tabOf K (He.codeOf K (x, none)))) := k2
  rw [ec] at tb2 k2
  exact ⟨He.ga K x, cc, He.tabOf K cc, oc, od, _, osl, He.glo_ok X G (c.fact i h1), lk, rfl, ⟨tb2.code, tb2.bm, tb2.gP⟩, x, hx, cc, He.ga K x, oc, od, _, osl, v, d, vs, sl, He.eqO_ok (c.fact i h1), lk, rfl, k1, k2⟩
end
end Sv
set_option Elab.async false
set_option linter.all false
set_option maxRecDepth 100000
set_option maxHeartbeats 4000000
namespace Sv
open PySem PySem.Spec PyProof.Rows L2
namespace K00
def sd (j : Nat) : Stmt := (PySem.Challenge.pw_sevenruns_k00_values).main.body.getD j (.Pass ⟨0, 0, 0, 0⟩)
end K00
end Sv
set_option Elab.async false
set_option linter.all false
set_option maxRecDepth 100000
set_option maxHeartbeats 0
namespace Sv
open PySem PySem.Spec PyProof.Rows L2
namespace K00
/-! ### the head: facts by names -/
def fn0 : List He.DefD := [defD "is_integer" (sd 6), defD "is_number" (sd 7), defD "is_pair" (sd 8), defD "is_quotient" (sd 9), defD "is_span" (sd 10), defD "is_input" (sd 11), defD "is_point" (sd 12), defD "reduced" (sd 15), defD "added" (sd 16), defD "negated" (sd 17), defD "taken_off" (sd 18), defD "multiplied" (sd 19), defD "divided" (sd 20), defD "is_less" (sd 21), defD "span_over" (sd 22), defD "ask" (sd 24), defD "ask_quotient" (sd 25), defD "ask_input" (sd 26), defD "ask_point" (sd 27), defD "quotient_of" (sd 29), defD "plus" (sd 30), defD "minus" (sd 31), defD "times" (sd 32), defD "over" (sd 33), defD "less" (sd 34), defD "span_plus" (sd 36), defD "span_minus" (sd 37), defD "span_times" (sd 38), defD "scaled_span" (sd 39), defD "holds" (sd 40)]
def fn1 : List He.DefD := [defD "span_within" (sd 41), defD "spans_apart" (sd 42), defD "corners_of" (sd 44), defD "wide_sides" (sd 45), defD "in_box" (sd 46), defD "with_side" (sd 47), defD "side_put" (sd 48), defD "point_box" (sd 49), defD "_law_row" (sd 51), defD "_law_take" (sd 52), defD "_law_common" (sd 53), defD "_law_whole" (sd 54), defD "_law_lowest" (sd 55), defD "_law_quotient" (sd 56), defD "_law_below" (sd 57), defD "_law_span" (sd 58), defD "_law_integer" (sd 59), defD "_law_right_quotient" (sd 60), defD "_law_right_span" (sd 61), defD "_law_truth" (sd 62), defD "_law_ask" (sd 63), defD "_law_ask_span" (sd 64), defD "_law_ask_side" (sd 65), defD "_law_same" (sd 66), defD "_law_is" (sd 67), defD "_law_ends" (sd 68), defD "_law_quotients" (sd 69), defD "_law_near" (sd 70), defD "_law_held" (sd 71), defD "_law_pair_of_spans" (sd 72)]
def fn2 : List He.DefD := [defD "_law_spans" (sd 73), defD "_law_corners" (sd 74), defD "_law_boxes" (sd 75), defD "_law_bad_boxes" (sd 76), defD "_law_bad_spans" (sd 77), defD "_law_refused" (sd 78), defD "law" (sd 79), iniD "NotUsable" "NotUsable.__init__" (inClass (sd 4) 0)]
def fn : List He.DefD := fn0 ++ fn1 ++ fn2
def fa0 : List He.Fa := [.glo "is_integer", .glo "is_number", .glo "is_pair", .glo "is_quotient", .glo "is_span", .glo "is_input", .glo "is_point", .glo "reduced", .glo "added", .glo "negated", .glo "taken_off", .glo "multiplied", .glo "divided", .glo "is_less", .glo "span_over", .glo "ask", .glo "ask_quotient", .glo "ask_input", .glo "ask_point", .glo "quotient_of", .glo "plus", .glo "minus", .glo "times", .glo "over", .glo "less", .glo "span_plus", .glo "span_minus", .glo "span_times", .glo "scaled_span", .glo "holds"]
def fa1 : List He.Fa := [.glo "span_within", .glo "spans_apart", .glo "corners_of", .glo "wide_sides", .glo "in_box", .glo "with_side", .glo "side_put", .glo "point_box", .glo "_law_row", .glo "_law_take", .glo "_law_common", .glo "_law_whole", .glo "_law_lowest", .glo "_law_quotient", .glo "_law_below", .glo "_law_span", .glo "_law_integer", .glo "_law_right_quotient", .glo "_law_right_span", .glo "_law_truth", .glo "_law_ask", .glo "_law_ask_span", .glo "_law_ask_side", .glo "_law_same", .glo "_law_is", .glo "_law_ends", .glo "_law_quotients", .glo "_law_near", .glo "_law_held", .glo "_law_pair_of_spans"]
def fa2 : List He.Fa := [.glo "_law_spans", .glo "_law_corners", .glo "_law_boxes", .glo "_law_bad_boxes", .glo "_law_bad_spans", .glo "_law_refused", .glo "law", .free "abs", .free "all", .free "bool", .free "enumerate", .free "int", .free "isinstance", .free "len", .free "list", .free "max", .free "range", .free "str", .free "tuple", .free "zip", .glo "NOUGHT", .glo "NotUsable", .meth "NotUsable" "__init__", .exm "NotUsable" "NotUsable" true, .noat "NotUsable" "word", .noat "NotUsable" "at"]
def fa : List He.Fa := fa0 ++ fa1 ++ fa2
def lo0 : List Str := ["is_integer", "is_number", "is_pair", "is_quotient", "is_span", "is_input", "is_point", "reduced", "added", "negated", "taken_off", "multiplied", "divided", "is_less", "span_over", "ask", "ask_quotient", "ask_input", "ask_point", "quotient_of", "plus", "minus", "times", "over", "less", "span_plus", "span_minus", "span_times", "scaled_span", "holds"]
def lo1 : List Str := ["span_within", "spans_apart", "corners_of", "wide_sides", "in_box", "with_side", "side_put", "point_box", "_law_row", "_law_take", "_law_common", "_law_whole", "_law_lowest", "_law_quotient", "_law_below", "_law_span", "_law_integer", "_law_right_quotient", "_law_right_span", "_law_truth", "_law_ask", "_law_ask_span", "_law_ask_side", "_law_same", "_law_is", "_law_ends", "_law_quotients", "_law_near", "_law_held", "_law_pair_of_spans"]
def lo2 : List Str := ["_law_spans", "_law_corners", "_law_boxes", "_law_bad_boxes", "_law_bad_spans", "_law_refused", "LossError", "FormError", "NotUsable", "NOUGHT"]
def lo : List Str := lo0 ++ lo1 ++ lo2
def tf : List He.Defn := tabNames.map fun x => (x, none)
def ex (K : PySem.W.Frag) : Bool := [He.tupB K "NOUGHT" [.int 0, .int 1], xcB K "NotUsable", He.eqO (PySem.W.nsIn K mainGlobals "gcd") (some (some (.builtin "math.gcd")))].all id
abbrev Rw : PySem.W.OpenRow := PySem.W.OpenLaw.row PySem.Challenge.rw_sevenruns_k00_values
abbrev hk : PySem.W.Hook := He.hookX 4 fa fn [] tf ex
def ob (s : PySem.W.SharedT) : He.AlX := He.obsX 4 fa fn [] tf ex (HandSHeadRun.getT s)
theorem ob_eq (s : PySem.W.SharedT) : ob s = hk.obs s.abs := He.obsX_eq (HandSHeadRun.getT_eq s)
abbrev qvw : Program := PySem.W.view Rw.prog [0, 79]
theorem both {α β γ δ : Type} {o : Option α} {A : α → β} {B : α → γ} {C : α → δ} {a : β} {b : γ} {c : δ} (h1 : o.map (fun x => (A x, B x)) = some (a, b)) (h2 : o.map C = some c) : o.map (fun x => (A x, B x, C x)) = some (a, b, c) := by
  cases o with
  | none => cases h1
  | some x =>
    cases h1
    cases h2
    rfl
theorem run1 (w : World) : Option.map (fun x => (HandSHeadRun.looksF Rw.prog x.fst.heap x.snd.abs, HandSHeadRun.seenQ qvw lo (importedModules Rw.prog.main.body) (fun s => PySem.W.xlAt qvw [] s && PySem.W.recOk Rw.records s) x.snd.abs)) (HandSHeadRun.wholeF (fun p => HandSHeadRun.stepQ (HandSHeadRun.denQ HandSHeadRun.tabQ) p w) HandSHeadRun.fenceQ 6000 Rw.prog) = some (true, PySem.W.openGood qvw lo) := by
  kernel_rfl
theorem run2 (w : World) : Option.map (fun x => ob x.snd) (HandSHeadRun.wholeF (fun p => HandSHeadRun.stepQ (HandSHeadRun.denQ HandSHeadRun.tabQ) p w) HandSHeadRun.fenceQ 6000 Rw.prog) = some (hk.val w) := by
  kernel_rfl
theorem run (w : World) : HandSHeadRun.RunEqI Rw qvw hk ob 6000 lo w := by
  unfold HandSHeadRun.RunEqI
  exact both (run1 w) (run2 w)
end K00
end Sv
set_option Elab.async false
set_option linter.all false
set_option maxRecDepth 100000
set_option maxHeartbeats 4000000
namespace Sv
open PySem PySem.Spec PyProof.Rows L2
/-! ### the functions of data, each said of all its arguments -/
section
variable {r : En} {st : S} {ga gb gc go gi' : G} {gt gu : GT} {gr gi : GA} {g h : GS} {f : D → D → S → R D} {f1 : D → S → R D} {fl : List D → S → R D} {d : D} {i j l n : Nat} {N : List Str} {ds : List D} {c : Bool} {t : D → En → Option En}
theorem ap_fnF : fnF N g ds st = (match g (startD N ds) st with | .nx _ st' => .ok .non st' | .rt d st' => .ok d st' | .err c fs _ st' => .err c fs st' | .bk _ _ => .bad | .ct _ _ => .bad | .bad => .bad) := rfl
theorem ap_seq : gSeq g h r st = (match g r st with | .nx r' st' => h r' st' | o => o) := rfl
theorem ap_skip : gSkip r st = .nx r st := rfl
theorem ap_if : sIf gt g h r st = (match gt r st with | .ok true st1 => g r st1 | .ok false st1 => h r st1 | .err c fs s => .err c fs r s | .bad => .bad) := by
  show sT gt (fun b => if b = true then g else h) r st = _
  unfold sT
  cases gt r st with
  | ok b st1 => cases b <;> rfl
  | err c fs s => rfl
  | bad => rfl
theorem ap_ret : sRet ga r st = (match ga r st with | .ok d st1 => .rt d st1 | .err c fs s => .err c fs r s | .bad => .bad) := rfl
theorem ap_asg : sAsg i ga r st = (match ga r st with | .ok d st1 => .nx (r.set i (some d)) st1 | .err c fs s => .err c fs r s | .bad => .bad) := rfl
theorem ap_asg2 : sAsg2 i j ga r st = (match ga r st with | .ok d st1 => .nx ((r.set i (some d)).set j (some d)) st1 | .err c fs s => .err c fs r s | .bad => .bad) := rfl
theorem ap_drop : sDrop ga r st = (match ga r st with | .ok _ st1 => .nx r st1 | .err c fs s => .err c fs r s | .bad => .bad) := rfl
theorem ap_par : sPar i j gr r st = (match gr r st with | .ok [x, y] st1 => .nx ((r.set i (some x)).set j (some y)) st1 | .ok _ _ => .bad | .err c fs s => .err c fs r s | .bad => .bad) := by
  unfold sPar sA
  cases gr r st with
  | ok ds st1 => rcases ds with _ | ⟨a, _ | ⟨b, _ | ⟨c, t⟩⟩⟩ <;> rfl
  | err c fs s => rfl
  | bad => rfl
theorem ap_par3 : sPar3 i j l gr r st = (match gr r st with | .ok [x, y, z] st1 => .nx (((r.set i (some x)).set j (some y)).set l (some z)) st1 | .ok _ _ => .bad | .err c fs s => .err c fs r s | .bad => .bad) := by
  unfold sPar3 sA
  cases gr r st with
  | ok ds st1 => rcases ds with _ | ⟨a, _ | ⟨b, _ | ⟨c, _ | ⟨e, t⟩⟩⟩⟩ <;> rfl
  | err c fs s => rfl
  | bad => rfl
theorem ap_unp {is : List Nat} : sUnp is ga r st = (match ga r st with | .ok (.tup ds) st1 => (match setAll is ds r with | some r' => .nx r' st1 | none => .bad) | .ok _ _ => .bad | .err c fs s => .err c fs r s | .bad => .bad) := by
  unfold sUnp sE
  cases ga r st with
  | ok d st1 => cases d <;> rfl
  | err c fs s => rfl
  | bad => rfl
theorem ap_for : sFor gi t g r st = (match gi r st with | .ok ds st1 => loopV t g ds r st1 | .err c fs s => .err c fs r s | .bad => .bad) := rfl
theorem ap_forL {gl : GL} : sForL gl t g r st = (match gl r st with | .ok ln st1 => loopL t g ln.1 ln.2 ln.2 r st1 | .err c fs s => .err c fs r s | .bad => .bad) := rfl
theorem ap_var : gVar i r st = (match r[i]? with | some (some d) => .ok d st | _ => .bad) := rfl
theorem ap_c : gC d r st = .ok d st := rfl
theorem ap_bin : gBin f ga gb r st = (match ga r st with | .ok x st1 => (match gb r st1 with | .ok y st2 => f x y st2 | .err c fs s => .err c fs s | .bad => .bad) | .err c fs s => .err c fs s | .bad => .bad) := rfl
theorem ap_un : gUn f1 ga r st = (match ga r st with | .ok x st1 => f1 x st1 | .err c fs s => .err c fs s | .bad => .bad) := by
  unfold gUn
  cases ga r st <;> rfl
theorem ap_nil : gNil r st = .ok [] st := rfl
theorem ap_cons : gCons ga gr r st = (match ga r st with | .ok x st1 => (match gr r st1 with | .ok xs st2 => .ok (x :: xs) st2 | .err c fs s => .err c fs s | .bad => .bad) | .err c fs s => .err c fs s | .bad => .bad) := rfl
theorem ap_call : gCall fl gr r st = (match gr r st with | .ok ds st1 => fl ds st1 | .err c fs s => .err c fs s | .bad => .bad) := rfl
theorem ap_def : gDef n fl gr r st = (match gr r st with | .ok ds st1 => if ds.length = n then fl ds st1 else .bad | .err c fs s => .err c fs s | .bad => .bad) := rfl
theorem ap_tr : gTr ga r st = (match ga r st with | .ok x st1 => (match truth st1 x with | some b => .ok b st1 | none => .bad) | .err c fs s => .err c fs s | .bad => .bad) := rfl
theorem ap_not : gNot gt r st = (match gt r st with | .ok b st1 => .ok (!b) st1 | .err c fs s => .err c fs s | .bad => .bad) := by
  unfold gNot
  cases gt r st <;> rfl
theorem ap_and : gAnd gt gu r st = (match gt r st with | .ok true st1 => gu r st1 | .ok false st1 => .ok false st1 | .err c fs s => .err c fs s | .bad => .bad) := by
  unfold gAnd
  cases gt r st with
  | ok b st1 => cases b <;> rfl
  | _ => rfl
theorem ap_or : gOr gt gu r st = (match gt r st with | .ok true st1 => .ok true st1 | .ok false st1 => gu r st1 | .err c fs s => .err c fs s | .bad => .bad) := by
  unfold gOr
  cases gt r st with
  | ok b st1 => cases b <;> rfl
  | _ => rfl
theorem ap_andv : gAndV ga gb r st = (match ga r st with | .ok (.bl true) st1 => gb r st1 | .ok (.bl false) st1 => .ok (.bl false) st1 | .ok _ _ => .bad | .err c fs s => .err c fs s | .bad => .bad) := rfl
theorem ap_orv : gOrV ga gb r st = (match ga r st with | .ok (.bl true) st1 => .ok (.bl true) st1 | .ok (.bl false) st1 => gb r st1 | .ok _ _ => .bad | .err c fs s => .err c fs s | .bad => .bad) := rfl
theorem ap_ife : gIfE gt ga gb r st = (match gt r st with | .ok true st1 => ga r st1 | .ok false st1 => gb r st1 | .err c fs s => .err c fs s | .bad => .bad) := rfl
theorem ap_of {fi : List D → S → R (List D)} : iOf fi gr r st = (match gr r st with | .ok ds st1 => fi ds st1 | .err c fs s => .err c fs s | .bad => .bad) := rfl
theorem ap_mul {i j : Int} : fMul (.int i) (.int j) st = if MulC i j then .ok (.int (i * j)) st else .bad := rfl
theorem ap_div {i j : Int} : fDiv (.int i) (.int j) st = if DivC i j then .ok (.int (i.fdiv j)) st else .bad := rfl
theorem ap_mod {i j : Int} : fMod (.int i) (.int j) st = if j ≠ 0 then .ok (.int (i.fmod j)) st else .bad := rfl
theorem ap_sub {i j : Int} : fSub (.int i) (.int j) st = .ok (.int (i - j)) st := rfl
theorem ap_addi {i j : Int} : fAdd c (.int i) (.int j) st = .ok (.int (i + j)) st := rfl
theorem ap_lt {i j : Int} : fLt (.int i) (.int j) st = .ok (.bl (decide (i < j))) st := rfl
theorem ap_le {i j : Int} : fLe (.int i) (.int j) st = .ok (.bl (decide (i ≤ j))) st := rfl
theorem ap_gt {i j : Int} : fGt (.int i) (.int j) st = .ok (.bl (decide (j < i))) st := rfl
theorem ap_ge {i j : Int} : fGe (.int i) (.int j) st = .ok (.bl (decide (j ≤ i))) st := rfl
theorem ap_eqi {i j : Int} : fEq (.int i) (.int j) st = .ok (.bl (decide (i = j))) st := rfl
theorem ap_nei {i j : Int} : fNe (.int i) (.int j) st = .ok (.bl (!decide (i = j))) st := rfl
theorem ap_eqs {x y : Str} : fEq (.str x) (.str y) st = .ok (.bl (decide (x = y))) st := rfl
theorem ap_neg {i : Int} : fNeg (.int i) st = .ok (.int (-i)) st := rfl
theorem ap_tup : fTup ds st = if ds.length ≤ 100000 then .ok (.tup ds) st else .bad := rfl
theorem ap_truth {b : Bool} : truth st (.bl b) = some b := rfl
theorem ap_bits {i : Int} : fBits (.int i) st = .ok (.int (Builtin.Int.intBits i : Nat)) st := rfl
end
end Sv
set_option Elab.async false
set_option linter.all false
set_option maxRecDepth 100000
set_option maxHeartbeats 4000000
namespace Sv
open PySem PySem.Spec PyProof.Rows L2
namespace K00
abbrev N_is_integer : List Str := ["thing"]
def g_is_integer : GS := (sRet (gAndV (gCall fIsi (gCons (gVar 0) (gCons (gC (.ty "int")) gNil))) (gUn fNot (gCall fIsi (gCons (gVar 0) (gCons (gC (.ty "bool")) gNil))))))
def F_is_integer : List D → S → R D := fnF N_is_integer g_is_integer
abbrev N_is_number : List Str := ["thing"]
def g_is_number : GS := (sRet (gAndV (gDef 1 F_is_integer (gCons (gVar 0) gNil)) (gBin fGe (gVar 0) (gC (.int 0)))))
def F_is_number : List D → S → R D := fnF N_is_number g_is_number
abbrev N_is_pair : List Str := ["thing"]
def g_is_pair : GS := (sRet (gAndV (gCall fIsi (gCons (gVar 0) (gCons (gC (.ty "tuple")) gNil))) (gBin fEq (gCall fLen (gCons (gVar 0) gNil)) (gC (.int 2)))))
def F_is_pair : List D → S → R D := fnF N_is_pair g_is_pair
abbrev N_is_quotient : List Str := ["thing", "top", "bottom"]
def g_is_quotient : GS := (gSeq (sIf (gNot (gTr (gDef 1 F_is_pair (gCons (gVar 0) gNil)))) (sRet (gC (.bl false))) gSkip)
    (gSeq (sUnp [1, 2] (gVar 0))
    (sRet (gAndV (gDef 1 F_is_integer (gCons (gVar 1) gNil)) (gAndV (gDef 1 F_is_integer (gCons (gVar 2) gNil)) (gAndV (gBin fGe (gVar 2) (gC (.int 1))) (gBin fEq (gCall fGcd (gCons (gVar 1) (gCons (gVar 2) gNil))) (gC (.int 1)))))))))
def F_is_quotient : List D → S → R D := fnF N_is_quotient g_is_quotient
abbrev N_is_span : List Str := ["thing", "near", "far"]
def g_is_span : GS := (gSeq (sIf (gNot (gTr (gDef 1 F_is_pair (gCons (gVar 0) gNil)))) (sRet (gC (.bl false))) gSkip)
    (gSeq (sUnp [1, 2] (gVar 0))
    (sRet (gAndV (gDef 1 F_is_quotient (gCons (gVar 1) gNil)) (gAndV (gDef 1 F_is_quotient (gCons (gVar 2) gNil)) (gBin fLe (gBin fMul (gBin fIx (gVar 1) (gC (.int 0))) (gBin fIx (gVar 2) (gC (.int 1)))) (gBin fMul (gBin fIx (gVar 2) (gC (.int 0))) (gBin fIx (gVar 1) (gC (.int 1))))))))))
def F_is_span : List D → S → R D := fnF N_is_span g_is_span
abbrev N_is_input : List Str := ["size", "thing"]
def g_is_input : GS := (sRet (gAndV (gDef 1 F_is_number (gCons (gVar 1) gNil)) (gBin fLt (gVar 1) (gVar 0))))
def F_is_input : List D → S → R D := fnF N_is_input g_is_input
abbrev N_is_point : List Str := ["size", "thing", "entry"]
def g_is_point : GS := (sRet (gAndV (gCall fIsi (gCons (gVar 1) (gCons (gC (.ty "tuple")) gNil))) (gAndV (gBin fEq (gCall fLen (gCons (gVar 1) gNil)) (gVar 0)) (gCall fAll (gCons (gLc false [2] (iSq (gVar 1)) (tgV 2) gYes (gDef 1 F_is_quotient (gCons (gVar 2) gNil))) gNil)))))
def F_is_point : List D → S → R D := fnF N_is_point g_is_point
abbrev N_reduced : List Str := ["top", "bottom", "shared"]
def g_reduced : GS := (gSeq (sAsg 2 (gCall fGcd (gCons (gVar 0) (gCons (gVar 1) gNil))))
    (gSeq (sIf (gTr (gBin fLt (gVar 1) (gC (.int 0)))) (sAsg 2 (gUn fNeg (gVar 2))) gSkip)
    (sRet (gCall fTup (gCons (gBin fDiv (gVar 0) (gVar 2)) (gCons (gBin fDiv (gVar 1) (gVar 2)) gNil))))))
def F_reduced : List D → S → R D := fnF N_reduced g_reduced
abbrev N_added : List Str := ["one", "other"]
def g_added : GS := (gSeq (sIf (gAnd (gTr (gBin fEq (gBin fIx (gVar 0) (gC (.int 1))) (gC (.int 1)))) (gTr (gBin fEq (gBin fIx (gVar 1) (gC (.int 1))) (gC (.int 1))))) (sRet (gCall fTup (gCons (gBin (fAdd false) (gBin fIx (gVar 0) (gC (.int 0))) (gBin fIx (gVar 1) (gC (.int 0)))) (gCons (gC (.int 1)) gNil)))) gSkip)
    (sRet (gDef 2 F_reduced (gCons (gBin (fAdd false) (gBin fMul (gBin fIx (gVar 0) (gC (.int 0))) (gBin fIx (gVar 1) (gC (.int 1)))) (gBin fMul (gBin fIx (gVar 1) (gC (.int 0))) (gBin fIx (gVar 0) (gC (.int 1))))) (gCons (gBin fMul (gBin fIx (gVar 0) (gC (.int 1))) (gBin fIx (gVar 1) (gC (.int 1)))) gNil)))))
def F_added : List D → S → R D := fnF N_added g_added
abbrev N_negated : List Str := ["quotient"]
def g_negated : GS := (sRet (gCall fTup (gCons (gUn fNeg (gBin fIx (gVar 0) (gC (.int 0)))) (gCons (gBin fIx (gVar 0) (gC (.int 1))) gNil))))
def F_negated : List D → S → R D := fnF N_negated g_negated
abbrev N_taken_off : List Str := ["one", "other"]
def g_taken_off : GS := (sRet (gDef 2 F_added (gCons (gVar 0) (gCons (gDef 1 F_negated (gCons (gVar 1) gNil)) gNil))))
def F_taken_off : List D → S → R D := fnF N_taken_off g_taken_off
abbrev N_multiplied : List Str := ["one", "other"]
def g_multiplied : GS := (gSeq (sIf (gAnd (gTr (gBin fEq (gBin fIx (gVar 0) (gC (.int 1))) (gC (.int 1)))) (gTr (gBin fEq (gBin fIx (gVar 1) (gC (.int 1))) (gC (.int 1))))) (sRet (gCall fTup (gCons (gBin fMul (gBin fIx (gVar 0) (gC (.int 0))) (gBin fIx (gVar 1) (gC (.int 0)))) (gCons (gC (.int 1)) gNil)))) gSkip)
    (sRet (gDef 2 F_reduced (gCons (gBin fMul (gBin fIx (gVar 0) (gC (.int 0))) (gBin fIx (gVar 1) (gC (.int 0)))) (gCons (gBin fMul (gBin fIx (gVar 0) (gC (.int 1))) (gBin fIx (gVar 1) (gC (.int 1)))) gNil)))))
def F_multiplied : List D → S → R D := fnF N_multiplied g_multiplied
abbrev N_divided : List Str := ["one", "other"]
def g_divided : GS := (sRet (gDef 2 F_reduced (gCons (gBin fMul (gBin fIx (gVar 0) (gC (.int 0))) (gBin fIx (gVar 1) (gC (.int 1)))) (gCons (gBin fMul (gBin fIx (gVar 0) (gC (.int 1))) (gBin fIx (gVar 1) (gC (.int 0)))) gNil))))
def F_divided : List D → S → R D := fnF N_divided g_divided
abbrev N_is_less : List Str := ["one", "other"]
def g_is_less : GS := (sRet (gBin fLt (gBin fMul (gBin fIx (gVar 0) (gC (.int 0))) (gBin fIx (gVar 1) (gC (.int 1)))) (gBin fMul (gBin fIx (gVar 1) (gC (.int 0))) (gBin fIx (gVar 0) (gC (.int 1))))))
def F_is_less : List D → S → R D := fnF N_is_less g_is_less
abbrev N_span_over : List Str := ["quotients", "least", "greatest", "quotient"]
def b_span_over_1 : GS := (gSeq (sIf (gTr (gDef 2 F_is_less (gCons (gVar 3) (gCons (gVar 1) gNil)))) (sAsg 1 (gVar 3)) gSkip)
    (sIf (gTr (gDef 2 F_is_less (gCons (gVar 2) (gCons (gVar 3) gNil)))) (sAsg 2 (gVar 3)) gSkip))
def g_span_over : GS := (gSeq (sAsg2 1 2 (gBin fIx (gVar 0) (gC (.int 0))))
    (gSeq (sFor (iSq (gVar 0)) (tgV 3) b_span_over_1)
    (sRet (gCall fTup (gCons (gVar 1) (gCons (gVar 2) gNil))))))
def F_span_over : List D → S → R D := fnF N_span_over g_span_over
abbrev N_ask : List Str := ["right", "name"]
def g_ask : GS := (sIf (gNot (gTr (gVar 0))) (sRaise2 "NotUsable" "word" "at" (gCons (gVar 1) (gCons (gUn fNeg (gC (.int 1))) gNil))) gSkip)
def F_ask : List D → S → R D := fnF N_ask g_ask
abbrev N_ask_quotient : List Str := ["quotient"]
def g_ask_quotient : GS := (sDrop (gDef 2 F_ask (gCons (gDef 1 F_is_quotient (gCons (gVar 0) gNil)) (gCons (gC (.str "quotient")) gNil))))
def F_ask_quotient : List D → S → R D := fnF N_ask_quotient g_ask_quotient
abbrev N_ask_input : List Str := ["size", "which"]
def g_ask_input : GS := (sDrop (gDef 2 F_ask (gCons (gDef 2 F_is_input (gCons (gVar 0) (gCons (gVar 1) gNil))) (gCons (gC (.str "which")) gNil))))
def F_ask_input : List D → S → R D := fnF N_ask_input g_ask_input
abbrev N_ask_point : List Str := ["size", "point"]
def g_ask_point : GS := (sDrop (gDef 2 F_ask (gCons (gDef 2 F_is_point (gCons (gVar 0) (gCons (gVar 1) gNil))) (gCons (gC (.str "point")) gNil))))
def F_ask_point : List D → S → R D := fnF N_ask_point g_ask_point
abbrev N_quotient_of : List Str := ["top", "bottom"]
def g_quotient_of : GS := (gSeq (sDrop (gDef 2 F_ask (gCons (gDef 1 F_is_integer (gCons (gVar 0) gNil)) (gCons (gC (.str "top")) gNil))))
    (gSeq (sDrop (gDef 2 F_ask (gCons (gAndV (gDef 1 F_is_integer (gCons (gVar 1) gNil)) (gBin fNe (gVar 1) (gC (.int 0)))) (gCons (gC (.str "bottom")) gNil))))
    (sRet (gDef 2 F_reduced (gCons (gVar 0) (gCons (gVar 1) gNil))))))
def F_quotient_of : List D → S → R D := fnF N_quotient_of g_quotient_of
abbrev N_plus : List Str := ["one", "other"]
def g_plus : GS := (gSeq (sDrop (gDef 2 F_ask (gCons (gDef 1 F_is_quotient (gCons (gVar 1) gNil)) (gCons (gC (.str "other")) gNil))))
    (sRet (gDef 2 F_added (gCons (gVar 0) (gCons (gVar 1) gNil)))))
def F_plus : List D → S → R D := fnF N_plus g_plus
abbrev N_minus : List Str := ["one", "other"]
def g_minus : GS := (gSeq (sDrop (gDef 2 F_ask (gCons (gDef 1 F_is_quotient (gCons (gVar 1) gNil)) (gCons (gC (.str "other")) gNil))))
    (sRet (gDef 2 F_taken_off (gCons (gVar 0) (gCons (gVar 1) gNil)))))
def F_minus : List D → S → R D := fnF N_minus g_minus
abbrev N_times : List Str := ["one", "other"]
def g_times : GS := (gSeq (sDrop (gDef 2 F_ask (gCons (gDef 1 F_is_quotient (gCons (gVar 1) gNil)) (gCons (gC (.str "other")) gNil))))
    (sRet (gDef 2 F_multiplied (gCons (gVar 0) (gCons (gVar 1) gNil)))))
def F_times : List D → S → R D := fnF N_times g_times
abbrev N_over : List Str := ["one", "other"]
def g_over : GS := (gSeq (sDrop (gDef 2 F_ask (gCons (gAndV (gDef 1 F_is_quotient (gCons (gVar 1) gNil)) (gBin fNe (gVar 1) (gC (.tup [(.int 0), (.int 1)])))) (gCons (gC (.str "other")) gNil))))
    (sRet (gDef 2 F_divided (gCons (gVar 0) (gCons (gVar 1) gNil)))))
def F_over : List D → S → R D := fnF N_over g_over
abbrev N_less : List Str := ["one", "other"]
def g_less : GS := (gSeq (sDrop (gDef 2 F_ask (gCons (gDef 1 F_is_quotient (gCons (gVar 1) gNil)) (gCons (gC (.str "other")) gNil))))
    (sRet (gDef 2 F_is_less (gCons (gVar 0) (gCons (gVar 1) gNil)))))
def F_less : List D → S → R D := fnF N_less g_less
abbrev N_span_plus : List Str := ["one", "other"]
def g_span_plus : GS := (gSeq (sDrop (gDef 2 F_ask (gCons (gDef 1 F_is_span (gCons (gVar 1) gNil)) (gCons (gC (.str "other")) gNil))))
    (sRet (gCall fTup (gCons (gDef 2 F_added (gCons (gBin fIx (gVar 0) (gC (.int 0))) (gCons (gBin fIx (gVar 1) (gC (.int 0))) gNil))) (gCons (gDef 2 F_added (gCons (gBin fIx (gVar 0) (gC (.int 1))) (gCons (gBin fIx (gVar 1) (gC (.int 1))) gNil))) gNil)))))
def F_span_plus : List D → S → R D := fnF N_span_plus g_span_plus
abbrev N_span_minus : List Str := ["one", "other"]
def g_span_minus : GS := (gSeq (sDrop (gDef 2 F_ask (gCons (gDef 1 F_is_span (gCons (gVar 1) gNil)) (gCons (gC (.str "other")) gNil))))
    (sRet (gCall fTup (gCons (gDef 2 F_taken_off (gCons (gBin fIx (gVar 0) (gC (.int 0))) (gCons (gBin fIx (gVar 1) (gC (.int 1))) gNil))) (gCons (gDef 2 F_taken_off (gCons (gBin fIx (gVar 0) (gC (.int 1))) (gCons (gBin fIx (gVar 1) (gC (.int 0))) gNil))) gNil)))))
def F_span_minus : List D → S → R D := fnF N_span_minus g_span_minus
abbrev N_span_times : List Str := ["one", "other", "end", "far"]
def g_span_times : GS := (gSeq (sDrop (gDef 2 F_ask (gCons (gDef 1 F_is_span (gCons (gVar 1) gNil)) (gCons (gC (.str "other")) gNil))))
    (sRet (gDef 1 F_span_over (gCons (gLc2 false [2, 3] [3] (iSq (gVar 0)) (tgV 2) gYes (iSq (gVar 1)) (tgV 3) gYes (gDef 2 F_multiplied (gCons (gVar 2) (gCons (gVar 3) gNil)))) gNil))))
def F_span_times : List D → S → R D := fnF N_span_times g_span_times
abbrev N_scaled_span : List Str := ["span", "quotient", "end"]
def g_scaled_span : GS := (gSeq (sDrop (gDef 1 F_ask_quotient (gCons (gVar 1) gNil)))
    (sRet (gDef 1 F_span_over (gCons (gLc false [2] (iSq (gVar 0)) (tgV 2) gYes (gDef 2 F_multiplied (gCons (gVar 2) (gCons (gVar 1) gNil)))) gNil))))
def F_scaled_span : List D → S → R D := fnF N_scaled_span g_scaled_span
abbrev N_holds : List Str := ["span", "quotient"]
def g_holds : GS := (gSeq (sDrop (gDef 1 F_ask_quotient (gCons (gVar 1) gNil)))
    (sRet (gAndV (gUn fNot (gDef 2 F_is_less (gCons (gVar 1) (gCons (gBin fIx (gVar 0) (gC (.int 0))) gNil)))) (gUn fNot (gDef 2 F_is_less (gCons (gBin fIx (gVar 0) (gC (.int 1))) (gCons (gVar 1) gNil)))))))
def F_holds : List D → S → R D := fnF N_holds g_holds
abbrev N_span_within : List Str := ["span", "other"]
def g_span_within : GS := (gSeq (sDrop (gDef 2 F_ask (gCons (gDef 1 F_is_span (gCons (gVar 1) gNil)) (gCons (gC (.str "other")) gNil))))
    (sRet (gAndV (gDef 2 F_holds (gCons (gVar 1) (gCons (gBin fIx (gVar 0) (gC (.int 0))) gNil))) (gDef 2 F_holds (gCons (gVar 1) (gCons (gBin fIx (gVar 0) (gC (.int 1))) gNil))))))
def F_span_within : List D → S → R D := fnF N_span_within g_span_within
abbrev N_spans_apart : List Str := ["one", "other"]
def g_spans_apart : GS := (gSeq (sDrop (gDef 2 F_ask (gCons (gDef 1 F_is_span (gCons (gVar 1) gNil)) (gCons (gC (.str "other")) gNil))))
    (sRet (gOrV (gDef 2 F_is_less (gCons (gBin fIx (gVar 0) (gC (.int 1))) (gCons (gBin fIx (gVar 1) (gC (.int 0))) gNil))) (gDef 2 F_is_less (gCons (gBin fIx (gVar 1) (gC (.int 1))) (gCons (gBin fIx (gVar 0) (gC (.int 0))) gNil))))))
def F_spans_apart : List D → S → R D := fnF N_spans_apart g_spans_apart
abbrev N_wide_sides : List Str := ["box", "k"]
def g_wide_sides : GS := (sRet (gTupGe [1] (iOf iRange1 (gCons (gCall fLen (gCons (gVar 0) gNil)) gNil)) (tgV 1) (gTr (gBin fNe (gBin fIx (gBin fIx (gVar 0) (gVar 1)) (gC (.int 0))) (gBin fIx (gBin fIx (gVar 0) (gVar 1)) (gC (.int 1))))) (gVar 1)))
def F_wide_sides : List D → S → R D := fnF N_wide_sides g_wide_sides
abbrev N_corners_of : List Str := ["box", "wide", "number", "corner", "side", "k"]
def b_corners_of_1 : GS := (sSet (gBin fIx (gBin fIx (gVar 0) (gBin fIx (gVar 1) (gVar 5))) (gBin fAnd (gBin fShr (gVar 2) (gBin fSub (gBin fSub (gCall fLen (gCons (gVar 1) gNil)) (gC (.int 1))) (gVar 5))) (gC (.int 1)))) (gVar 3) (gBin fIx (gVar 1) (gVar 5)))
def b_corners_of_2 : GG := (ggSeq (ggPl (sAsg 3 (gLc true [4] (iSq (gVar 0)) (tgV 4) gYes (gBin fIx (gVar 4) (gC (.int 0))))))
    (ggSeq (ggPl (sFor (iOf iRange1 (gCons (gCall fLen (gCons (gVar 1) gNil)) gNil)) (tgV 5) b_corners_of_1))
    (ggSeq (ggYi (gCall fTuple (gCons (gVar 3) gNil)))
    ggSkip)))
def g_corners_of : GG := (ggSeq (ggPl (sAsg 1 (gDef 1 F_wide_sides (gCons (gVar 0) gNil))))
    (ggSeq (ggFor (iOf iRange1 (gCons (gBin fShl (gC (.int 1)) (gCall fLen (gCons (gVar 1) gNil))) gNil)) (tgV 2) b_corners_of_2)
    ggSkip))
def F_corners_of : List D → S → R (List D) := fnG N_corners_of g_corners_of
abbrev N_in_box : List Str := ["box", "point", "k"]
def g_in_box : GS := (gSeq (sDrop (gDef 2 F_ask_point (gCons (gCall fLen (gCons (gVar 0) gNil)) (gCons (gVar 1) gNil))))
    (sRet (gCall fAll (gCons (gLc false [2] (iOf iRange1 (gCons (gCall fLen (gCons (gVar 0) gNil)) gNil)) (tgV 2) gYes (gDef 2 F_holds (gCons (gBin fIx (gVar 0) (gVar 2)) (gCons (gBin fIx (gVar 1) (gVar 2)) gNil)))) gNil))))
def F_in_box : List D → S → R D := fnF N_in_box g_in_box
abbrev N_side_put : List Str := ["box", "which", "span"]
def g_side_put : GS := (sRet (gBin (fAdd false) (gBin (fAdd false) (gSl false (gVar 0) goNone (goSome (gVar 1))) (gCall fTup (gCons (gVar 2) gNil))) (gSl false (gVar 0) (goSome (gBin (fAdd false) (gVar 1) (gC (.int 1)))) goNone)))
def F_side_put : List D → S → R D := fnF N_side_put g_side_put
abbrev N_with_side : List Str := ["box", "which", "span"]
def g_with_side : GS := (gSeq (sDrop (gDef 2 F_ask_input (gCons (gCall fLen (gCons (gVar 0) gNil)) (gCons (gVar 1) gNil))))
    (gSeq (sDrop (gDef 2 F_ask (gCons (gDef 1 F_is_span (gCons (gVar 2) gNil)) (gCons (gC (.str "span")) gNil))))
    (sRet (gDef 3 F_side_put (gCons (gVar 0) (gCons (gVar 1) (gCons (gVar 2) gNil)))))))
def F_with_side : List D → S → R D := fnF N_with_side g_with_side
abbrev N_point_box : List Str := ["point", "entry"]
def g_point_box : GS := (gSeq (sDrop (gDef 2 F_ask (gCons (gAndV (gCall fIsi (gCons (gVar 0) (gCons (gC (.ty "tuple")) gNil))) (gAndV (gBin fGe (gCall fLen (gCons (gVar 0) gNil)) (gC (.int 1))) (gDef 2 F_is_point (gCons (gCall fLen (gCons (gVar 0) gNil)) (gCons (gVar 0) gNil))))) (gCons (gC (.str "point")) gNil))))
    (sRet (gTupGe [1] (iSq (gVar 0)) (tgV 1) gYes (gCall fTup (gCons (gVar 1) (gCons (gVar 1) gNil))))))
def F_point_box : List D → S → R D := fnF N_point_box g_point_box
abbrev N__law_row : List Str := ["_law_script", "_law_row_here", "_law_cell", "_law_left", "_law_turn", "_law_one", "_law_place"]
def b__law_row_1 : GS := (sIf (gTr (gBin fGt (gVar 3) (gC (.int 0)))) (gSeq (sDrop (gApp (gVar 1) (gBin fMod (gCall fInt (gCons (gVar 3) gNil)) (gC (.int 10007)))))
    (sAsg 3 (gBin fDiv (gVar 3) (gC (.int 10007))))) gSkip)
def b__law_row_2 : GS := (gSeq (sAsg 3 (gCall fAbs (gCons (gVar 2) gNil)))
    (sIf (gTr (gBin fGe (gVar 3) (gC (.int 1000000000000000000)))) (sFor (iOf iRange1 (gCons (gC (.int 60)) gNil)) (tgV 4) b__law_row_1) gSkip))
def b__law_row_3 : GS := (sAsg 5 (gBin fMod (gCall fInt (gCons (gBin (fAdd false) (gBin (fAdd false) (gBin (fAdd false) (gBin fMul (gVar 5) (gC (.int 51479))) (gBin fMul (gVar 2) (gC (.int 30391)))) (gBin fMul (gVar 6) (gC (.int 7919)))) (gC (.int 11))) gNil)) (gC (.int 2147483629))))
def b__law_row_4 : GS := (gSeq (sAsg 5 (gBin fMod (gCall fInt (gCons (gBin (fAdd false) (gBin (fAdd false) (gBin (fAdd false) (gBin fMul (gVar 5) (gVar 5)) (gBin fMul (gVar 5) (gC (.int 40087)))) (gBin fMul (gVar 6) (gC (.int 1009)))) (gC (.int 5))) gNil)) (gC (.int 2147483629))))
    (sDrop (gApp (gVar 1) (gBin fDiv (gVar 5) (gC (.int 1024))))))
def g__law_row : GS := (gSeq (sAsg 1 (gCall (nl true) gNil))
    (gSeq (sFor (iSq (gVar 0)) (tgV 2) b__law_row_2)
    (gSeq (sIf (gTr (gVar 0)) (gSeq (sAsg 5 (gC (.int 77003)))
    (gSeq (sFor (iOf iEnumD (gCons (gVar 0) gNil)) (tgT [6, 2]) b__law_row_3)
    (sFor (iOf iRange1 (gCons (gC (.int 800)) gNil)) (tgV 6) b__law_row_4))) gSkip)
    (sRet (gUn (fRevL true) (gVar 1))))))
def F__law_row : List D → S → R D := fnF N__law_row g__law_row
abbrev N__law_take : List Str := ["_law_row_here", "_law_many"]
def g__law_take : GS := (gSeq (sIf (gNot (gTr (gVar 0))) (sRet (gC (.int 0))) gSkip)
    (sRet (gBin fMod (gCall fInt (gCons (gUn fPop (gVar 0)) gNil)) (gVar 1))))
def F__law_take : List D → S → R D := fnF N__law_take g__law_take
abbrev N__law_common : List Str := ["_law_one", "_law_other", "_law_left", "_law_right", "_law_turn"]
def b__law_common_1 : GS := (gSeq (sIf (gTr (gBin fEq (gVar 3) (gC (.int 0)))) (sRet (gVar 2)) gSkip)
    (sPar 2 3 (gCons (gVar 3) (gCons (gBin fMod (gCall fInt (gCons (gVar 2) gNil)) (gVar 3)) gNil))))
def g__law_common : GS := (gSeq (sPar 2 3 (gCons (gCall fAbs (gCons (gVar 0) gNil)) (gCons (gCall fAbs (gCons (gVar 1) gNil)) gNil)))
    (gSeq (sFor (iOf iRange1 (gCons (gBin (fAdd false) (gBin fMul (gC (.int 2)) (gUn fBits (gCall fMax2 (gCons (gVar 2) (gCons (gVar 3) gNil))))) (gC (.int 4))) gNil)) (tgV 4) b__law_common_1)
    (sRet (gVar 2))))
def F__law_common : List D → S → R D := fnF N__law_common g__law_common
abbrev N__law_whole : List Str := ["_law_row_here", "_law_kind", "_law_sign", "_law_high"]
def g__law_whole : GS := (gSeq (sAsg 1 (gDef 2 F__law_take (gCons (gVar 0) (gCons (gC (.int 6)) gNil))))
    (gSeq (sAsg 2 (gBin fSub (gC (.int 1)) (gBin fMul (gC (.int 2)) (gDef 2 F__law_take (gCons (gVar 0) (gCons (gC (.int 2)) gNil))))))
    (gSeq (sIf (gTr (gBin fLt (gVar 1) (gC (.int 4)))) (sRet (gBin fMul (gVar 2) (gDef 2 F__law_take (gCons (gVar 0) (gCons (gC (.int 7)) gNil))))) gSkip)
    (gSeq (sIf (gTr (gBin fEq (gVar 1) (gC (.int 4)))) (sRet (gBin fMul (gVar 2) (gDef 2 F__law_take (gCons (gVar 0) (gCons (gC (.int 2000)) gNil))))) gSkip)
    (gSeq (sAsg 3 (gBin fMul (gDef 2 F__law_take (gCons (gVar 0) (gCons (gC (.int 10000)) gNil))) (gC (.int 100000000))))
    (gSeq (sAsg 3 (gBin (fAdd false) (gVar 3) (gBin fMul (gDef 2 F__law_take (gCons (gVar 0) (gCons (gC (.int 10000)) gNil))) (gC (.int 10000)))))
    (sRet (gBin fMul (gVar 2) (gBin (fAdd false) (gBin (fAdd false) (gVar 3) (gDef 2 F__law_take (gCons (gVar 0) (gCons (gC (.int 10000)) gNil)))) (gC (.int 1)))))))))))
def F__law_whole : List D → S → R D := fnF N__law_whole g__law_whole
abbrev N__law_lowest : List Str := ["_law_top", "_law_bottom", "_law_by"]
def g__law_lowest : GS := (gSeq (sAsg 2 (gDef 2 F__law_common (gCons (gVar 0) (gCons (gVar 1) gNil))))
    (sRet (gCall fTup (gCons (gBin fDiv (gVar 0) (gVar 2)) (gCons (gBin fDiv (gVar 1) (gVar 2)) gNil)))))
def F__law_lowest : List D → S → R D := fnF N__law_lowest g__law_lowest
abbrev N__law_quotient : List Str := ["_law_row_here", "_law_top", "_law_bottom"]
def g__law_quotient : GS := (gSeq (sAsg 1 (gDef 1 F__law_whole (gCons (gVar 0) gNil)))
    (gSeq (sAsg 2 (gCall fAbs (gCons (gDef 1 F__law_whole (gCons (gVar 0) gNil)) gNil)))
    (gSeq (sIf (gTr (gBin fEq (gVar 2) (gC (.int 0)))) (sAsg 2 (gC (.int 1))) gSkip)
    (sRet (gDef 2 F__law_lowest (gCons (gVar 1) (gCons (gVar 2) gNil)))))))
def F__law_quotient : List D → S → R D := fnF N__law_quotient g__law_quotient
abbrev N__law_below : List Str := ["_law_one", "_law_other"]
def g__law_below : GS := (sRet (gBin fLt (gBin fMul (gBin fIx (gVar 0) (gC (.int 0))) (gBin fIx (gVar 1) (gC (.int 1)))) (gBin fMul (gBin fIx (gVar 1) (gC (.int 0))) (gBin fIx (gVar 0) (gC (.int 1))))))
def F__law_below : List D → S → R D := fnF N__law_below g__law_below
abbrev N__law_span : List Str := ["_law_row_here", "_law_one", "_law_other"]
def g__law_span : GS := (gSeq (sAsg 1 (gDef 1 F__law_quotient (gCons (gVar 0) gNil)))
    (gSeq (sAsg 2 (gDef 1 F__law_quotient (gCons (gVar 0) gNil)))
    (gSeq (sIf (gTr (gBin fEq (gDef 2 F__law_take (gCons (gVar 0) (gCons (gC (.int 4)) gNil))) (gC (.int 0)))) (sRet (gCall fTup (gCons (gVar 1) (gCons (gVar 1) gNil)))) gSkip)
    (gSeq (sIf (gTr (gDef 2 F__law_below (gCons (gVar 2) (gCons (gVar 1) gNil)))) (sRet (gCall fTup (gCons (gVar 2) (gCons (gVar 1) gNil)))) gSkip)
    (sRet (gCall fTup (gCons (gVar 1) (gCons (gVar 2) gNil))))))))
def F__law_span : List D → S → R D := fnF N__law_span g__law_span
abbrev N__law_integer : List Str := ["_law_thing"]
def g__law_integer : GS := (sRet (gAndV (gCall fIsi (gCons (gVar 0) (gCons (gC (.ty "int")) gNil))) (gUn fNot (gCall fIsi (gCons (gVar 0) (gCons (gC (.ty "bool")) gNil))))))
def F__law_integer : List D → S → R D := fnF N__law_integer g__law_integer
abbrev N__law_right_quotient : List Str := ["_law_thing"]
def g__law_right_quotient : GS := (gSeq (sIf (gOr (gNot (gTr (gCall fIsi (gCons (gVar 0) (gCons (gC (.ty "tuple")) gNil))))) (gTr (gBin fNe (gCall fLen (gCons (gVar 0) gNil)) (gC (.int 2))))) (sRet (gC (.bl false))) gSkip)
    (gSeq (sIf (gOr (gNot (gTr (gDef 1 F__law_integer (gCons (gBin fIx (gVar 0) (gC (.int 0))) gNil)))) (gNot (gTr (gDef 1 F__law_integer (gCons (gBin fIx (gVar 0) (gC (.int 1))) gNil))))) (sRet (gC (.bl false))) gSkip)
    (sRet (gAndV (gBin fGe (gBin fIx (gVar 0) (gC (.int 1))) (gC (.int 1))) (gBin fEq (gDef 2 F__law_common (gCons (gBin fIx (gVar 0) (gC (.int 0))) (gCons (gBin fIx (gVar 0) (gC (.int 1))) gNil))) (gC (.int 1)))))))
def F__law_right_quotient : List D → S → R D := fnF N__law_right_quotient g__law_right_quotient
abbrev N__law_right_span : List Str := ["_law_thing"]
def g__law_right_span : GS := (gSeq (sIf (gOr (gNot (gTr (gCall fIsi (gCons (gVar 0) (gCons (gC (.ty "tuple")) gNil))))) (gTr (gBin fNe (gCall fLen (gCons (gVar 0) gNil)) (gC (.int 2))))) (sRet (gC (.bl false))) gSkip)
    (gSeq (sIf (gOr (gNot (gTr (gDef 1 F__law_right_quotient (gCons (gBin fIx (gVar 0) (gC (.int 0))) gNil)))) (gNot (gTr (gDef 1 F__law_right_quotient (gCons (gBin fIx (gVar 0) (gC (.int 1))) gNil))))) (sRet (gC (.bl false))) gSkip)
    (sRet (gUn fNot (gDef 2 F__law_below (gCons (gBin fIx (gVar 0) (gC (.int 1))) (gCons (gBin fIx (gVar 0) (gC (.int 0))) gNil)))))))
def F__law_right_span : List D → S → R D := fnF N__law_right_span g__law_right_span
abbrev N__law_truth : List Str := ["_law_told", "_law_due"]
def g__law_truth : GS := (gSeq (sIf (gTr (gVar 1)) (sRet (gBin (fIs id) (gVar 0) (gC (.bl true)))) gSkip)
    (sRet (gBin (fIs id) (gVar 0) (gC (.bl false)))))
def F__law_truth : List D → S → R D := fnF N__law_truth g__law_truth
abbrev N__law_ask : List Str := ["_law_word", "_law_one", "_law_other", "error"]
def g__law_ask : GS := (sTry 3 "NotUsable" (gSeq (sIf (gTr (gBin fEq (gVar 0) (gC (.str "plus")))) (sRet (gDef 2 F_plus (gCons (gVar 1) (gCons (gVar 2) gNil)))) gSkip)
    (gSeq (sIf (gTr (gBin fEq (gVar 0) (gC (.str "minus")))) (sRet (gDef 2 F_minus (gCons (gVar 1) (gCons (gVar 2) gNil)))) gSkip)
    (gSeq (sIf (gTr (gBin fEq (gVar 0) (gC (.str "times")))) (sRet (gDef 2 F_times (gCons (gVar 1) (gCons (gVar 2) gNil)))) gSkip)
    (gSeq (sIf (gTr (gBin fEq (gVar 0) (gC (.str "over")))) (sRet (gDef 2 F_over (gCons (gVar 1) (gCons (gVar 2) gNil)))) gSkip)
    (gSeq (sIf (gTr (gBin fEq (gVar 0) (gC (.str "less")))) (sRet (gDef 2 F_less (gCons (gVar 1) (gCons (gVar 2) gNil)))) gSkip)
    (gSeq (sIf (gTr (gBin fEq (gVar 0) (gC (.str "quotient_of")))) (sRet (gDef 2 F_quotient_of (gCons (gVar 1) (gCons (gVar 2) gNil)))) gSkip)
    (gSeq (sIf (gTr (gBin fEq (gVar 0) (gC (.str "point_box")))) (sRet (gDef 1 F_point_box (gCons (gVar 1) gNil))) gSkip)
    (sRet (gDef 2 F_in_box (gCons (gVar 1) (gCons (gVar 2) gNil))))))))))) [.fld "word", .fld "at", .con (.str "refused")])
def F__law_ask : List D → S → R D := fnF N__law_ask g__law_ask
abbrev N__law_ask_span : List Str := ["_law_word", "_law_one", "_law_other", "error"]
def g__law_ask_span : GS := (sTry 3 "NotUsable" (gSeq (sIf (gTr (gBin fEq (gVar 0) (gC (.str "span_plus")))) (sRet (gDef 2 F_span_plus (gCons (gVar 1) (gCons (gVar 2) gNil)))) gSkip)
    (gSeq (sIf (gTr (gBin fEq (gVar 0) (gC (.str "span_minus")))) (sRet (gDef 2 F_span_minus (gCons (gVar 1) (gCons (gVar 2) gNil)))) gSkip)
    (gSeq (sIf (gTr (gBin fEq (gVar 0) (gC (.str "span_times")))) (sRet (gDef 2 F_span_times (gCons (gVar 1) (gCons (gVar 2) gNil)))) gSkip)
    (gSeq (sIf (gTr (gBin fEq (gVar 0) (gC (.str "span_within")))) (sRet (gDef 2 F_span_within (gCons (gVar 1) (gCons (gVar 2) gNil)))) gSkip)
    (gSeq (sIf (gTr (gBin fEq (gVar 0) (gC (.str "spans_apart")))) (sRet (gDef 2 F_spans_apart (gCons (gVar 1) (gCons (gVar 2) gNil)))) gSkip)
    (gSeq (sIf (gTr (gBin fEq (gVar 0) (gC (.str "scaled_span")))) (sRet (gDef 2 F_scaled_span (gCons (gVar 1) (gCons (gVar 2) gNil)))) gSkip)
    (sRet (gDef 2 F_holds (gCons (gVar 1) (gCons (gVar 2) gNil)))))))))) [.fld "word", .fld "at", .con (.str "refused")])
def F__law_ask_span : List D → S → R D := fnF N__law_ask_span g__law_ask_span
abbrev N__law_ask_side : List Str := ["_law_box", "_law_which", "_law_span_here", "error"]
def g__law_ask_side : GS := (sTry 3 "NotUsable" (sRet (gDef 3 F_with_side (gCons (gVar 0) (gCons (gVar 1) (gCons (gVar 2) gNil))))) [.fld "word", .fld "at", .con (.str "refused")])
def F__law_ask_side : List D → S → R D := fnF N__law_ask_side g__law_ask_side
abbrev N__law_same : List Str := ["_law_told", "_law_due", "_law_one", "_law_other"]
def g__law_same (Frec : List D → S → R D) : GS := (gSeq (sIf (gTr (gCall fIsi (gCons (gVar 1) (gCons (gC (.ty "tuple")) gNil)))) (gSeq (sIf (gOr (gNot (gTr (gCall fIsi (gCons (gVar 0) (gCons (gC (.ty "tuple")) gNil))))) (gTr (gBin fNe (gCall fLen (gCons (gVar 0) gNil)) (gCall fLen (gCons (gVar 1) gNil))))) (sRet (gC (.bl false))) gSkip)
    (gSeq (sFor (iOf iZipD (gCons (gVar 0) (gCons (gVar 1) gNil))) (tgT [2, 3]) (sIf (gNot (gTr (gDef 2 Frec (gCons (gVar 2) (gCons (gVar 3) gNil))))) (sRet (gC (.bl false))) gSkip))
    (sRet (gC (.bl true))))) gSkip)
    (gSeq (sIf (gTr (gCall fIsi (gCons (gVar 1) (gCons (gC (.ty "int")) gNil)))) (sRet (gAndV (gDef 1 F__law_integer (gCons (gVar 0) gNil)) (gBin fEq (gVar 0) (gVar 1)))) gSkip)
    (sRet (gAndV (gCall fIsi (gCons (gVar 0) (gCons (gC (.ty "str")) gNil))) (gBin fEq (gVar 0) (gVar 1))))))
def Ff__law_same : Nat → List D → S → R D
  | 0 => fun _ _ => .bad
  | n + 1 => fnF N__law_same (g__law_same (Ff__law_same n))
def F__law_same : List D → S → R D := Ff__law_same 6
abbrev N__law_is : List Str := ["_law_told", "_law_top", "_law_bottom"]
def g__law_is : GS := (sRet (gAndV (gDef 1 F__law_right_quotient (gCons (gVar 0) gNil)) (gBin fEq (gBin fMul (gBin fIx (gVar 0) (gC (.int 0))) (gVar 2)) (gBin fMul (gVar 1) (gBin fIx (gVar 0) (gC (.int 1)))))))
def F__law_is : List D → S → R D := fnF N__law_is g__law_is
abbrev N__law_ends : List Str := ["_law_told", "_law_ends_here", "_law_low", "_law_high", "_law_end"]
def b__law_ends_1 : GS := (gSeq (sIf (gTr (gDef 2 F__law_below (gCons (gVar 4) (gCons (gVar 2) gNil)))) (sAsg 2 (gVar 4)) gSkip)
    (sIf (gTr (gDef 2 F__law_below (gCons (gVar 3) (gCons (gVar 4) gNil)))) (sAsg 3 (gVar 4)) gSkip))
def g__law_ends : GS := (gSeq (sIf (gNot (gTr (gDef 1 F__law_right_span (gCons (gVar 0) gNil)))) (sRet (gC (.bl false))) gSkip)
    (gSeq (sPar 2 3 (gCons (gBin fIx (gVar 1) (gC (.int 0))) (gCons (gBin fIx (gVar 1) (gC (.int 0))) gNil)))
    (gSeq (sForL (iLoc (gVar 1)) (tgV 4) b__law_ends_1)
    (sRet (gAndV (gDef 3 F__law_is (gCons (gBin fIx (gVar 0) (gC (.int 0))) (gCons (gBin fIx (gVar 2) (gC (.int 0))) (gCons (gBin fIx (gVar 2) (gC (.int 1))) gNil)))) (gDef 3 F__law_is (gCons (gBin fIx (gVar 0) (gC (.int 1))) (gCons (gBin fIx (gVar 3) (gC (.int 0))) (gCons (gBin fIx (gVar 3) (gC (.int 1))) gNil)))))))))
def F__law_ends : List D → S → R D := fnF N__law_ends g__law_ends
abbrev N__law_quotients : List Str := ["_law_row_here", "_law_turn", "_law_one", "_law_other", "_law_many", "_law_top", "_law_bottom", "_law_told"]
def b__law_quotients_1 : GS := (gSeq (sPar3 2 3 4 (gCons (gDef 1 F__law_quotient (gCons (gVar 0) gNil)) (gCons (gDef 1 F__law_quotient (gCons (gVar 0) gNil)) (gCons (gBin (fAdd false) (gC (.int 1)) (gDef 2 F__law_take (gCons (gVar 0) (gCons (gC (.int 900)) gNil)))) gNil))))
    (gSeq (sIf (gTr (gBin fEq (gDef 2 F__law_take (gCons (gVar 0) (gCons (gC (.int 5)) gNil))) (gC (.int 4)))) (sAsg 3 (gVar 2)) gSkip)
    (gSeq (sPar 5 6 (gCons (gBin fMul (gBin fIx (gVar 2) (gC (.int 0))) (gBin fIx (gVar 3) (gC (.int 1)))) (gCons (gBin fMul (gBin fIx (gVar 3) (gC (.int 0))) (gBin fIx (gVar 2) (gC (.int 1)))) gNil)))
    (gSeq (sIf (gNot (gTr (gDef 3 F__law_is (gCons (gDef 3 F__law_ask (gCons (gC (.str "plus")) (gCons (gVar 2) (gCons (gVar 3) gNil)))) (gCons (gBin (fAdd false) (gVar 5) (gVar 6)) (gCons (gBin fMul (gBin fIx (gVar 2) (gC (.int 1))) (gBin fIx (gVar 3) (gC (.int 1)))) gNil)))))) (sRet (gC (.bl false))) gSkip)
    (gSeq (sIf (gNot (gTr (gDef 3 F__law_is (gCons (gDef 3 F__law_ask (gCons (gC (.str "minus")) (gCons (gVar 2) (gCons (gVar 3) gNil)))) (gCons (gBin fSub (gVar 5) (gVar 6)) (gCons (gBin fMul (gBin fIx (gVar 2) (gC (.int 1))) (gBin fIx (gVar 3) (gC (.int 1)))) gNil)))))) (sRet (gC (.bl false))) gSkip)
    (gSeq (sIf (gNot (gTr (gDef 3 F__law_is (gCons (gDef 3 F__law_ask (gCons (gC (.str "times")) (gCons (gVar 2) (gCons (gVar 3) gNil)))) (gCons (gBin fMul (gBin fIx (gVar 2) (gC (.int 0))) (gBin fIx (gVar 3) (gC (.int 0)))) (gCons (gBin fMul (gBin fIx (gVar 2) (gC (.int 1))) (gBin fIx (gVar 3) (gC (.int 1)))) gNil)))))) (sRet (gC (.bl false))) gSkip)
    (gSeq (sIf (gNot (gTr (gDef 2 F__law_truth (gCons (gDef 3 F__law_ask (gCons (gC (.str "less")) (gCons (gVar 2) (gCons (gVar 3) gNil)))) (gCons (gBin fLt (gVar 5) (gVar 6)) gNil))))) (sRet (gC (.bl false))) gSkip)
    (gSeq (sAsg 7 (gDef 3 F__law_ask (gCons (gC (.str "over")) (gCons (gVar 2) (gCons (gVar 3) gNil)))))
    (gSeq (sIf (gAnd (gTr (gBin fEq (gVar 6) (gC (.int 0)))) (gNot (gTr (gDef 2 F__law_same (gCons (gVar 7) (gCons (gCall fTup (gCons (gC (.str "other")) (gCons (gUn fNeg (gC (.int 1))) (gCons (gC (.str "refused")) gNil)))) gNil)))))) (sRet (gC (.bl false))) gSkip)
    (gSeq (sIf (gAnd (gTr (gBin fNe (gVar 6) (gC (.int 0)))) (gNot (gTr (gDef 3 F__law_is (gCons (gVar 7) (gCons (gVar 5) (gCons (gVar 6) gNil))))))) (sRet (gC (.bl false))) gSkip)
    (gSeq (sPar 5 6 (gCons (gDef 1 F__law_whole (gCons (gVar 0) gNil)) (gCons (gDef 1 F__law_whole (gCons (gVar 0) gNil)) gNil)))
    (gSeq (sIf (gAnd (gTr (gBin fLt (gCall fAbs (gCons (gVar 5) gNil)) (gC (.int 100000)))) (gTr (gBin fLt (gCall fAbs (gCons (gVar 6) gNil)) (gC (.int 100000))))) (sPar 5 6 (gCons (gBin fMul (gVar 5) (gVar 4)) (gCons (gBin fMul (gVar 6) (gVar 4)) gNil))) gSkip)
    (gSeq (sIf (gTr (gBin fEq (gVar 6) (gC (.int 0)))) (sAsg 6 (gUn fNeg (gVar 4))) gSkip)
    (gSeq (sIf (gNot (gTr (gDef 3 F__law_is (gCons (gDef 3 F__law_ask (gCons (gC (.str "quotient_of")) (gCons (gVar 5) (gCons (gVar 6) gNil)))) (gCons (gVar 5) (gCons (gVar 6) gNil)))))) (sRet (gC (.bl false))) gSkip)
    (sIf (gNot (gTr (gDef 2 F__law_same (gCons (gKw 2 2 [1, 0] F_quotient_of (gCons (gVar 6) (gCons (gVar 5) gNil))) (gCons (gDef 2 F_quotient_of (gCons (gVar 5) (gCons (gVar 6) gNil))) gNil))))) (sRet (gC (.bl false))) gSkip)))))))))))))))
def g__law_quotients : GS := (gSeq (sFor (iOf iRange1 (gCons (gC (.int 4)) gNil)) (tgV 1) b__law_quotients_1)
    (gSeq (sIf (gNot (gTr (gDef 2 F__law_same (gCons (gCall fTup (gCons (gKw 2 2 [1, 0] F_plus (gCons (gVar 3) (gCons (gVar 2) gNil))) (gCons (gKw 2 2 [1, 0] F_times (gCons (gVar 3) (gCons (gVar 2) gNil))) gNil))) (gCons (gCall fTup (gCons (gDef 2 F_plus (gCons (gVar 2) (gCons (gVar 3) gNil))) (gCons (gDef 2 F_times (gCons (gVar 2) (gCons (gVar 3) gNil))) gNil))) gNil))))) (sRet (gC (.bl false))) gSkip)
    (gSeq (sIf (gNot (gTr (gDef 2 F__law_same (gCons (gKw 2 2 [1, 0] F_over (gCons (gCall fTup (gCons (gUn fNeg (gC (.int 2))) (gCons (gC (.int 3)) gNil))) (gCons (gVar 2) gNil))) (gCons (gDef 2 F_over (gCons (gVar 2) (gCons (gCall fTup (gCons (gUn fNeg (gC (.int 2))) (gCons (gC (.int 3)) gNil))) gNil))) gNil))))) (sRet (gC (.bl false))) gSkip)
    (sRet (gAndV (gDef 2 F__law_same (gCons (gKw 2 2 [1, 0] F_minus (gCons (gVar 3) (gCons (gVar 2) gNil))) (gCons (gDef 2 F_minus (gCons (gVar 2) (gCons (gVar 3) gNil))) gNil))) (gBin fEq (gKw 2 2 [1, 0] F_less (gCons (gVar 3) (gCons (gVar 2) gNil))) (gDef 2 F_less (gCons (gVar 2) (gCons (gVar 3) gNil)))))))))
def F__law_quotients : List D → S → R D := fnF N__law_quotients g__law_quotients
abbrev N__law_near : List Str := ["_law_row_here", "_law_span_here", "_law_kind", "_law_low", "_law_high", "_law_top", "_law_bottom", "_law_near_here"]
def g__law_near : GS := (gSeq (sAsg 2 (gDef 2 F__law_take (gCons (gVar 0) (gCons (gC (.int 7)) gNil))))
    (gSeq (sPar 3 4 (gCons (gBin fIx (gVar 1) (gC (.int 0))) (gCons (gBin fIx (gVar 1) (gC (.int 1))) gNil)))
    (gSeq (sPar 5 6 (gCons (gBin (fAdd false) (gBin fMul (gBin fIx (gVar 3) (gC (.int 0))) (gBin fIx (gVar 4) (gC (.int 1)))) (gBin fMul (gBin fIx (gVar 4) (gC (.int 0))) (gBin fIx (gVar 3) (gC (.int 1))))) (gCons (gBin fMul (gBin fMul (gC (.int 2)) (gBin fIx (gVar 3) (gC (.int 1)))) (gBin fIx (gVar 4) (gC (.int 1)))) gNil)))
    (gSeq (sIf (gTr (gBin fEq (gVar 2) (gC (.int 1)))) (sRet (gVar 4)) gSkip)
    (gSeq (sIf (gTr (gBin fEq (gVar 2) (gC (.int 2)))) (sPar 5 6 (gCons (gBin fSub (gBin fMul (gBin fIx (gVar 3) (gC (.int 0))) (gC (.int 1000))) (gBin fIx (gVar 3) (gC (.int 1)))) (gCons (gBin fMul (gBin fIx (gVar 3) (gC (.int 1))) (gC (.int 1000))) gNil))) gSkip)
    (gSeq (sIf (gTr (gBin fEq (gVar 2) (gC (.int 3)))) (sPar 5 6 (gCons (gBin (fAdd false) (gBin fMul (gBin fIx (gVar 4) (gC (.int 0))) (gC (.int 1000))) (gBin fIx (gVar 4) (gC (.int 1)))) (gCons (gBin fMul (gBin fIx (gVar 4) (gC (.int 1))) (gC (.int 1000))) gNil))) gSkip)
    (gSeq (sIf (gTr (gBin fEq (gVar 2) (gC (.int 4)))) (sRet (gDef 1 F__law_quotient (gCons (gVar 0) gNil))) gSkip)
    (gSeq (sAsg 7 (gDef 2 F__law_lowest (gCons (gVar 5) (gCons (gVar 6) gNil))))
    (gSeq (sIf (gOr (gTr (gBin fEq (gVar 2) (gC (.int 0)))) (gOr (gTr (gBin fGt (gCall fAbs (gCons (gBin fIx (gVar 7) (gC (.int 0))) gNil)) (gC (.int 1000000000000)))) (gTr (gBin fGt (gBin fIx (gVar 7) (gC (.int 1))) (gC (.int 1000000000000)))))) (sRet (gVar 3)) gSkip)
    (sRet (gVar 7)))))))))))
def F__law_near : List D → S → R D := fnF N__law_near g__law_near
abbrev N__law_held : List Str := ["_law_span_here", "_law_quotient_here"]
def g__law_held : GS := (sRet (gAndV (gUn fNot (gDef 2 F__law_below (gCons (gVar 1) (gCons (gBin fIx (gVar 0) (gC (.int 0))) gNil)))) (gUn fNot (gDef 2 F__law_below (gCons (gBin fIx (gVar 0) (gC (.int 1))) (gCons (gVar 1) gNil))))))
def F__law_held : List D → S → R D := fnF N__law_held g__law_held
abbrev N__law_pair_of_spans : List Str := ["_law_one", "_law_other", "_law_added", "_law_lessened", "_law_products", "_law_a", "_law_b", "_law_inside", "_law_apart"]
def b__law_pair_of_spans_1 : GS := (gSeq (sDrop (gApp (gVar 2) (gCall fTup (gCons (gBin (fAdd false) (gBin fMul (gBin fIx (gVar 5) (gC (.int 0))) (gBin fIx (gVar 6) (gC (.int 1)))) (gBin fMul (gBin fIx (gVar 6) (gC (.int 0))) (gBin fIx (gVar 5) (gC (.int 1))))) (gCons (gBin fMul (gBin fIx (gVar 5) (gC (.int 1))) (gBin fIx (gVar 6) (gC (.int 1)))) gNil)))))
    (gSeq (sDrop (gApp (gVar 3) (gCall fTup (gCons (gBin fSub (gBin fMul (gBin fIx (gVar 5) (gC (.int 0))) (gBin fIx (gVar 6) (gC (.int 1)))) (gBin fMul (gBin fIx (gVar 6) (gC (.int 0))) (gBin fIx (gVar 5) (gC (.int 1))))) (gCons (gBin fMul (gBin fIx (gVar 5) (gC (.int 1))) (gBin fIx (gVar 6) (gC (.int 1)))) gNil)))))
    (sDrop (gApp (gVar 4) (gCall fTup (gCons (gBin fMul (gBin fIx (gVar 5) (gC (.int 0))) (gBin fIx (gVar 6) (gC (.int 0)))) (gCons (gBin fMul (gBin fIx (gVar 5) (gC (.int 1))) (gBin fIx (gVar 6) (gC (.int 1)))) gNil)))))))
def b__law_pair_of_spans_2 : GS := (sFor (iSq (gVar 1)) (tgV 6) b__law_pair_of_spans_1)
def g__law_pair_of_spans : GS := (gSeq (sPar3 2 3 4 (gCons (gCall (nl true) gNil) (gCons (gCall (nl true) gNil) (gCons (gCall (nl true) gNil) gNil))))
    (gSeq (sFor (iSq (gVar 0)) (tgV 5) b__law_pair_of_spans_2)
    (gSeq (sIf (gNot (gTr (gDef 2 F__law_ends (gCons (gDef 3 F__law_ask_span (gCons (gC (.str "span_plus")) (gCons (gVar 0) (gCons (gVar 1) gNil)))) (gCons (gVar 2) gNil))))) (sRet (gC (.bl false))) gSkip)
    (gSeq (sIf (gNot (gTr (gDef 2 F__law_ends (gCons (gDef 3 F__law_ask_span (gCons (gC (.str "span_minus")) (gCons (gVar 0) (gCons (gVar 1) gNil)))) (gCons (gVar 3) gNil))))) (sRet (gC (.bl false))) gSkip)
    (gSeq (sIf (gNot (gTr (gDef 2 F__law_ends (gCons (gDef 3 F__law_ask_span (gCons (gC (.str "span_times")) (gCons (gVar 0) (gCons (gVar 1) gNil)))) (gCons (gVar 4) gNil))))) (sRet (gC (.bl false))) gSkip)
    (gSeq (sAsg 7 (gAndV (gDef 2 F__law_held (gCons (gVar 1) (gCons (gBin fIx (gVar 0) (gC (.int 0))) gNil))) (gDef 2 F__law_held (gCons (gVar 1) (gCons (gBin fIx (gVar 0) (gC (.int 1))) gNil)))))
    (gSeq (sIf (gNot (gTr (gDef 2 F__law_truth (gCons (gDef 3 F__law_ask_span (gCons (gC (.str "span_within")) (gCons (gVar 0) (gCons (gVar 1) gNil)))) (gCons (gVar 7) gNil))))) (sRet (gC (.bl false))) gSkip)
    (gSeq (sAsg 8 (gOrV (gDef 2 F__law_below (gCons (gBin fIx (gVar 0) (gC (.int 1))) (gCons (gBin fIx (gVar 1) (gC (.int 0))) gNil))) (gDef 2 F__law_below (gCons (gBin fIx (gVar 1) (gC (.int 1))) (gCons (gBin fIx (gVar 0) (gC (.int 0))) gNil)))))
    (sRet (gDef 2 F__law_truth (gCons (gDef 3 F__law_ask_span (gCons (gC (.str "spans_apart")) (gCons (gVar 0) (gCons (gVar 1) gNil)))) (gCons (gVar 8) gNil))))))))))))
def F__law_pair_of_spans : List D → S → R D := fnF N__law_pair_of_spans g__law_pair_of_spans
abbrev N__law_spans : List Str := ["_law_row_here", "_law_turn", "_law_one", "_law_other", "_law_kind", "_law_left", "_law_right", "_law_by", "_law_scaled", "_law_end", "_law_near_here"]
def b__law_spans_1 : GS := (gSeq (sPar3 2 3 4 (gCons (gDef 1 F__law_span (gCons (gVar 0) gNil)) (gCons (gDef 1 F__law_span (gCons (gVar 0) gNil)) (gCons (gDef 2 F__law_take (gCons (gVar 0) (gCons (gC (.int 6)) gNil))) gNil))))
    (gSeq (sIf (gTr (gBin fEq (gVar 4) (gC (.int 0)))) (sAsg 3 (gVar 2)) gSkip)
    (gSeq (sIf (gTr (gBin fGt (gVar 4) (gC (.int 3)))) (gSeq (sPar 5 6 (gCons (gDef 2 F__law_near (gCons (gVar 0) (gCons (gVar 2) gNil))) (gCons (gDef 2 F__law_near (gCons (gVar 0) (gCons (gVar 2) gNil))) gNil)))
    (gSeq (sAsg 3 (gCall fTup (gCons (gVar 5) (gCons (gVar 6) gNil))))
    (sIf (gTr (gDef 2 F__law_below (gCons (gVar 6) (gCons (gVar 5) gNil)))) (sAsg 3 (gCall fTup (gCons (gVar 6) (gCons (gVar 5) gNil)))) gSkip))) gSkip)
    (gSeq (sIf (gTr (gBin fEq (gVar 4) (gC (.int 5)))) (sPar 2 3 (gCons (gVar 3) (gCons (gVar 2) gNil))) gSkip)
    (gSeq (sIf (gNot (gTr (gDef 2 F__law_pair_of_spans (gCons (gVar 2) (gCons (gVar 3) gNil))))) (sRet (gC (.bl false))) gSkip)
    (gSeq (sAsg 7 (gDef 1 F__law_quotient (gCons (gVar 0) gNil)))
    (gSeq (sAsg 8 (gLc true [9] (iSq (gVar 2)) (tgV 9) gYes (gCall fTup (gCons (gBin fMul (gBin fIx (gVar 9) (gC (.int 0))) (gBin fIx (gVar 7) (gC (.int 0)))) (gCons (gBin fMul (gBin fIx (gVar 9) (gC (.int 1))) (gBin fIx (gVar 7) (gC (.int 1)))) gNil)))))
    (gSeq (sIf (gNot (gTr (gDef 2 F__law_ends (gCons (gDef 3 F__law_ask_span (gCons (gC (.str "scaled_span")) (gCons (gVar 2) (gCons (gVar 7) gNil)))) (gCons (gVar 8) gNil))))) (sRet (gC (.bl false))) gSkip)
    (gSeq (sAsg 10 (gDef 2 F__law_near (gCons (gVar 0) (gCons (gVar 2) gNil))))
    (sIf (gNot (gTr (gDef 2 F__law_truth (gCons (gDef 3 F__law_ask_span (gCons (gC (.str "holds")) (gCons (gVar 2) (gCons (gVar 10) gNil)))) (gCons (gDef 2 F__law_held (gCons (gVar 2) (gCons (gVar 10) gNil))) gNil))))) (sRet (gC (.bl false))) gSkip))))))))))
def g__law_spans : GS := (gSeq (sFor (iOf iRange1 (gCons (gC (.int 4)) gNil)) (tgV 1) b__law_spans_1)
    (gSeq (sIf (gNot (gTr (gDef 2 F__law_same (gCons (gKw 2 2 [1, 0] F_scaled_span (gCons (gVar 7) (gCons (gVar 2) gNil))) (gCons (gDef 2 F_scaled_span (gCons (gVar 2) (gCons (gVar 7) gNil))) gNil))))) (sRet (gC (.bl false))) gSkip)
    (gSeq (sIf (gNot (gTr (gDef 2 F__law_truth (gCons (gKw 2 2 [1, 0] F_span_within (gCons (gVar 2) (gCons (gVar 3) gNil))) (gCons (gAndV (gDef 2 F__law_held (gCons (gVar 2) (gCons (gBin fIx (gVar 3) (gC (.int 0))) gNil))) (gDef 2 F__law_held (gCons (gVar 2) (gCons (gBin fIx (gVar 3) (gC (.int 1))) gNil)))) gNil))))) (sRet (gC (.bl false))) gSkip)
    (gSeq (sIf (gNot (gTr (gDef 2 F__law_truth (gCons (gKw 2 2 [1, 0] F_holds (gCons (gVar 10) (gCons (gVar 2) gNil))) (gCons (gDef 2 F__law_held (gCons (gVar 2) (gCons (gVar 10) gNil))) gNil))))) (sRet (gC (.bl false))) gSkip)
    (gSeq (sIf (gNot (gTr (gDef 2 F__law_truth (gCons (gKw 2 2 [1, 0] F_spans_apart (gCons (gVar 3) (gCons (gVar 2) gNil))) (gCons (gDef 2 F_spans_apart (gCons (gVar 2) (gCons (gVar 3) gNil))) gNil))))) (sRet (gC (.bl false))) gSkip)
    (gSeq (sIf (gNot (gTr (gDef 2 F__law_same (gCons (gKw 2 2 [1, 0] F_span_plus (gCons (gVar 3) (gCons (gVar 2) gNil))) (gCons (gDef 2 F_span_plus (gCons (gVar 2) (gCons (gVar 3) gNil))) gNil))))) (sRet (gC (.bl false))) gSkip)
    (gSeq (sIf (gNot (gTr (gDef 2 F__law_same (gCons (gKw 2 2 [1, 0] F_span_times (gCons (gVar 3) (gCons (gVar 2) gNil))) (gCons (gDef 2 F_span_times (gCons (gVar 2) (gCons (gVar 3) gNil))) gNil))))) (sRet (gC (.bl false))) gSkip)
    (sRet (gDef 2 F__law_same (gCons (gKw 2 2 [1, 0] F_span_minus (gCons (gVar 3) (gCons (gVar 2) gNil))) (gCons (gDef 2 F_span_minus (gCons (gVar 2) (gCons (gVar 3) gNil))) gNil)))))))))))
def F__law_spans : List D → S → R D := fnF N__law_spans g__law_spans
abbrev N__law_corners : List Str := ["_law_box", "_law_corners_here", "_law_side", "_law_longer", "_law_corner"]
def b__law_corners_1 : GS := (gSeq (sDrop (gApp (gVar 3) (gBin (fAdd false) (gVar 4) (gCall fTup (gCons (gBin fIx (gVar 2) (gC (.int 0))) gNil)))))
    (sIf (gTr (gBin fNe (gBin fIx (gVar 2) (gC (.int 0))) (gBin fIx (gVar 2) (gC (.int 1))))) (sDrop (gApp (gVar 3) (gBin (fAdd false) (gVar 4) (gCall fTup (gCons (gBin fIx (gVar 2) (gC (.int 1))) gNil))))) gSkip))
def b__law_corners_2 : GS := (gSeq (sAsg 3 (gCall (nl true) gNil))
    (gSeq (sForL (iLoc (gVar 1)) (tgV 4) b__law_corners_1)
    (sAsg 1 (gVar 3))))
def g__law_corners : GS := (gSeq (sAsg 1 (gCall (nl true) (gCons (gCall fTup gNil) gNil)))
    (gSeq (sFor (iSq (gVar 0)) (tgV 2) b__law_corners_2)
    (sRet (gVar 1))))
def F__law_corners : List D → S → R D := fnF N__law_corners g__law_corners
abbrev N__law_bad_spans : List Str := []
def g__law_bad_spans : GS := (sRet (gCall fTup (gCons (gC .non) (gCons (gCall fTup (gCons (gC (.int 0)) (gCons (gC (.int 1)) gNil))) (gCons (gCall fTup (gCons (gCall fTup (gCons (gC (.int 1)) (gCons (gC (.int 1)) gNil))) (gCons (gCall fTup (gCons (gC (.int 0)) (gCons (gC (.int 1)) gNil))) gNil))) (gCons (gCall (nl false) (gCons (gCall fTup (gCons (gC (.int 0)) (gCons (gC (.int 1)) gNil))) (gCons (gCall fTup (gCons (gC (.int 1)) (gCons (gC (.int 1)) gNil))) gNil))) (gCons (gCall fTup (gCons (gCall fTup (gCons (gC (.int 0)) (gCons (gC (.int 1)) gNil))) gNil)) (gCons (gCall fTup (gCons (gCall fTup (gCons (gC (.int 0)) (gCons (gC (.int 1)) gNil))) (gCons (gCall fTup (gCons (gC (.int 1)) (gCons (gC (.int 1)) gNil))) (gCons (gCall fTup (gCons (gC (.int 2)) (gCons (gC (.int 1)) gNil))) gNil)))) (gCons (gCall fTup (gCons (gCall fTup (gCons (gC (.int 0)) (gCons (gC (.int 1)) gNil))) (gCons (gCall fTup (gCons (gC (.int 2)) (gCons (gC (.int 2)) gNil))) gNil))) (gCons (gCall fTup (gCons (gCall fTup (gCons (gC (.int 0)) (gCons (gC (.int 1)) gNil))) (gCons (gC (.bl true)) gNil))) (gCons (gC (.str "0:1")) (gCons (gC (.int 3)) (gCons (gCall fTup gNil) (gCons (gCall fTup (gCons (gCall fTup (gCons (gC (.int 1)) (gCons (gUn fNeg (gC (.int 1))) gNil))) (gCons (gCall fTup (gCons (gC (.int 1)) (gCons (gC (.int 1)) gNil))) gNil))) (gCons (gCall fTup (gCons (gCall fTup (gCons (gC (.int 0)) (gCons (gC (.int 1)) gNil))) (gCons (gCall (nl false) (gCons (gC (.int 1)) (gCons (gC (.int 1)) gNil))) gNil))) (gCons (gCall fTup (gCons (gCall fTup (gCons (gUn fNeg (gC (.int 1))) (gCons (gC (.int 2)) gNil))) (gCons (gCall fTup (gCons (gUn fNeg (gC (.int 1))) (gCons (gC (.int 1)) gNil))) gNil))) gNil))))))))))))))))
def F__law_bad_spans : List D → S → R D := fnF N__law_bad_spans g__law_bad_spans
abbrev N__law_bad_boxes : List Str := ["_law_row_here", "_law_box", "_law_point", "_law_span_here", "_law_size", "_law_points", "_law_bad", "_law_none", "_law_places", "_law_place", "_law_spans_here"]
def g__law_bad_boxes : GS := (gSeq (sAsg 4 (gCall fLen (gCons (gVar 1) gNil)))
    (gSeq (sAsg 5 (gCall fTup (gCons (gC .non) (gCons (gCall (fList false) (gCons (gVar 2) gNil)) (gCons (gSl false (gVar 2) (goSome (gC (.int 1))) goNone) (gCons (gBin (fAdd false) (gVar 2) (gCall fTup (gCons (gCall fTup (gCons (gC (.int 0)) (gCons (gC (.int 1)) gNil))) gNil))) (gCons (gBin (fAdd false) (gSl false (gVar 2) (goSome (gC (.int 1))) goNone) (gCall fTup (gCons (gCall fTup (gCons (gC (.int 2)) (gCons (gC (.int 4)) gNil))) gNil))) (gCons (gBin (fAdd false) (gSl false (gVar 2) (goSome (gC (.int 1))) goNone) (gCall fTup (gCons (gC (.int 1)) gNil))) (gCons (gBin (fAdd false) (gCall fTup (gCons (gC (.bl true)) gNil)) (gSl false (gVar 2) (goSome (gC (.int 1))) goNone)) (gCons (gBin (fAdd false) (gSl false (gVar 2) (goSome (gC (.int 1))) goNone) (gCall fTup (gCons (gCall fTup (gCons (gCall fTup (gCons (gC (.int 0)) (gCons (gC (.int 1)) gNil))) (gCons (gCall fTup (gCons (gC (.int 0)) (gCons (gC (.int 1)) gNil))) gNil))) gNil))) (gCons (gC (.str "0")) (gCons (gC (.int 0)) (gCons (gBin (fAdd false) (gSl false (gVar 2) (goSome (gC (.int 1))) goNone) (gCall fTup (gCons (gCall fTup (gCons (gC (.int 1)) (gCons (gC (.int 0)) gNil))) gNil))) (gCons (gCall fTup (gCons (gVar 2) gNil)) gNil))))))))))))))
    (gSeq (sAsg 6 (gBin fIx (gVar 5) (gDef 2 F__law_take (gCons (gVar 0) (gCons (gCall fLen (gCons (gVar 5) gNil)) gNil)))))
    (gSeq (sIf (gNot (gTr (gDef 2 F__law_same (gCons (gDef 3 F__law_ask (gCons (gC (.str "in_box")) (gCons (gVar 1) (gCons (gVar 6) gNil)))) (gCons (gCall fTup (gCons (gC (.str "point")) (gCons (gUn fNeg (gC (.int 1))) (gCons (gC (.str "refused")) gNil)))) gNil))))) (sRet (gC (.bl false))) gSkip)
    (gSeq (sAsg 7 (gCall fTup (gCons (gCall fTup gNil) (gCons (gC .non) (gCons (gCall (nl false) (gCons (gCall fTup (gCons (gC (.int 0)) (gCons (gC (.int 1)) gNil))) gNil)) (gCons (gCall fTup (gCons (gC (.int 0)) (gCons (gC (.int 1)) gNil))) (gCons (gCall fTup (gCons (gCall fTup (gCons (gC (.int 0)) (gCons (gC (.int 1)) gNil))) (gCons (gCall fTup (gCons (gC (.int 3)) (gCons (gUn fNeg (gC (.int 1))) gNil))) gNil))) (gCons (gCall fTup (gCons (gCall fTup (gCons (gC (.int 0)) (gCons (gC (.int 1)) gNil))) (gCons (gC .non) gNil))) (gCons (gCall fTup (gCons (gC (.int 1)) gNil)) (gCons (gCall fTup (gCons (gCall fTup (gCons (gC (.bl true)) (gCons (gC (.int 1)) gNil))) gNil)) (gCons (gC (.str "1")) (gCons (gC (.int 5)) gNil))))))))))))
    (gSeq (sIf (gNot (gTr (gDef 2 F__law_same (gCons (gDef 3 F__law_ask (gCons (gC (.str "point_box")) (gCons (gBin fIx (gVar 7) (gDef 2 F__law_take (gCons (gVar 0) (gCons (gCall fLen (gCons (gVar 7) gNil)) gNil)))) (gCons (gC (.int 0)) gNil)))) (gCons (gCall fTup (gCons (gC (.str "point")) (gCons (gUn fNeg (gC (.int 1))) (gCons (gC (.str "refused")) gNil)))) gNil))))) (sRet (gC (.bl false))) gSkip)
    (gSeq (sAsg 8 (gCall fTup (gCons (gUn fNeg (gC (.int 1))) (gCons (gVar 4) (gCons (gC (.bl true)) (gCons (gC .non) (gCons (gC (.str "0")) (gCons (gCall fTup (gCons (gC (.int 0)) gNil)) (gCons (gC (.bl false)) (gCons (gBin (fAdd false) (gVar 4) (gC (.int 1))) gNil))))))))))
    (gSeq (sPar 9 10 (gCons (gBin fIx (gVar 8) (gDef 2 F__law_take (gCons (gVar 0) (gCons (gCall fLen (gCons (gVar 8) gNil)) gNil)))) (gCons (gDef0 F__law_bad_spans) gNil)))
    (gSeq (sAsg 6 (gBin fIx (gVar 10) (gDef 2 F__law_take (gCons (gVar 0) (gCons (gCall fLen (gCons (gVar 10) gNil)) gNil)))))
    (gSeq (sIf (gNot (gTr (gDef 2 F__law_same (gCons (gDef 3 F__law_ask_side (gCons (gVar 1) (gCons (gVar 9) (gCons (gVar 6) gNil)))) (gCons (gCall fTup (gCons (gC (.str "which")) (gCons (gUn fNeg (gC (.int 1))) (gCons (gC (.str "refused")) gNil)))) gNil))))) (sRet (gC (.bl false))) gSkip)
    (gSeq (sIf (gNot (gTr (gDef 2 F__law_same (gCons (gDef 3 F__law_ask_side (gCons (gVar 1) (gCons (gVar 9) (gCons (gVar 3) gNil)))) (gCons (gCall fTup (gCons (gC (.str "which")) (gCons (gUn fNeg (gC (.int 1))) (gCons (gC (.str "refused")) gNil)))) gNil))))) (sRet (gC (.bl false))) gSkip)
    (sRet (gDef 2 F__law_same (gCons (gDef 3 F__law_ask_side (gCons (gVar 1) (gCons (gBin fSub (gVar 4) (gC (.int 1))) (gCons (gVar 6) gNil)))) (gCons (gCall fTup (gCons (gC (.str "span")) (gCons (gUn fNeg (gC (.int 1))) (gCons (gC (.str "refused")) gNil)))) gNil)))))))))))))))
def F__law_bad_boxes : List D → S → R D := fnF N__law_bad_boxes g__law_bad_boxes
abbrev N__law_boxes : List Str := ["_law_row_here", "_law_size", "_law_box", "_law_which", "_law_due", "_law_wide", "_law_turn", "_law_point", "_law_side", "_law_inside", "_law_entry", "_law_span_here"]
def b__law_boxes_1 : GS := (gSeq (sAsg 7 (gCall fTuple (gCons (gLc false [8] (iSq (gVar 2)) (tgV 8) gYes (gDef 2 F__law_near (gCons (gVar 0) (gCons (gVar 8) gNil)))) gNil)))
    (gSeq (sAsg 9 (gBin fEq (gCall fLen (gCons (gLc false [3] (iOf iRange1 (gCons (gVar 1) gNil)) (tgV 3) (gNot (gTr (gDef 2 F__law_held (gCons (gBin fIx (gVar 2) (gVar 3)) (gCons (gBin fIx (gVar 7) (gVar 3)) gNil))))) (gVar 3)) gNil)) (gC (.int 0))))
    (gSeq (sIf (gNot (gTr (gDef 2 F__law_truth (gCons (gDef 3 F__law_ask (gCons (gC (.str "in_box")) (gCons (gVar 2) (gCons (gVar 7) gNil)))) (gCons (gVar 9) gNil))))) (sRet (gC (.bl false))) gSkip)
    (gSeq (sIf (gNot (gTr (gDef 2 F__law_same (gCons (gDef 3 F__law_ask (gCons (gC (.str "point_box")) (gCons (gVar 7) (gCons (gC (.int 0)) gNil)))) (gCons (gCall fTuple (gCons (gLc false [10] (iSq (gVar 7)) (tgV 10) gYes (gCall fTup (gCons (gVar 10) (gCons (gVar 10) gNil)))) gNil)) gNil))))) (sRet (gC (.bl false))) gSkip)
    (gSeq (sPar 3 11 (gCons (gDef 2 F__law_take (gCons (gVar 0) (gCons (gVar 1) gNil))) (gCons (gDef 1 F__law_span (gCons (gVar 0) gNil)) gNil)))
    (gSeq (sAsg 4 (gBin (fAdd false) (gBin (fAdd false) (gSl false (gVar 2) goNone (goSome (gVar 3))) (gCall fTup (gCons (gVar 11) gNil))) (gSl false (gVar 2) (goSome (gBin (fAdd false) (gVar 3) (gC (.int 1)))) goNone)))
    (sIf (gNot (gTr (gDef 2 F__law_same (gCons (gDef 3 F__law_ask_side (gCons (gVar 2) (gCons (gVar 3) (gCons (gVar 11) gNil)))) (gCons (gVar 4) gNil))))) (sRet (gC (.bl false))) gSkip)))))))
def g__law_boxes : GS := (gSeq (sAsg 1 (gBin (fAdd false) (gC (.int 1)) (gDef 2 F__law_take (gCons (gVar 0) (gCons (gC (.int 6)) gNil)))))
    (gSeq (sIf (gTr (gBin fEq (gDef 2 F__law_take (gCons (gVar 0) (gCons (gC (.int 12)) gNil))) (gC (.int 11)))) (sAsg 1 (gC (.int 8))) gSkip)
    (gSeq (sAsg 2 (gCall fTuple (gCons (gLc false [3] (iOf iRange1 (gCons (gVar 1) gNil)) (tgV 3) gYes (gDef 1 F__law_span (gCons (gVar 0) gNil))) gNil)))
    (gSeq (sAsg 4 (gCall fTuple (gCons (gDef 1 F__law_corners (gCons (gVar 2) gNil)) gNil)))
    (gSeq (sIf (gOr (gNot (gTr (gDef 2 F__law_same (gCons (gCall fTuple (gCons (gLstG false 1 F_corners_of (gCons (gVar 2) gNil)) gNil)) (gCons (gVar 4) gNil))))) (gNot (gTr (gDef 2 F__law_same (gCons (gCall fTuple (gCons (gLstGk false 1 1 [0] F_corners_of (gCons (gVar 2) gNil)) gNil)) (gCons (gVar 4) gNil)))))) (sRet (gC (.bl false))) gSkip)
    (gSeq (sAsg 5 (gCall fTuple (gCons (gLc false [3] (iOf iRange1 (gCons (gVar 1) gNil)) (tgV 3) (gTr (gBin fNe (gBin fIx (gBin fIx (gVar 2) (gVar 3)) (gC (.int 0))) (gBin fIx (gBin fIx (gVar 2) (gVar 3)) (gC (.int 1))))) (gVar 3)) gNil)))
    (gSeq (sIf (gNot (gTr (gDef 2 F__law_same (gCons (gDef 1 F_wide_sides (gCons (gVar 2) gNil)) (gCons (gVar 5) gNil))))) (sRet (gC (.bl false))) gSkip)
    (gSeq (sFor (iOf iRange1 (gCons (gC (.int 4)) gNil)) (tgV 6) b__law_boxes_1)
    (gSeq (sIf (gOr (gNot (gTr (gDef 2 F__law_same (gCons (gKw 3 3 [2, 1, 0] F_with_side (gCons (gVar 11) (gCons (gVar 3) (gCons (gVar 2) gNil)))) (gCons (gVar 4) gNil))))) (gNot (gTr (gDef 2 F__law_same (gCons (gKw 1 1 [0] F_wide_sides (gCons (gVar 2) gNil)) (gCons (gVar 5) gNil)))))) (sRet (gC (.bl false))) gSkip)
    (gSeq (sIf (gNot (gTr (gDef 2 F__law_same (gCons (gKw 1 1 [0] F_point_box (gCons (gVar 7) gNil)) (gCons (gCall fTuple (gCons (gLc false [10] (iSq (gVar 7)) (tgV 10) gYes (gCall fTup (gCons (gVar 10) (gCons (gVar 10) gNil)))) gNil)) gNil))))) (sRet (gC (.bl false))) gSkip)
    (sRet (gAndV (gDef 2 F__law_truth (gCons (gKw 2 2 [1, 0] F_in_box (gCons (gVar 7) (gCons (gVar 2) gNil))) (gCons (gVar 9) gNil))) (gDef 4 F__law_bad_boxes (gCons (gVar 0) (gCons (gVar 2) (gCons (gVar 7) (gCons (gVar 11) gNil)))))))))))))))))
def F__law_boxes : List D → S → R D := fnF N__law_boxes g__law_boxes
abbrev N__law_refused : List Str := ["_law_row_here", "_law_one", "_law_span_here", "_law_spans_here", "_law_quotients_here", "_law_bad", "_law_word", "_law_tops", "_law_bottoms", "_law_top", "_law_bottom"]
def b__law_refused_1 : GS := (sIf (gNot (gTr (gDef 2 F__law_same (gCons (gDef 3 F__law_ask (gCons (gVar 6) (gCons (gVar 1) (gCons (gVar 5) gNil)))) (gCons (gCall fTup (gCons (gC (.str "other")) (gCons (gUn fNeg (gC (.int 1))) (gCons (gC (.str "refused")) gNil)))) gNil))))) (sRet (gC (.bl false))) gSkip)
def b__law_refused_2 : GS := (sIf (gNot (gTr (gDef 2 F__law_same (gCons (gDef 3 F__law_ask_span (gCons (gVar 6) (gCons (gVar 2) (gCons (gVar 5) gNil)))) (gCons (gCall fTup (gCons (gC (.str "quotient")) (gCons (gUn fNeg (gC (.int 1))) (gCons (gC (.str "refused")) gNil)))) gNil))))) (sRet (gC (.bl false))) gSkip)
def b__law_refused_3 : GS := (sIf (gNot (gTr (gDef 2 F__law_same (gCons (gDef 3 F__law_ask_span (gCons (gVar 6) (gCons (gVar 2) (gCons (gVar 5) gNil)))) (gCons (gCall fTup (gCons (gC (.str "other")) (gCons (gUn fNeg (gC (.int 1))) (gCons (gC (.str "refused")) gNil)))) gNil))))) (sRet (gC (.bl false))) gSkip)
def g__law_refused : GS := (gSeq (sPar3 1 2 3 (gCons (gDef 1 F__law_quotient (gCons (gVar 0) gNil)) (gCons (gDef 1 F__law_span (gCons (gVar 0) gNil)) (gCons (gDef0 F__law_bad_spans) gNil))))
    (gSeq (sAsg 4 (gCall fTup (gCons (gC .non) (gCons (gC (.bl true)) (gCons (gC (.int 3)) (gCons (gC (.str "1/2")) (gCons (gCall (nl false) (gCons (gC (.int 1)) (gCons (gC (.int 2)) gNil))) (gCons (gCall fTup (gCons (gC (.int 1)) gNil)) (gCons (gCall fTup (gCons (gC (.int 1)) (gCons (gC (.int 2)) (gCons (gC (.int 3)) gNil)))) (gCons (gCall fTup (gCons (gC (.int 2)) (gCons (gC (.int 4)) gNil))) (gCons (gCall fTup (gCons (gC (.int 1)) (gCons (gC (.int 0)) gNil))) (gCons (gCall fTup (gCons (gC (.int 1)) (gCons (gUn fNeg (gC (.int 2))) gNil))) (gCons (gCall fTup (gCons (gC (.bl true)) (gCons (gC (.int 1)) gNil))) (gCons (gCall fTup (gCons (gC (.int 1)) (gCons (gC (.bl true)) gNil))) (gCons (gCall fTup (gCons (gC (.int 0)) (gCons (gC (.int 2)) gNil))) (gCons (gCall fTup (gCons (gC (.int 0)) (gCons (gUn fNeg (gC (.int 1))) gNil))) (gCons (gCall fTup gNil) (gCons (gCall fTup (gCons (gCall fTup (gCons (gC (.int 0)) (gCons (gC (.int 1)) gNil))) (gCons (gCall fTup (gCons (gC (.int 1)) (gCons (gC (.int 1)) gNil))) gNil))) (gCons (gC (.int 0)) (gCons (gCall fTup (gCons (gC (.int 0)) (gCons (gC (.int 0)) gNil))) gNil))))))))))))))))))))
    (gSeq (sAsg 5 (gBin fIx (gVar 4) (gDef 2 F__law_take (gCons (gVar 0) (gCons (gCall fLen (gCons (gVar 4) gNil)) gNil)))))
    (gSeq (sFor (iSq (gCall fTup (gCons (gC (.str "plus")) (gCons (gC (.str "minus")) (gCons (gC (.str "times")) (gCons (gC (.str "over")) (gCons (gC (.str "less")) gNil))))))) (tgV 6) b__law_refused_1)
    (gSeq (sIf (gNot (gTr (gDef 2 F__law_same (gCons (gDef 3 F__law_ask (gCons (gC (.str "over")) (gCons (gVar 1) (gCons (gCall fTup (gCons (gC (.int 0)) (gCons (gC (.int 1)) gNil))) gNil)))) (gCons (gCall fTup (gCons (gC (.str "other")) (gCons (gUn fNeg (gC (.int 1))) (gCons (gC (.str "refused")) gNil)))) gNil))))) (sRet (gC (.bl false))) gSkip)
    (gSeq (sFor (iSq (gCall fTup (gCons (gC (.str "scaled_span")) (gCons (gC (.str "holds")) gNil)))) (tgV 6) b__law_refused_2)
    (gSeq (sAsg 5 (gBin fIx (gVar 3) (gDef 2 F__law_take (gCons (gVar 0) (gCons (gCall fLen (gCons (gVar 3) gNil)) gNil)))))
    (gSeq (sFor (iSq (gCall fTup (gCons (gC (.str "span_plus")) (gCons (gC (.str "span_minus")) (gCons (gC (.str "span_times")) (gCons (gC (.str "span_within")) (gCons (gC (.str "spans_apart")) gNil))))))) (tgV 6) b__law_refused_3)
    (gSeq (sPar 7 8 (gCons (gCall fTup (gCons (gC .non) (gCons (gC (.bl true)) (gCons (gC (.str "1")) (gCons (gCall fTup (gCons (gC (.int 1)) (gCons (gC (.int 1)) gNil))) (gCons (gCall (nl false) (gCons (gC (.int 1)) gNil)) (gCons (gC (.bl false)) (gCons (gC (.str "")) gNil)))))))) (gCons (gCall fTup (gCons (gC (.int 0)) (gCons (gC .non) (gCons (gC (.bl true)) (gCons (gC (.str "2")) (gCons (gCall fTup (gCons (gC (.int 1)) (gCons (gC (.int 1)) gNil))) (gCons (gC (.bl false)) (gCons (gCall (nl false) gNil) gNil)))))))) gNil)))
    (gSeq (sPar 9 10 (gCons (gBin fIx (gVar 7) (gDef 2 F__law_take (gCons (gVar 0) (gCons (gCall fLen (gCons (gVar 7) gNil)) gNil)))) (gCons (gBin fIx (gVar 8) (gDef 2 F__law_take (gCons (gVar 0) (gCons (gCall fLen (gCons (gVar 8) gNil)) gNil)))) gNil)))
    (gSeq (sIf (gNot (gTr (gDef 2 F__law_same (gCons (gDef 3 F__law_ask (gCons (gC (.str "quotient_of")) (gCons (gVar 9) (gCons (gVar 10) gNil)))) (gCons (gCall fTup (gCons (gC (.str "top")) (gCons (gUn fNeg (gC (.int 1))) (gCons (gC (.str "refused")) gNil)))) gNil))))) (sRet (gC (.bl false))) gSkip)
    (gSeq (sIf (gNot (gTr (gDef 2 F__law_same (gCons (gDef 3 F__law_ask (gCons (gC (.str "quotient_of")) (gCons (gVar 9) (gCons (gBin fIx (gVar 1) (gC (.int 1))) gNil)))) (gCons (gCall fTup (gCons (gC (.str "top")) (gCons (gUn fNeg (gC (.int 1))) (gCons (gC (.str "refused")) gNil)))) gNil))))) (sRet (gC (.bl false))) gSkip)
    (sRet (gDef 2 F__law_same (gCons (gDef 3 F__law_ask (gCons (gC (.str "quotient_of")) (gCons (gBin fIx (gVar 1) (gC (.int 0))) (gCons (gVar 10) gNil)))) (gCons (gCall fTup (gCons (gC (.str "bottom")) (gCons (gUn fNeg (gC (.int 1))) (gCons (gC (.str "refused")) gNil)))) gNil))))))))))))))))
def F__law_refused : List D → S → R D := fnF N__law_refused g__law_refused
abbrev N_law : List Str := ["_law_script", "_law_row_here"]
def g_law : GS := (gSeq (sAsg 1 (gDef 1 F__law_row (gCons (gVar 0) gNil)))
    (gSeq (sIf (gOr (gNot (gTr (gDef 1 F__law_quotients (gCons (gVar 1) gNil)))) (gNot (gTr (gDef 1 F__law_spans (gCons (gVar 1) gNil))))) (sRet (gC (.bl false))) gSkip)
    (sRet (gAndV (gDef 1 F__law_boxes (gCons (gVar 1) gNil)) (gDef 1 F__law_refused (gCons (gVar 1) gNil))))))
def F_law : List D → S → R D := fnF N_law g_law
end K00
end Sv
set_option Elab.async false
set_option linter.all false
set_option maxRecDepth 100000
set_option maxHeartbeats 4000000
namespace Sv
open PySem PySem.Spec PyProof.Rows L2
namespace K00
/-- what the written part says -/
structure Txt (K : PySem.W.Frag) (mg : Str → Option Value) : Prop where
  b_abs : mg "abs" = none
  b_all : mg "all" = none
  b_bool : mg "bool" = none
  b_enumerate : mg "enumerate" = none
  b_gcd : mg "gcd" = some (.builtin "math.gcd")
  b_int : mg "int" = none
  b_isinstance : mg "isinstance" = none
  b_len : mg "len" = none
  b_list : mg "list" = none
  b_max : mg "max" = none
  b_range : mg "range" = none
  b_str : mg "str" = none
  b_tuple : mg "tuple" = none
  b_zip : mg "zip" = none
  c_NOUGHT : Con K mg "NOUGHT" (.tup [(.int 0), (.int 1)])
  d_is_integer : Dfn K mg "is_integer" (sd 6)
  d_is_number : Dfn K mg "is_number" (sd 7)
  d_is_pair : Dfn K mg "is_pair" (sd 8)
  d_is_quotient : Dfn K mg "is_quotient" (sd 9)
  d_is_span : Dfn K mg "is_span" (sd 10)
  d_is_input : Dfn K mg "is_input" (sd 11)
  d_is_point : Dfn K mg "is_point" (sd 12)
  d_reduced : Dfn K mg "reduced" (sd 15)
  d_added : Dfn K mg "added" (sd 16)
  d_negated : Dfn K mg "negated" (sd 17)
  d_taken_off : Dfn K mg "taken_off" (sd 18)
  d_multiplied : Dfn K mg "multiplied" (sd 19)
  d_divided : Dfn K mg "divided" (sd 20)
  d_is_less : Dfn K mg "is_less" (sd 21)
  d_span_over : Dfn K mg "span_over" (sd 22)
  d_ask : Dfn K mg "ask" (sd 24)
  d_ask_quotient : Dfn K mg "ask_quotient" (sd 25)
  d_ask_input : Dfn K mg "ask_input" (sd 26)
  d_ask_point : Dfn K mg "ask_point" (sd 27)
  d_quotient_of : Dfn K mg "quotient_of" (sd 29)
  d_plus : Dfn K mg "plus" (sd 30)
  d_minus : Dfn K mg "minus" (sd 31)
  d_times : Dfn K mg "times" (sd 32)
  d_over : Dfn K mg "over" (sd 33)
  d_less : Dfn K mg "less" (sd 34)
  d_span_plus : Dfn K mg "span_plus" (sd 36)
  d_span_minus : Dfn K mg "span_minus" (sd 37)
  d_span_times : Dfn K mg "span_times" (sd 38)
  d_scaled_span : Dfn K mg "scaled_span" (sd 39)
  d_holds : Dfn K mg "holds" (sd 40)
  d_span_within : Dfn K mg "span_within" (sd 41)
  d_spans_apart : Dfn K mg "spans_apart" (sd 42)
  d_wide_sides : Dfn K mg "wide_sides" (sd 45)
  d_corners_of : Dfn K mg "corners_of" (sd 44)
  d_in_box : Dfn K mg "in_box" (sd 46)
  d_side_put : Dfn K mg "side_put" (sd 48)
  d_with_side : Dfn K mg "with_side" (sd 47)
  d_point_box : Dfn K mg "point_box" (sd 49)
  d__law_row : Dfn K mg "_law_row" (sd 51)
  d__law_take : Dfn K mg "_law_take" (sd 52)
  d__law_common : Dfn K mg "_law_common" (sd 53)
  d__law_whole : Dfn K mg "_law_whole" (sd 54)
  d__law_lowest : Dfn K mg "_law_lowest" (sd 55)
  d__law_quotient : Dfn K mg "_law_quotient" (sd 56)
  d__law_below : Dfn K mg "_law_below" (sd 57)
  d__law_span : Dfn K mg "_law_span" (sd 58)
  d__law_integer : Dfn K mg "_law_integer" (sd 59)
  d__law_right_quotient : Dfn K mg "_law_right_quotient" (sd 60)
  d__law_right_span : Dfn K mg "_law_right_span" (sd 61)
  d__law_truth : Dfn K mg "_law_truth" (sd 62)
  d__law_ask : Dfn K mg "_law_ask" (sd 63)
  d__law_ask_span : Dfn K mg "_law_ask_span" (sd 64)
  d__law_ask_side : Dfn K mg "_law_ask_side" (sd 65)
  d__law_same : Dfn K mg "_law_same" (sd 66)
  d__law_is : Dfn K mg "_law_is" (sd 67)
  d__law_ends : Dfn K mg "_law_ends" (sd 68)
  d__law_quotients : Dfn K mg "_law_quotients" (sd 69)
  d__law_near : Dfn K mg "_law_near" (sd 70)
  d__law_held : Dfn K mg "_law_held" (sd 71)
  d__law_pair_of_spans : Dfn K mg "_law_pair_of_spans" (sd 72)
  d__law_spans : Dfn K mg "_law_spans" (sd 73)
  d__law_corners : Dfn K mg "_law_corners" (sd 74)
  d__law_bad_spans : Dfn K mg "_law_bad_spans" (sd 77)
  d__law_bad_boxes : Dfn K mg "_law_bad_boxes" (sd 76)
  d__law_boxes : Dfn K mg "_law_boxes" (sd 75)
  d__law_refused : Dfn K mg "_law_refused" (sd 78)
  d_law : Dfn K mg "law" (sd 79)
  e_NotUsable : ∃ (C fI : Addr) (fd : FuncData), XcC K mg "NotUsable" C fI ∧ Fun K "__init__" "NotUsable.__init__" (inClass (sd 4) 0) fI fd ∧ Binds K fd ["self", "word", "at"] [] ∧ PySem.W.findIn K (.ref C) "word" = some none ∧ PySem.W.findIn K (.ref C) "at" = some none
/-- .. and the tables of the defs that make generator expressions -/
structure TxtB (K : PySem.W.Frag) (mg : Str → Option Value) (base : Heap) : Prop extends Txt K mg where
  more : True
  t_wide_sides : TbX K mg base "wide_sides"
  t_point_box : TbX K mg base "point_box"
section
variable {P : Program} {w : World} {K : PySem.W.Frag} {mg : Str → Option Value} {base : Heap}
theorem ini_NotUsable {C fI : Addr} {fd : FuncData} (T : OexC K C) (n1 : PySem.W.findIn K (.ref C) "word" = some none) (n2 : PySem.W.findIn K (.ref C) "at" = some none) (F : Fun K "__init__" "NotUsable.__init__" (inClass (sd 4) 0) fI fd) :
    FnOk P w K mg base (L2.CX P w) 1 fI fd ["self", "word", "at"] (spIni C "word" "at") :=
  ini_ok (self := "self") (a := "word") (b := "at") rfl T n1 n2 F ⟨rfl, rfl, rfl, by decide, rfl, by decide +kernel, by decide +kernel⟩ rfl
theorem sc_is_integer : FnScope N_is_integer ["thing"] (defScope (sd 6)) := ⟨rfl, rfl, rfl, by decide, rfl, by decide +kernel, by decide +kernel⟩
theorem ok_is_integer (T : TxtB K mg base) : Pok P w K mg base 1 "is_integer" (sd 6) ["thing"] F_is_integer := by
  exact pok (N := N_is_integer) T.d_is_integer sc_is_integer (fun _ _ _ _ _ _ us hl => match us, hl with | [_], _ => rfl) fun f cdv A outer s H E hr =>
    have S := sc_is_integer
    (db_one (ds_ret (dandv (disi T.b_isinstance (da_cons (dv 0) (da_cons (dtyn T.b_int (by rfl)) da_nil))) (done1 (dnotv (disi T.b_isinstance (da_cons (dv 0) (da_cons (dtyn T.b_bool (by rfl)) da_nil))))))))
theorem sc_is_number : FnScope N_is_number ["thing"] (defScope (sd 7)) := ⟨rfl, rfl, rfl, by decide, rfl, by decide +kernel, by decide +kernel⟩
theorem ok_is_number (T : TxtB K mg base) : Pok P w K mg base 2 "is_number" (sd 7) ["thing"] F_is_number := by
  exact pok (N := N_is_number) T.d_is_number sc_is_number (fun _ _ _ _ _ _ us hl => match us, hl with | [_], _ => rfl) fun f cdv A outer s H E hr =>
    have S := sc_is_number
    (db_one (ds_ret (dandv (dcall tkF (ok_is_integer T) hr (da_cons (dv 0) da_nil)) (done1 (dge (dv 0) dint)))))
theorem sc_is_pair : FnScope N_is_pair ["thing"] (defScope (sd 8)) := ⟨rfl, rfl, rfl, by decide, rfl, by decide +kernel, by decide +kernel⟩
theorem ok_is_pair (T : TxtB K mg base) : Pok P w K mg base 1 "is_pair" (sd 8) ["thing"] F_is_pair := by
  exact pok (N := N_is_pair) T.d_is_pair sc_is_pair (fun _ _ _ _ _ _ us hl => match us, hl with | [_], _ => rfl) fun f cdv A outer s H E hr =>
    have S := sc_is_pair
    (db_one (ds_ret (dandv (disi T.b_isinstance (da_cons (dv 0) (da_cons (dtyn T.b_tuple (by rfl)) da_nil))) (done1 (deq (hu64 hr) (dlen T.b_len (da_cons (dv 0) da_nil)) dint)))))
theorem sc_is_quotient : FnScope N_is_quotient ["thing"] (defScope (sd 9)) := ⟨rfl, rfl, rfl, by decide, rfl, by decide +kernel, by decide +kernel⟩
theorem ok_is_quotient (T : TxtB K mg base) : Pok P w K mg base 2 "is_quotient" (sd 9) ["thing"] F_is_quotient := by
  exact pok (N := N_is_quotient) T.d_is_quotient sc_is_quotient (fun _ _ _ _ _ _ us hl => match us, hl with | [_], _ => rfl) fun f cdv A outer s H E hr =>
    have S := sc_is_quotient
    (db_cons (ds_if (dt_not (dt (dcall tkF (ok_is_pair T) hr (da_cons (dv 0) da_nil)))) (db_one (ds_ret dbl)) db_nil)
    (db_cons (ds_unp [1, 2] rfl (dv 0) (pgn_cons 1 S.nd (pgn_cons 2 S.nd pgn_nil)))
    (db_one (ds_ret (dandv (dcall tkF (ok_is_integer T) hr (da_cons (dv 1) da_nil)) (dandv (dcall tkF (ok_is_integer T) hr (da_cons (dv 2) da_nil)) (dandv (dge (dv 2) dint) (done1 (deq (hu64 hr) (dgcd T.b_gcd (da_cons (dv 1) (da_cons (dv 2) da_nil))) dint)))))))))
theorem sc_is_span : FnScope N_is_span ["thing"] (defScope (sd 10)) := ⟨rfl, rfl, rfl, by decide, rfl, by decide +kernel, by decide +kernel⟩
theorem ok_is_span (T : TxtB K mg base) : Pok P w K mg base 3 "is_span" (sd 10) ["thing"] F_is_span := by
  exact pok (N := N_is_span) T.d_is_span sc_is_span (fun _ _ _ _ _ _ us hl => match us, hl with | [_], _ => rfl) fun f cdv A outer s H E hr =>
    have S := sc_is_span
    (db_cons (ds_if (dt_not (dt (dcall tkF (ok_is_pair T) hr (da_cons (dv 0) da_nil)))) (db_one (ds_ret dbl)) db_nil)
    (db_cons (ds_unp [1, 2] rfl (dv 0) (pgn_cons 1 S.nd (pgn_cons 2 S.nd pgn_nil)))
    (db_one (ds_ret (dandv (dcall tkF (ok_is_quotient T) hr (da_cons (dv 1) da_nil)) (dandv (dcall tkF (ok_is_quotient T) hr (da_cons (dv 2) da_nil)) (done1 (dle (dmul (dix (dv 1) dint) (dix (dv 2) dint)) (dmul (dix (dv 2) dint) (dix (dv 1) dint))))))))))
theorem sc_is_input : FnScope N_is_input ["size", "thing"] (defScope (sd 11)) := ⟨rfl, rfl, rfl, by decide, rfl, by decide +kernel, by decide +kernel⟩
theorem ok_is_input (T : TxtB K mg base) : Pok P w K mg base 3 "is_input" (sd 11) ["size", "thing"] F_is_input := by
  exact pok (N := N_is_input) T.d_is_input sc_is_input (fun _ _ _ _ _ _ us hl => match us, hl with | [_, _], _ => rfl) fun f cdv A outer s H E hr =>
    have S := sc_is_input
    (db_one (ds_ret (dandv (dcall tkF (ok_is_number T) hr (da_cons (dv 1) da_nil)) (done1 (dlt (dv 1) (dv 0))))))
theorem sc_is_point : FnScope N_is_point ["size", "thing"] (defScope (sd 12)) := ⟨rfl, rfl, rfl, by decide, rfl, by decide +kernel, by decide +kernel⟩
theorem ok_is_point (T : TxtB K mg base) : Pok P w K mg base 3 "is_point" (sd 12) ["size", "thing"] F_is_point := by
  exact pok (N := N_is_point) T.d_is_point sc_is_point (fun _ _ _ _ _ _ us hl => match us, hl with | [_, _], _ => rfl) fun f cdv A outer s H E hr =>
    have S := sc_is_point
    (db_one (ds_ret (dandv (disi T.b_isinstance (da_cons (dv 1) (da_cons (dtyn T.b_tuple (by rfl)) da_nil))) (dandv (deq (hu64 hr) (dlen T.b_len (da_cons (dv 1) da_nil)) (dv 0)) (done1 (dall rfl T.b_all (da_cons (dlc false [("entry", 2)] rfl S.nd (di_seq (dv 1)) (blkOk_by (own := [("entry", 2)]) (N := N_is_point) (sc := defScope (sd 12)) (by decide +kernel)) (tgV_b (i := 2) (by decide)) (fun _ _ _ _ _ => (pg_name (i := 2) S.nd rfl (by first | exact Or.inl rfl | exact Or.inr rfl))) (fun _ _ _ _ _ => dts_nil) (fun _ _ _ _ _ => (dcall takes0 (ok_is_quotient T) hr (da_cons (dv 2) da_nil)))) da_nil)))))))
theorem sc_reduced : FnScope N_reduced ["top", "bottom"] (defScope (sd 15)) := ⟨rfl, rfl, rfl, by decide, rfl, by decide +kernel, by decide +kernel⟩
theorem ok_reduced (T : TxtB K mg base) : Pok P w K mg base 1 "reduced" (sd 15) ["top", "bottom"] F_reduced := by
  exact pok (N := N_reduced) T.d_reduced sc_reduced (fun _ _ _ _ _ _ us hl => match us, hl with | [_, _], _ => rfl) fun f cdv A outer s H E hr =>
    have S := sc_reduced
    (db_cons (ds_asg 2 S.nd (dgcd T.b_gcd (da_cons (dv 0) (da_cons (dv 1) da_nil))))
    (db_cons (ds_if (tlt (dv 1) dint) (db_one (ds_asg 2 S.nd (dneg (dv 2)))) db_nil)
    (db_one (ds_ret (dtup (da_cons (ddiv (dv 0) (dv 2)) (da_cons (ddiv (dv 1) (dv 2)) da_nil)))))))
theorem sc_added : FnScope N_added ["one", "other"] (defScope (sd 16)) := ⟨rfl, rfl, rfl, by decide, rfl, by decide +kernel, by decide +kernel⟩
theorem ok_added (T : TxtB K mg base) : Pok P w K mg base 2 "added" (sd 16) ["one", "other"] F_added := by
  exact pok (N := N_added) T.d_added sc_added (fun _ _ _ _ _ _ us hl => match us, hl with | [_, _], _ => rfl) fun f cdv A outer s H E hr =>
    have S := sc_added
    (db_cons (ds_if (dt_w (dw_and (teq (hu64 hr) (dix (dv 0) dint) dint) (dw_and1 (teq (hu64 hr) (dix (dv 1) dint) dint)))) (db_one (ds_ret (dtup (da_cons (dadd (c := false) (dix (dv 0) dint) (dix (dv 1) dint)) (da_cons dint da_nil))))) db_nil)
    (db_one (ds_ret (dcall tkF (ok_reduced T) hr (da_cons (dadd (c := false) (dmul (dix (dv 0) dint) (dix (dv 1) dint)) (dmul (dix (dv 1) dint) (dix (dv 0) dint))) (da_cons (dmul (dix (dv 0) dint) (dix (dv 1) dint)) da_nil))))))
theorem sc_negated : FnScope N_negated ["quotient"] (defScope (sd 17)) := ⟨rfl, rfl, rfl, by decide, rfl, by decide +kernel, by decide +kernel⟩
theorem ok_negated (T : TxtB K mg base) : Pok P w K mg base 1 "negated" (sd 17) ["quotient"] F_negated := by
  exact pok (N := N_negated) T.d_negated sc_negated (fun _ _ _ _ _ _ us hl => match us, hl with | [_], _ => rfl) fun f cdv A outer s H E hr =>
    have S := sc_negated
    (db_one (ds_ret (dtup (da_cons (dneg (dix (dv 0) dint)) (da_cons (dix (dv 0) dint) da_nil)))))
theorem sc_taken_off : FnScope N_taken_off ["one", "other"] (defScope (sd 18)) := ⟨rfl, rfl, rfl, by decide, rfl, by decide +kernel, by decide +kernel⟩
theorem ok_taken_off (T : TxtB K mg base) : Pok P w K mg base 3 "taken_off" (sd 18) ["one", "other"] F_taken_off := by
  exact pok (N := N_taken_off) T.d_taken_off sc_taken_off (fun _ _ _ _ _ _ us hl => match us, hl with | [_, _], _ => rfl) fun f cdv A outer s H E hr =>
    have S := sc_taken_off
    (db_one (ds_ret (dcall tkF (ok_added T) hr (da_cons (dv 0) (da_cons (dcall tkF (ok_negated T) hr (da_cons (dv 1) da_nil)) da_nil)))))
theorem sc_multiplied : FnScope N_multiplied ["one", "other"] (defScope (sd 19)) := ⟨rfl, rfl, rfl, by decide, rfl, by decide +kernel, by decide +kernel⟩
theorem ok_multiplied (T : TxtB K mg base) : Pok P w K mg base 2 "multiplied" (sd 19) ["one", "other"] F_multiplied := by
  exact pok (N := N_multiplied) T.d_multiplied sc_multiplied (fun _ _ _ _ _ _ us hl => match us, hl with | [_, _], _ => rfl) fun f cdv A outer s H E hr =>
    have S := sc_multiplied
    (db_cons (ds_if (dt_w (dw_and (teq (hu64 hr) (dix (dv 0) dint) dint) (dw_and1 (teq (hu64 hr) (dix (dv 1) dint) dint)))) (db_one (ds_ret (dtup (da_cons (dmul (dix (dv 0) dint) (dix (dv 1) dint)) (da_cons dint da_nil))))) db_nil)
    (db_one (ds_ret (dcall tkF (ok_reduced T) hr (da_cons (dmul (dix (dv 0) dint) (dix (dv 1) dint)) (da_cons (dmul (dix (dv 0) dint) (dix (dv 1) dint)) da_nil))))))
theorem sc_divided : FnScope N_divided ["one", "other"] (defScope (sd 20)) := ⟨rfl, rfl, rfl, by decide, rfl, by decide +kernel, by decide +kernel⟩
theorem ok_divided (T : TxtB K mg base) : Pok P w K mg base 2 "divided" (sd 20) ["one", "other"] F_divided := by
  exact pok (N := N_divided) T.d_divided sc_divided (fun _ _ _ _ _ _ us hl => match us, hl with | [_, _], _ => rfl) fun f cdv A outer s H E hr =>
    have S := sc_divided
    (db_one (ds_ret (dcall tkF (ok_reduced T) hr (da_cons (dmul (dix (dv 0) dint) (dix (dv 1) dint)) (da_cons (dmul (dix (dv 0) dint) (dix (dv 1) dint)) da_nil)))))
theorem sc_is_less : FnScope N_is_less ["one", "other"] (defScope (sd 21)) := ⟨rfl, rfl, rfl, by decide, rfl, by decide +kernel, by decide +kernel⟩
theorem ok_is_less (T : TxtB K mg base) : Pok P w K mg base 1 "is_less" (sd 21) ["one", "other"] F_is_less := by
  exact pok (N := N_is_less) T.d_is_less sc_is_less (fun _ _ _ _ _ _ us hl => match us, hl with | [_, _], _ => rfl) fun f cdv A outer s H E hr =>
    have S := sc_is_less
    (db_one (ds_ret (dlt (dmul (dix (dv 0) dint) (dix (dv 1) dint)) (dmul (dix (dv 1) dint) (dix (dv 0) dint)))))
theorem sc_span_over : FnScope N_span_over ["quotients"] (defScope (sd 22)) := ⟨rfl, rfl, rfl, by decide, rfl, by decide +kernel, by decide +kernel⟩
theorem ok_span_over (T : TxtB K mg base) : Pok P w K mg base 2 "span_over" (sd 22) ["quotients"] F_span_over := by
  exact pok (N := N_span_over) T.d_span_over sc_span_over (fun _ _ _ _ _ _ us hl => match us, hl with | [_], _ => rfl) fun f cdv A outer s H E hr =>
    have S := sc_span_over
    (db_cons (ds_asg2 1 2 S.nd (dix (dv 0) dint))
    (db_cons (ds_for ppF rfl (di_seq (dv 0)) (pg_name (i := 3) S.nd rfl (by first | exact Or.inl rfl | exact Or.inr rfl)) tgV_ok (db_cons (ds_if (dt (dcall tkF (ok_is_less T) hr (da_cons (dv 3) (da_cons (dv 1) da_nil)))) (db_one (ds_asg 1 S.nd (dv 3))) db_nil)
    (db_one (ds_if (dt (dcall tkF (ok_is_less T) hr (da_cons (dv 2) (da_cons (dv 3) da_nil)))) (db_one (ds_asg 2 S.nd (dv 3))) db_nil))))
    (db_one (ds_ret (dtup (da_cons (dv 1) (da_cons (dv 2) da_nil)))))))
theorem sc_ask : FnScope N_ask ["right", "name"] (defScope (sd 24)) := ⟨rfl, rfl, rfl, by decide, rfl, by decide +kernel, by decide +kernel⟩
theorem ok_ask (T : TxtB K mg base) : Pok P w K mg base 3 "ask" (sd 24) ["right", "name"] F_ask := by
  obtain ⟨C_NotUsable, fI_NotUsable, fd_NotUsable, x_NotUsable, i_NotUsable, b_NotUsable, n1_NotUsable, n2_NotUsable⟩ := T.e_NotUsable
  exact pok (N := N_ask) T.d_ask sc_ask (fun _ _ _ _ _ _ us hl => match us, hl with | [_, _], _ => rfl) fun f cdv A outer s H E hr =>
    have S := sc_ask
    (db_one (ds_if (dt_not (dt (dv 0))) (db_one (ds_raise2 rfl tkF x_NotUsable (ini_NotUsable x_NotUsable.ox n1_NotUsable n2_NotUsable i_NotUsable) hr b_NotUsable (da_cons (dv 1) (da_cons (dneg dint) da_nil)))) db_nil))
theorem sc_ask_quotient : FnScope N_ask_quotient ["quotient"] (defScope (sd 25)) := ⟨rfl, rfl, rfl, by decide, rfl, by decide +kernel, by decide +kernel⟩
theorem ok_ask_quotient (T : TxtB K mg base) : Pok P w K mg base 4 "ask_quotient" (sd 25) ["quotient"] F_ask_quotient := by
  exact pok (N := N_ask_quotient) T.d_ask_quotient sc_ask_quotient (fun _ _ _ _ _ _ us hl => match us, hl with | [_], _ => rfl) fun f cdv A outer s H E hr =>
    have S := sc_ask_quotient
    (db_one (ds_expr (dcall tkF (ok_ask T) hr (da_cons (dcall tkF (ok_is_quotient T) hr (da_cons (dv 0) da_nil)) (da_cons dstr da_nil)))))
theorem sc_ask_input : FnScope N_ask_input ["size", "which"] (defScope (sd 26)) := ⟨rfl, rfl, rfl, by decide, rfl, by decide +kernel, by decide +kernel⟩
theorem ok_ask_input (T : TxtB K mg base) : Pok P w K mg base 4 "ask_input" (sd 26) ["size", "which"] F_ask_input := by
  exact pok (N := N_ask_input) T.d_ask_input sc_ask_input (fun _ _ _ _ _ _ us hl => match us, hl with | [_, _], _ => rfl) fun f cdv A outer s H E hr =>
    have S := sc_ask_input
    (db_one (ds_expr (dcall tkF (ok_ask T) hr (da_cons (dcall tkF (ok_is_input T) hr (da_cons (dv 0) (da_cons (dv 1) da_nil))) (da_cons dstr da_nil)))))
theorem sc_ask_point : FnScope N_ask_point ["size", "point"] (defScope (sd 27)) := ⟨rfl, rfl, rfl, by decide, rfl, by decide +kernel, by decide +kernel⟩
theorem ok_ask_point (T : TxtB K mg base) : Pok P w K mg base 4 "ask_point" (sd 27) ["size", "point"] F_ask_point := by
  exact pok (N := N_ask_point) T.d_ask_point sc_ask_point (fun _ _ _ _ _ _ us hl => match us, hl with | [_, _], _ => rfl) fun f cdv A outer s H E hr =>
    have S := sc_ask_point
    (db_one (ds_expr (dcall tkF (ok_ask T) hr (da_cons (dcall tkF (ok_is_point T) hr (da_cons (dv 0) (da_cons (dv 1) da_nil))) (da_cons dstr da_nil)))))
theorem sc_quotient_of : FnScope N_quotient_of ["top", "bottom"] (defScope (sd 29)) := ⟨rfl, rfl, rfl, by decide, rfl, by decide +kernel, by decide +kernel⟩
theorem ok_quotient_of (T : TxtB K mg base) : Pok P w K mg base 4 "quotient_of" (sd 29) ["top", "bottom"] F_quotient_of := by
  exact pok (N := N_quotient_of) T.d_quotient_of sc_quotient_of (fun _ _ _ _ _ _ us hl => match us, hl with | [_, _], _ => rfl) fun f cdv A outer s H E hr =>
    have S := sc_quotient_of
    (db_cons (ds_expr (dcall tkF (ok_ask T) hr (da_cons (dcall tkF (ok_is_integer T) hr (da_cons (dv 0) da_nil)) (da_cons dstr da_nil))))
    (db_cons (ds_expr (dcall tkF (ok_ask T) hr (da_cons (dandv (dcall tkF (ok_is_integer T) hr (da_cons (dv 1) da_nil)) (done1 (dne (hu64 hr) (dv 1) dint))) (da_cons dstr da_nil))))
    (db_one (ds_ret (dcall tkF (ok_reduced T) hr (da_cons (dv 0) (da_cons (dv 1) da_nil)))))))
theorem sc_plus : FnScope N_plus ["one", "other"] (defScope (sd 30)) := ⟨rfl, rfl, rfl, by decide, rfl, by decide +kernel, by decide +kernel⟩
theorem ok_plus (T : TxtB K mg base) : Pok P w K mg base 4 "plus" (sd 30) ["one", "other"] F_plus := by
  exact pok (N := N_plus) T.d_plus sc_plus (fun _ _ _ _ _ _ us hl => match us, hl with | [_, _], _ => rfl) fun f cdv A outer s H E hr =>
    have S := sc_plus
    (db_cons (ds_expr (dcall tkF (ok_ask T) hr (da_cons (dcall tkF (ok_is_quotient T) hr (da_cons (dv 1) da_nil)) (da_cons dstr da_nil))))
    (db_one (ds_ret (dcall tkF (ok_added T) hr (da_cons (dv 0) (da_cons (dv 1) da_nil))))))
theorem sc_minus : FnScope N_minus ["one", "other"] (defScope (sd 31)) := ⟨rfl, rfl, rfl, by decide, rfl, by decide +kernel, by decide +kernel⟩
theorem ok_minus (T : TxtB K mg base) : Pok P w K mg base 4 "minus" (sd 31) ["one", "other"] F_minus := by
  exact pok (N := N_minus) T.d_minus sc_minus (fun _ _ _ _ _ _ us hl => match us, hl with | [_, _], _ => rfl) fun f cdv A outer s H E hr =>
    have S := sc_minus
    (db_cons (ds_expr (dcall tkF (ok_ask T) hr (da_cons (dcall tkF (ok_is_quotient T) hr (da_cons (dv 1) da_nil)) (da_cons dstr da_nil))))
    (db_one (ds_ret (dcall tkF (ok_taken_off T) hr (da_cons (dv 0) (da_cons (dv 1) da_nil))))))
theorem sc_times : FnScope N_times ["one", "other"] (defScope (sd 32)) := ⟨rfl, rfl, rfl, by decide, rfl, by decide +kernel, by decide +kernel⟩
theorem ok_times (T : TxtB K mg base) : Pok P w K mg base 4 "times" (sd 32) ["one", "other"] F_times := by
  exact pok (N := N_times) T.d_times sc_times (fun _ _ _ _ _ _ us hl => match us, hl with | [_, _], _ => rfl) fun f cdv A outer s H E hr =>
    have S := sc_times
    (db_cons (ds_expr (dcall tkF (ok_ask T) hr (da_cons (dcall tkF (ok_is_quotient T) hr (da_cons (dv 1) da_nil)) (da_cons dstr da_nil))))
    (db_one (ds_ret (dcall tkF (ok_multiplied T) hr (da_cons (dv 0) (da_cons (dv 1) da_nil))))))
theorem sc_over : FnScope N_over ["one", "other"] (defScope (sd 33)) := ⟨rfl, rfl, rfl, by decide, rfl, by decide +kernel, by decide +kernel⟩
theorem ok_over (T : TxtB K mg base) : Pok P w K mg base 4 "over" (sd 33) ["one", "other"] F_over := by
  exact pok (N := N_over) T.d_over sc_over (fun _ _ _ _ _ _ us hl => match us, hl with | [_, _], _ => rfl) fun f cdv A outer s H E hr =>
    have S := sc_over
    (db_cons (ds_expr (dcall tkF (ok_ask T) hr (da_cons (dandv (dcall tkF (ok_is_quotient T) hr (da_cons (dv 1) da_nil)) (done1 (dne (hu64 hr) (dv 1) (dcon T.c_NOUGHT)))) (da_cons dstr da_nil))))
    (db_one (ds_ret (dcall tkF (ok_divided T) hr (da_cons (dv 0) (da_cons (dv 1) da_nil))))))
theorem sc_less : FnScope N_less ["one", "other"] (defScope (sd 34)) := ⟨rfl, rfl, rfl, by decide, rfl, by decide +kernel, by decide +kernel⟩
theorem ok_less (T : TxtB K mg base) : Pok P w K mg base 4 "less" (sd 34) ["one", "other"] F_less := by
  exact pok (N := N_less) T.d_less sc_less (fun _ _ _ _ _ _ us hl => match us, hl with | [_, _], _ => rfl) fun f cdv A outer s H E hr =>
    have S := sc_less
    (db_cons (ds_expr (dcall tkF (ok_ask T) hr (da_cons (dcall tkF (ok_is_quotient T) hr (da_cons (dv 1) da_nil)) (da_cons dstr da_nil))))
    (db_one (ds_ret (dcall tkF (ok_is_less T) hr (da_cons (dv 0) (da_cons (dv 1) da_nil))))))
theorem sc_span_plus : FnScope N_span_plus ["one", "other"] (defScope (sd 36)) := ⟨rfl, rfl, rfl, by decide, rfl, by decide +kernel, by decide +kernel⟩
theorem ok_span_plus (T : TxtB K mg base) : Pok P w K mg base 4 "span_plus" (sd 36) ["one", "other"] F_span_plus := by
  exact pok (N := N_span_plus) T.d_span_plus sc_span_plus (fun _ _ _ _ _ _ us hl => match us, hl with | [_, _], _ => rfl) fun f cdv A outer s H E hr =>
    have S := sc_span_plus
    (db_cons (ds_expr (dcall tkF (ok_ask T) hr (da_cons (dcall tkF (ok_is_span T) hr (da_cons (dv 1) da_nil)) (da_cons dstr da_nil))))
    (db_one (ds_ret (dtup (da_cons (dcall tkF (ok_added T) hr (da_cons (dix (dv 0) dint) (da_cons (dix (dv 1) dint) da_nil))) (da_cons (dcall tkF (ok_added T) hr (da_cons (dix (dv 0) dint) (da_cons (dix (dv 1) dint) da_nil))) da_nil))))))
theorem sc_span_minus : FnScope N_span_minus ["one", "other"] (defScope (sd 37)) := ⟨rfl, rfl, rfl, by decide, rfl, by decide +kernel, by decide +kernel⟩
theorem ok_span_minus (T : TxtB K mg base) : Pok P w K mg base 4 "span_minus" (sd 37) ["one", "other"] F_span_minus := by
  exact pok (N := N_span_minus) T.d_span_minus sc_span_minus (fun _ _ _ _ _ _ us hl => match us, hl with | [_, _], _ => rfl) fun f cdv A outer s H E hr =>
    have S := sc_span_minus
    (db_cons (ds_expr (dcall tkF (ok_ask T) hr (da_cons (dcall tkF (ok_is_span T) hr (da_cons (dv 1) da_nil)) (da_cons dstr da_nil))))
    (db_one (ds_ret (dtup (da_cons (dcall tkF (ok_taken_off T) hr (da_cons (dix (dv 0) dint) (da_cons (dix (dv 1) dint) da_nil))) (da_cons (dcall tkF (ok_taken_off T) hr (da_cons (dix (dv 0) dint) (da_cons (dix (dv 1) dint) da_nil))) da_nil))))))
theorem sc_span_times : FnScope N_span_times ["one", "other"] (defScope (sd 38)) := ⟨rfl, rfl, rfl, by decide, rfl, by decide +kernel, by decide +kernel⟩
theorem ok_span_times (T : TxtB K mg base) : Pok P w K mg base 4 "span_times" (sd 38) ["one", "other"] F_span_times := by
  exact pok (N := N_span_times) T.d_span_times sc_span_times (fun _ _ _ _ _ _ us hl => match us, hl with | [_, _], _ => rfl) fun f cdv A outer s H E hr =>
    have S := sc_span_times
    (db_cons (ds_expr (dcall tkF (ok_ask T) hr (da_cons (dcall tkF (ok_is_span T) hr (da_cons (dv 1) da_nil)) (da_cons dstr da_nil))))
    (db_one (ds_ret (dcall tkF (ok_span_over T) hr (da_cons (dlc2 false [("end", 2), ("far", 3)] [3] rfl S.nd (di_seq (dv 0)) (blkOk_by (own := [("end", 2), ("far", 3)]) (N := N_span_times) (sc := defScope (sd 38)) (by decide +kernel)) (by decide) (tgV_b (i := 2) (by decide)) (tgV_b (i := 3) (by decide)) (fun _ _ _ _ _ => (pg_name (i := 2) S.nd rfl (by first | exact Or.inl rfl | exact Or.inr rfl))) (fun _ _ _ _ _ => dts_nil) (fun _ _ _ _ _ => (di_seq (dv 1))) (fun _ _ _ _ _ => (pg_name (i := 3) S.nd rfl (by first | exact Or.inl rfl | exact Or.inr rfl))) (fun _ _ _ _ _ => dts_nil) (fun _ _ _ _ _ => (dcall takes0 (ok_multiplied T) hr (da_cons (dv 2) (da_cons (dv 3) da_nil))))) da_nil)))))
theorem sc_scaled_span : FnScope N_scaled_span ["span", "quotient"] (defScope (sd 39)) := ⟨rfl, rfl, rfl, by decide, rfl, by decide +kernel, by decide +kernel⟩
theorem ok_scaled_span (T : TxtB K mg base) : Pok P w K mg base 5 "scaled_span" (sd 39) ["span", "quotient"] F_scaled_span := by
  exact pok (N := N_scaled_span) T.d_scaled_span sc_scaled_span (fun _ _ _ _ _ _ us hl => match us, hl with | [_, _], _ => rfl) fun f cdv A outer s H E hr =>
    have S := sc_scaled_span
    (db_cons (ds_expr (dcall tkF (ok_ask_quotient T) hr (da_cons (dv 1) da_nil)))
    (db_one (ds_ret (dcall tkF (ok_span_over T) hr (da_cons (dlc false [("end", 2)] rfl S.nd (di_seq (dv 0)) (blkOk_by (own := [("end", 2)]) (N := N_scaled_span) (sc := defScope (sd 39)) (by decide +kernel)) (tgV_b (i := 2) (by decide)) (fun _ _ _ _ _ => (pg_name (i := 2) S.nd rfl (by first | exact Or.inl rfl | exact Or.inr rfl))) (fun _ _ _ _ _ => dts_nil) (fun _ _ _ _ _ => (dcall takes0 (ok_multiplied T) hr (da_cons (dv 2) (da_cons (dv 1) da_nil))))) da_nil)))))
theorem sc_holds : FnScope N_holds ["span", "quotient"] (defScope (sd 40)) := ⟨rfl, rfl, rfl, by decide, rfl, by decide +kernel, by decide +kernel⟩
theorem ok_holds (T : TxtB K mg base) : Pok P w K mg base 5 "holds" (sd 40) ["span", "quotient"] F_holds := by
  exact pok (N := N_holds) T.d_holds sc_holds (fun _ _ _ _ _ _ us hl => match us, hl with | [_, _], _ => rfl) fun f cdv A outer s H E hr =>
    have S := sc_holds
    (db_cons (ds_expr (dcall tkF (ok_ask_quotient T) hr (da_cons (dv 1) da_nil)))
    (db_one (ds_ret (dandv (dnotv (dcall tkF (ok_is_less T) hr (da_cons (dv 1) (da_cons (dix (dv 0) dint) da_nil)))) (done1 (dnotv (dcall tkF (ok_is_less T) hr (da_cons (dix (dv 0) dint) (da_cons (dv 1) da_nil)))))))))
theorem sc_span_within : FnScope N_span_within ["span", "other"] (defScope (sd 41)) := ⟨rfl, rfl, rfl, by decide, rfl, by decide +kernel, by decide +kernel⟩
theorem ok_span_within (T : TxtB K mg base) : Pok P w K mg base 6 "span_within" (sd 41) ["span", "other"] F_span_within := by
  exact pok (N := N_span_within) T.d_span_within sc_span_within (fun _ _ _ _ _ _ us hl => match us, hl with | [_, _], _ => rfl) fun f cdv A outer s H E hr =>
    have S := sc_span_within
    (db_cons (ds_expr (dcall tkF (ok_ask T) hr (da_cons (dcall tkF (ok_is_span T) hr (da_cons (dv 1) da_nil)) (da_cons dstr da_nil))))
    (db_one (ds_ret (dandv (dcall tkF (ok_holds T) hr (da_cons (dv 1) (da_cons (dix (dv 0) dint) da_nil))) (done1 (dcall tkF (ok_holds T) hr (da_cons (dv 1) (da_cons (dix (dv 0) dint) da_nil))))))))
theorem sc_spans_apart : FnScope N_spans_apart ["one", "other"] (defScope (sd 42)) := ⟨rfl, rfl, rfl, by decide, rfl, by decide +kernel, by decide +kernel⟩
theorem ok_spans_apart (T : TxtB K mg base) : Pok P w K mg base 4 "spans_apart" (sd 42) ["one", "other"] F_spans_apart := by
  exact pok (N := N_spans_apart) T.d_spans_apart sc_spans_apart (fun _ _ _ _ _ _ us hl => match us, hl with | [_, _], _ => rfl) fun f cdv A outer s H E hr =>
    have S := sc_spans_apart
    (db_cons (ds_expr (dcall tkF (ok_ask T) hr (da_cons (dcall tkF (ok_is_span T) hr (da_cons (dv 1) da_nil)) (da_cons dstr da_nil))))
    (db_one (ds_ret (dorv (dcall tkF (ok_is_less T) hr (da_cons (dix (dv 0) dint) (da_cons (dix (dv 1) dint) da_nil))) (done1 (dcall tkF (ok_is_less T) hr (da_cons (dix (dv 1) dint) (da_cons (dix (dv 0) dint) da_nil))))))))
theorem sc_wide_sides : FnScope N_wide_sides ["box"] (defScope (sd 45)) := ⟨rfl, rfl, rfl, by decide, rfl, by decide +kernel, by decide +kernel⟩
theorem ok_wide_sides (T : TxtB K mg base) : Pok P w K mg base 6 "wide_sides" (sd 45) ["box"] F_wide_sides := by
  exact pokt (N := N_wide_sides) T.d_wide_sides T.t_wide_sides sc_wide_sides (fun _ _ _ _ _ _ us hl => match us, hl with | [_], _ => rfl) fun f c Pt A outer s H E TBc ndP hr =>
    have S := sc_wide_sides
    (db_one (ds_ret (dtupGe 0 [("k", 1)] T.b_tuple rfl S.nd TBc ndP rfl hr (di_range1 T.b_range (da_cons (dlen T.b_len (da_cons (dv 0) da_nil)) da_nil)) (blkOk_by (own := [("k", 1)]) (N := N_wide_sides) (sc := defScope (sd 45)) (by decide +kernel)) (tgV_b (i := 1) (by decide)) (fun _ _ _ _ _ _ _ _ hr => (pg_name (i := 1) S.nd rfl (by first | exact Or.inl rfl | exact Or.inr rfl))) (fun _ _ _ _ _ _ _ _ hr => (dts_one (tne (hu64 hr) (dix (dix (dv 0) (dv 1)) dint) (dix (dix (dv 0) (dv 1)) dint)))) (fun _ _ _ _ _ _ _ _ hr => (dv 1)))))
theorem sc_corners_of : GScope N_corners_of ["box"] (defScope (sd 44)) := ⟨rfl, rfl, rfl, by decide, rfl, by decide +kernel, by decide +kernel⟩
theorem ok_corners_of (T : TxtB K mg base) : Pgk P w K mg base 7 "corners_of" (sd 44) ["box"] F_corners_of :=
  pgk (N := N_corners_of) T.d_corners_of sc_corners_of (fun _ _ _ _ _ _ us hl => match us, hl with | [_], _ => rfl) fun f cdv A outer s H E pn hr =>
    have S := sc_corners_of
    (dg_cons (dg_plain (W := WF E) (ds_asg 1 S.nd (dcall tkG (ok_wide_sides T) hr (da_cons (dv 0) da_nil))))
    (dg_cons (dg_for (W := WF E) ppG rfl (di_range1 T.b_range (da_cons (dshl dint (dlen T.b_len (da_cons (dv 1) da_nil))) da_nil)) (pg_name (i := 2) S.nd rfl (by first | exact Or.inl rfl | exact Or.inr rfl)) tgV_ok (dg_cons (dg_plain (W := WF E) (ds_asglc true 3 [("side", 4)] rfl S.nd (di_seq (dv 0)) (blkOk_by (own := [("side", 4)]) (N := N_corners_of) (sc := defScope (sd 44)) (by decide +kernel)) (tgV_b (i := 4) (by decide)) (fun _ _ _ _ _ => (pg_name (i := 4) S.nd rfl (by first | exact Or.inl rfl | exact Or.inr rfl))) (fun _ _ _ _ _ => dts_nil) (fun _ _ _ _ _ => (dix (dv 4) dint))))
    (dg_cons (dg_plain (W := WF E) (ds_for ppG rfl (di_range1 T.b_range (da_cons (dlen T.b_len (da_cons (dv 1) da_nil)) da_nil)) (pg_name (i := 5) S.nd rfl (by first | exact Or.inl rfl | exact Or.inr rfl)) tgV_ok (db_one (ds_set (dix (dix (dv 0) (dix (dv 1) (dv 5))) (dand (dshr (dv 2) (dsub (dsub (dlen T.b_len (da_cons (dv 1) da_nil)) dint) (dv 5))) dint)) (dv 3) (dix (dv 1) (dv 5))))))
    (dg_cons (dg_yield (W := WF E) (dtuple T.b_tuple (da_cons (dv 3) da_nil)))
    dg_nil))))
    dg_nil))
theorem sc_in_box : FnScope N_in_box ["box", "point"] (defScope (sd 46)) := ⟨rfl, rfl, rfl, by decide, rfl, by decide +kernel, by decide +kernel⟩
theorem ok_in_box (T : TxtB K mg base) : Pok P w K mg base 6 "in_box" (sd 46) ["box", "point"] F_in_box := by
  exact pok (N := N_in_box) T.d_in_box sc_in_box (fun _ _ _ _ _ _ us hl => match us, hl with | [_, _], _ => rfl) fun f cdv A outer s H E hr =>
    have S := sc_in_box
    (db_cons (ds_expr (dcall tkF (ok_ask_point T) hr (da_cons (dlen T.b_len (da_cons (dv 0) da_nil)) (da_cons (dv 1) da_nil))))
    (db_one (ds_ret (dall rfl T.b_all (da_cons (dlc false [("k", 2)] rfl S.nd (di_range1 T.b_range (da_cons (dlen T.b_len (da_cons (dv 0) da_nil)) da_nil)) (blkOk_by (own := [("k", 2)]) (N := N_in_box) (sc := defScope (sd 46)) (by decide +kernel)) (tgV_b (i := 2) (by decide)) (fun _ _ _ _ _ => (pg_name (i := 2) S.nd rfl (by first | exact Or.inl rfl | exact Or.inr rfl))) (fun _ _ _ _ _ => dts_nil) (fun _ _ _ _ _ => (dcall takes0 (ok_holds T) hr (da_cons (dix (dv 0) (dv 2)) (da_cons (dix (dv 1) (dv 2)) da_nil))))) da_nil)))))
theorem sc_side_put : FnScope N_side_put ["box", "which", "span"] (defScope (sd 48)) := ⟨rfl, rfl, rfl, by decide, rfl, by decide +kernel, by decide +kernel⟩
theorem ok_side_put (T : TxtB K mg base) : Pok P w K mg base 1 "side_put" (sd 48) ["box", "which", "span"] F_side_put := by
  exact pok (N := N_side_put) T.d_side_put sc_side_put (fun _ _ _ _ _ _ us hl => match us, hl with | [_, _, _], _ => rfl) fun f cdv A outer s H E hr =>
    have S := sc_side_put
    (db_one (ds_ret (dadd (c := false) (dadd (c := false) (dsl (c := false) (dv 0) do_none (do_some (dv 1))) (dtup (da_cons (dv 2) da_nil))) (dsl (c := false) (dv 0) (do_some (dadd (c := false) (dv 1) dint)) do_none))))
theorem sc_with_side : FnScope N_with_side ["box", "which", "span"] (defScope (sd 47)) := ⟨rfl, rfl, rfl, by decide, rfl, by decide +kernel, by decide +kernel⟩
theorem ok_with_side (T : TxtB K mg base) : Pok P w K mg base 5 "with_side" (sd 47) ["box", "which", "span"] F_with_side := by
  exact pok (N := N_with_side) T.d_with_side sc_with_side (fun _ _ _ _ _ _ us hl => match us, hl with | [_, _, _], _ => rfl) fun f cdv A outer s H E hr =>
    have S := sc_with_side
    (db_cons (ds_expr (dcall tkF (ok_ask_input T) hr (da_cons (dlen T.b_len (da_cons (dv 0) da_nil)) (da_cons (dv 1) da_nil))))
    (db_cons (ds_expr (dcall tkF (ok_ask T) hr (da_cons (dcall tkF (ok_is_span T) hr (da_cons (dv 2) da_nil)) (da_cons dstr da_nil))))
    (db_one (ds_ret (dcall tkF (ok_side_put T) hr (da_cons (dv 0) (da_cons (dv 1) (da_cons (dv 2) da_nil))))))))
theorem sc_point_box : FnScope N_point_box ["point"] (defScope (sd 49)) := ⟨rfl, rfl, rfl, by decide, rfl, by decide +kernel, by decide +kernel⟩
theorem ok_point_box (T : TxtB K mg base) : Pok P w K mg base 6 "point_box" (sd 49) ["point"] F_point_box := by
  exact pokt (N := N_point_box) T.d_point_box T.t_point_box sc_point_box (fun _ _ _ _ _ _ us hl => match us, hl with | [_], _ => rfl) fun f c Pt A outer s H E TBc ndP hr =>
    have S := sc_point_box
    (db_cons (ds_expr (dcall tkF (ok_ask T) hr (da_cons (dandv (disi T.b_isinstance (da_cons (dv 0) (da_cons (dtyn T.b_tuple (by rfl)) da_nil))) (dandv (dge (dlen T.b_len (da_cons (dv 0) da_nil)) dint) (done1 (dcall tkF (ok_is_point T) hr (da_cons (dlen T.b_len (da_cons (dv 0) da_nil)) (da_cons (dv 0) da_nil)))))) (da_cons dstr da_nil))))
    (db_one (ds_ret (dtupGe 0 [("entry", 1)] T.b_tuple rfl S.nd TBc ndP rfl hr (di_seq (dv 0)) (blkOk_by (own := [("entry", 1)]) (N := N_point_box) (sc := defScope (sd 49)) (by decide +kernel)) (tgV_b (i := 1) (by decide)) (fun _ _ _ _ _ _ _ _ hr => (pg_name (i := 1) S.nd rfl (by first | exact Or.inl rfl | exact Or.inr rfl))) (fun _ _ _ _ _ _ _ _ hr => dts_nil) (fun _ _ _ _ _ _ _ _ hr => (dtup (da_cons (dv 1) (da_cons (dv 1) da_nil))))))))
theorem sc__law_row : FnScope N__law_row ["_law_script"] (defScope (sd 51)) := ⟨rfl, rfl, rfl, by decide, rfl, by decide +kernel, by decide +kernel⟩
theorem ok__law_row (T : TxtB K mg base) : Pok P w K mg base 1 "_law_row" (sd 51) ["_law_script"] F__law_row := by
  exact pok (N := N__law_row) T.d__law_row sc__law_row (fun _ _ _ _ _ _ us hl => match us, hl with | [_], _ => rfl) fun f cdv A outer s H E hr =>
    have S := sc__law_row
    (db_cons (ds_asg 1 S.nd (dlst (c := true) da_nil))
    (db_cons (ds_for ppF rfl (di_seq (dv 0)) (pg_name (i := 2) S.nd rfl (by first | exact Or.inl rfl | exact Or.inr rfl)) tgV_ok (db_cons (ds_asg 3 S.nd (dabs T.b_abs (da_cons (dv 2) da_nil)))
    (db_one (ds_if (tge (dv 3) dint) (db_one (ds_for ppF rfl (di_range1 T.b_range (da_cons dint da_nil)) (pg_name (i := 4) S.nd rfl (by first | exact Or.inl rfl | exact Or.inr rfl)) tgV_ok (db_one (ds_if (tgt (dv 3) dint) (db_cons (ds_expr (dapp (dv 1) (dmod (dintc T.b_int (da_cons (dv 3) da_nil)) dint)))
    (db_one (ds_asg 3 S.nd (ddiv (dv 3) dint)))) db_nil)))) db_nil))))
    (db_cons (ds_if (dt (dv 0)) (db_cons (ds_asg 5 S.nd dint)
    (db_cons (ds_for ppF rfl (di_enum T.b_enumerate (da_cons (dv 0) da_nil)) (pg_tup rfl (pgn_cons 6 S.nd (pgn_cons 2 S.nd pgn_nil))) (tgT_ok (is := [6, 2])) (db_one (ds_asg 5 S.nd (dmod (dintc T.b_int (da_cons (dadd (c := false) (dadd (c := false) (dadd (c := false) (dmul (dv 5) dint) (dmul (dv 2) dint)) (dmul (dv 6) dint)) dint) da_nil)) dint))))
    (db_one (ds_for ppF rfl (di_range1 T.b_range (da_cons dint da_nil)) (pg_name (i := 6) S.nd rfl (by first | exact Or.inl rfl | exact Or.inr rfl)) tgV_ok (db_cons (ds_asg 5 S.nd (dmod (dintc T.b_int (da_cons (dadd (c := false) (dadd (c := false) (dadd (c := false) (dmul (dv 5) (dv 5)) (dmul (dv 5) dint)) (dmul (dv 6) dint)) dint) da_nil)) dint))
    (db_one (ds_expr (dapp (dv 1) (ddiv (dv 5) dint))))))))) db_nil)
    (db_one (ds_ret (drevL (c := true) (dv 1)))))))
theorem sc__law_take : FnScope N__law_take ["_law_row_here", "_law_many"] (defScope (sd 52)) := ⟨rfl, rfl, rfl, by decide, rfl, by decide +kernel, by decide +kernel⟩
theorem ok__law_take (T : TxtB K mg base) : Pok P w K mg base 1 "_law_take" (sd 52) ["_law_row_here", "_law_many"] F__law_take := by
  exact pok (N := N__law_take) T.d__law_take sc__law_take (fun _ _ _ _ _ _ us hl => match us, hl with | [_, _], _ => rfl) fun f cdv A outer s H E hr =>
    have S := sc__law_take
    (db_cons (ds_if (dt_not (dt (dv 0))) (db_one (ds_ret dint)) db_nil)
    (db_one (ds_ret (dmod (dintc T.b_int (da_cons (dpop (dv 0)) da_nil)) (dv 1)))))
theorem sc__law_common : FnScope N__law_common ["_law_one", "_law_other"] (defScope (sd 53)) := ⟨rfl, rfl, rfl, by decide, rfl, by decide +kernel, by decide +kernel⟩
theorem ok__law_common (T : TxtB K mg base) : Pok P w K mg base 1 "_law_common" (sd 53) ["_law_one", "_law_other"] F__law_common := by
  exact pok (N := N__law_common) T.d__law_common sc__law_common (fun _ _ _ _ _ _ us hl => match us, hl with | [_, _], _ => rfl) fun f cdv A outer s H E hr =>
    have S := sc__law_common
    (db_cons (ds_par 2 3 rfl S.nd (da_cons (dabs T.b_abs (da_cons (dv 0) da_nil)) (da_cons (dabs T.b_abs (da_cons (dv 1) da_nil)) da_nil)))
    (db_cons (ds_for ppF rfl (di_range1 T.b_range (da_cons (dadd (c := false) (dmul dint (dbits (dmax2 rfl T.b_max (da_cons (dv 2) (da_cons (dv 3) da_nil))))) dint) da_nil)) (pg_name (i := 4) S.nd rfl (by first | exact Or.inl rfl | exact Or.inr rfl)) tgV_ok (db_cons (ds_if (teq (hu64 hr) (dv 3) dint) (db_one (ds_ret (dv 2))) db_nil)
    (db_one (ds_par 2 3 rfl S.nd (da_cons (dv 3) (da_cons (dmod (dintc T.b_int (da_cons (dv 2) da_nil)) (dv 3)) da_nil))))))
    (db_one (ds_ret (dv 2)))))
theorem sc__law_whole : FnScope N__law_whole ["_law_row_here"] (defScope (sd 54)) := ⟨rfl, rfl, rfl, by decide, rfl, by decide +kernel, by decide +kernel⟩
theorem ok__law_whole (T : TxtB K mg base) : Pok P w K mg base 2 "_law_whole" (sd 54) ["_law_row_here"] F__law_whole := by
  exact pok (N := N__law_whole) T.d__law_whole sc__law_whole (fun _ _ _ _ _ _ us hl => match us, hl with | [_], _ => rfl) fun f cdv A outer s H E hr =>
    have S := sc__law_whole
    (db_cons (ds_asg 1 S.nd (dcall tkF (ok__law_take T) hr (da_cons (dv 0) (da_cons dint da_nil))))
    (db_cons (ds_asg 2 S.nd (dsub dint (dmul dint (dcall tkF (ok__law_take T) hr (da_cons (dv 0) (da_cons dint da_nil))))))
    (db_cons (ds_if (tlt (dv 1) dint) (db_one (ds_ret (dmul (dv 2) (dcall tkF (ok__law_take T) hr (da_cons (dv 0) (da_cons dint da_nil)))))) db_nil)
    (db_cons (ds_if (teq (hu64 hr) (dv 1) dint) (db_one (ds_ret (dmul (dv 2) (dcall tkF (ok__law_take T) hr (da_cons (dv 0) (da_cons dint da_nil)))))) db_nil)
    (db_cons (ds_asg 3 S.nd (dmul (dcall tkF (ok__law_take T) hr (da_cons (dv 0) (da_cons dint da_nil))) dint))
    (db_cons (ds_asg 3 S.nd (dadd (c := false) (dv 3) (dmul (dcall tkF (ok__law_take T) hr (da_cons (dv 0) (da_cons dint da_nil))) dint)))
    (db_one (ds_ret (dmul (dv 2) (dadd (c := false) (dadd (c := false) (dv 3) (dcall tkF (ok__law_take T) hr (da_cons (dv 0) (da_cons dint da_nil)))) dint))))))))))
theorem sc__law_lowest : FnScope N__law_lowest ["_law_top", "_law_bottom"] (defScope (sd 55)) := ⟨rfl, rfl, rfl, by decide, rfl, by decide +kernel, by decide +kernel⟩
theorem ok__law_lowest (T : TxtB K mg base) : Pok P w K mg base 2 "_law_lowest" (sd 55) ["_law_top", "_law_bottom"] F__law_lowest := by
  exact pok (N := N__law_lowest) T.d__law_lowest sc__law_lowest (fun _ _ _ _ _ _ us hl => match us, hl with | [_, _], _ => rfl) fun f cdv A outer s H E hr =>
    have S := sc__law_lowest
    (db_cons (ds_asg 2 S.nd (dcall tkF (ok__law_common T) hr (da_cons (dv 0) (da_cons (dv 1) da_nil))))
    (db_one (ds_ret (dtup (da_cons (ddiv (dv 0) (dv 2)) (da_cons (ddiv (dv 1) (dv 2)) da_nil))))))
theorem sc__law_quotient : FnScope N__law_quotient ["_law_row_here"] (defScope (sd 56)) := ⟨rfl, rfl, rfl, by decide, rfl, by decide +kernel, by decide +kernel⟩
theorem ok__law_quotient (T : TxtB K mg base) : Pok P w K mg base 3 "_law_quotient" (sd 56) ["_law_row_here"] F__law_quotient := by
  exact pok (N := N__law_quotient) T.d__law_quotient sc__law_quotient (fun _ _ _ _ _ _ us hl => match us, hl with | [_], _ => rfl) fun f cdv A outer s H E hr =>
    have S := sc__law_quotient
    (db_cons (ds_asg 1 S.nd (dcall tkF (ok__law_whole T) hr (da_cons (dv 0) da_nil)))
    (db_cons (ds_asg 2 S.nd (dabs T.b_abs (da_cons (dcall tkF (ok__law_whole T) hr (da_cons (dv 0) da_nil)) da_nil)))
    (db_cons (ds_if (teq (hu64 hr) (dv 2) dint) (db_one (ds_asg 2 S.nd dint)) db_nil)
    (db_one (ds_ret (dcall tkF (ok__law_lowest T) hr (da_cons (dv 1) (da_cons (dv 2) da_nil))))))))
theorem sc__law_below : FnScope N__law_below ["_law_one", "_law_other"] (defScope (sd 57)) := ⟨rfl, rfl, rfl, by decide, rfl, by decide +kernel, by decide +kernel⟩
theorem ok__law_below (T : TxtB K mg base) : Pok P w K mg base 1 "_law_below" (sd 57) ["_law_one", "_law_other"] F__law_below := by
  exact pok (N := N__law_below) T.d__law_below sc__law_below (fun _ _ _ _ _ _ us hl => match us, hl with | [_, _], _ => rfl) fun f cdv A outer s H E hr =>
    have S := sc__law_below
    (db_one (ds_ret (dlt (dmul (dix (dv 0) dint) (dix (dv 1) dint)) (dmul (dix (dv 1) dint) (dix (dv 0) dint)))))
theorem sc__law_span : FnScope N__law_span ["_law_row_here"] (defScope (sd 58)) := ⟨rfl, rfl, rfl, by decide, rfl, by decide +kernel, by decide +kernel⟩
theorem ok__law_span (T : TxtB K mg base) : Pok P w K mg base 4 "_law_span" (sd 58) ["_law_row_here"] F__law_span := by
  exact pok (N := N__law_span) T.d__law_span sc__law_span (fun _ _ _ _ _ _ us hl => match us, hl with | [_], _ => rfl) fun f cdv A outer s H E hr =>
    have S := sc__law_span
    (db_cons (ds_asg 1 S.nd (dcall tkF (ok__law_quotient T) hr (da_cons (dv 0) da_nil)))
    (db_cons (ds_asg 2 S.nd (dcall tkF (ok__law_quotient T) hr (da_cons (dv 0) da_nil)))
    (db_cons (ds_if (teq (hu64 hr) (dcall tkF (ok__law_take T) hr (da_cons (dv 0) (da_cons dint da_nil))) dint) (db_one (ds_ret (dtup (da_cons (dv 1) (da_cons (dv 1) da_nil))))) db_nil)
    (db_cons (ds_if (dt (dcall tkF (ok__law_below T) hr (da_cons (dv 2) (da_cons (dv 1) da_nil)))) (db_one (ds_ret (dtup (da_cons (dv 2) (da_cons (dv 1) da_nil))))) db_nil)
    (db_one (ds_ret (dtup (da_cons (dv 1) (da_cons (dv 2) da_nil)))))))))
theorem sc__law_integer : FnScope N__law_integer ["_law_thing"] (defScope (sd 59)) := ⟨rfl, rfl, rfl, by decide, rfl, by decide +kernel, by decide +kernel⟩
theorem ok__law_integer (T : TxtB K mg base) : Pok P w K mg base 1 "_law_integer" (sd 59) ["_law_thing"] F__law_integer := by
  exact pok (N := N__law_integer) T.d__law_integer sc__law_integer (fun _ _ _ _ _ _ us hl => match us, hl with | [_], _ => rfl) fun f cdv A outer s H E hr =>
    have S := sc__law_integer
    (db_one (ds_ret (dandv (disi T.b_isinstance (da_cons (dv 0) (da_cons (dtyn T.b_int (by rfl)) da_nil))) (done1 (dnotv (disi T.b_isinstance (da_cons (dv 0) (da_cons (dtyn T.b_bool (by rfl)) da_nil))))))))
theorem sc__law_right_quotient : FnScope N__law_right_quotient ["_law_thing"] (defScope (sd 60)) := ⟨rfl, rfl, rfl, by decide, rfl, by decide +kernel, by decide +kernel⟩
theorem ok__law_right_quotient (T : TxtB K mg base) : Pok P w K mg base 2 "_law_right_quotient" (sd 60) ["_law_thing"] F__law_right_quotient := by
  exact pok (N := N__law_right_quotient) T.d__law_right_quotient sc__law_right_quotient (fun _ _ _ _ _ _ us hl => match us, hl with | [_], _ => rfl) fun f cdv A outer s H E hr =>
    have S := sc__law_right_quotient
    (db_cons (ds_if (dt_w (dw_or (dt_not (dt (disi T.b_isinstance (da_cons (dv 0) (da_cons (dtyn T.b_tuple (by rfl)) da_nil))))) (dw_or1 (tne (hu64 hr) (dlen T.b_len (da_cons (dv 0) da_nil)) dint)))) (db_one (ds_ret dbl)) db_nil)
    (db_cons (ds_if (dt_w (dw_or (dt_not (dt (dcall tkF (ok__law_integer T) hr (da_cons (dix (dv 0) dint) da_nil)))) (dw_or1 (dt_not (dt (dcall tkF (ok__law_integer T) hr (da_cons (dix (dv 0) dint) da_nil))))))) (db_one (ds_ret dbl)) db_nil)
    (db_one (ds_ret (dandv (dge (dix (dv 0) dint) dint) (done1 (deq (hu64 hr) (dcall tkF (ok__law_common T) hr (da_cons (dix (dv 0) dint) (da_cons (dix (dv 0) dint) da_nil))) dint)))))))
theorem sc__law_right_span : FnScope N__law_right_span ["_law_thing"] (defScope (sd 61)) := ⟨rfl, rfl, rfl, by decide, rfl, by decide +kernel, by decide +kernel⟩
theorem ok__law_right_span (T : TxtB K mg base) : Pok P w K mg base 3 "_law_right_span" (sd 61) ["_law_thing"] F__law_right_span := by
  exact pok (N := N__law_right_span) T.d__law_right_span sc__law_right_span (fun _ _ _ _ _ _ us hl => match us, hl with | [_], _ => rfl) fun f cdv A outer s H E hr =>
    have S := sc__law_right_span
    (db_cons (ds_if (dt_w (dw_or (dt_not (dt (disi T.b_isinstance (da_cons (dv 0) (da_cons (dtyn T.b_tuple (by rfl)) da_nil))))) (dw_or1 (tne (hu64 hr) (dlen T.b_len (da_cons (dv 0) da_nil)) dint)))) (db_one (ds_ret dbl)) db_nil)
    (db_cons (ds_if (dt_w (dw_or (dt_not (dt (dcall tkF (ok__law_right_quotient T) hr (da_cons (dix (dv 0) dint) da_nil)))) (dw_or1 (dt_not (dt (dcall tkF (ok__law_right_quotient T) hr (da_cons (dix (dv 0) dint) da_nil))))))) (db_one (ds_ret dbl)) db_nil)
    (db_one (ds_ret (dnotv (dcall tkF (ok__law_below T) hr (da_cons (dix (dv 0) dint) (da_cons (dix (dv 0) dint) da_nil))))))))
theorem sc__law_truth : FnScope N__law_truth ["_law_told", "_law_due"] (defScope (sd 62)) := ⟨rfl, rfl, rfl, by decide, rfl, by decide +kernel, by decide +kernel⟩
theorem ok__law_truth (T : TxtB K mg base) : Pok P w K mg base 1 "_law_truth" (sd 62) ["_law_told", "_law_due"] F__law_truth := by
  exact pok (N := N__law_truth) T.d__law_truth sc__law_truth (fun _ _ _ _ _ _ us hl => match us, hl with | [_, _], _ => rfl) fun f cdv A outer s H E hr =>
    have S := sc__law_truth
    (db_cons (ds_if (dt (dv 1)) (db_one (ds_ret (dis (dv 0) dbl))) db_nil)
    (db_one (ds_ret (dis (dv 0) dbl))))
theorem sc__law_ask : FnScope N__law_ask ["_law_word", "_law_one", "_law_other"] (defScope (sd 63)) := ⟨rfl, rfl, rfl, by decide, rfl, by decide +kernel, by decide +kernel⟩
theorem ok__law_ask (T : TxtB K mg base) : Pok P w K mg base 7 "_law_ask" (sd 63) ["_law_word", "_law_one", "_law_other"] F__law_ask := by
  obtain ⟨C_NotUsable, fI_NotUsable, fd_NotUsable, x_NotUsable, i_NotUsable, b_NotUsable, n1_NotUsable, n2_NotUsable⟩ := T.e_NotUsable
  exact pok (N := N__law_ask) T.d__law_ask sc__law_ask (fun _ _ _ _ _ _ us hl => match us, hl with | [_, _, _], _ => rfl) fun f cdv A outer s H E hr =>
    have S := sc__law_ask
    (db_one (ds_try 3 rfl rfl S.nd x_NotUsable (fun W pn xe tk hp => (db_cons (ds_if (teq (hu64 hr) (dv 0) dstr) (db_one (ds_ret (dcall tk (ok_plus T) hr (da_cons (dv 1) (da_cons (dv 2) da_nil))))) db_nil)
    (db_cons (ds_if (teq (hu64 hr) (dv 0) dstr) (db_one (ds_ret (dcall tk (ok_minus T) hr (da_cons (dv 1) (da_cons (dv 2) da_nil))))) db_nil)
    (db_cons (ds_if (teq (hu64 hr) (dv 0) dstr) (db_one (ds_ret (dcall tk (ok_times T) hr (da_cons (dv 1) (da_cons (dv 2) da_nil))))) db_nil)
    (db_cons (ds_if (teq (hu64 hr) (dv 0) dstr) (db_one (ds_ret (dcall tk (ok_over T) hr (da_cons (dv 1) (da_cons (dv 2) da_nil))))) db_nil)
    (db_cons (ds_if (teq (hu64 hr) (dv 0) dstr) (db_one (ds_ret (dcall tk (ok_less T) hr (da_cons (dv 1) (da_cons (dv 2) da_nil))))) db_nil)
    (db_cons (ds_if (teq (hu64 hr) (dv 0) dstr) (db_one (ds_ret (dcall tk (ok_quotient_of T) hr (da_cons (dv 1) (da_cons (dv 2) da_nil))))) db_nil)
    (db_cons (ds_if (teq (hu64 hr) (dv 0) dstr) (db_one (ds_ret (dcall tk (ok_point_box T) hr (da_cons (dv 1) da_nil)))) db_nil)
    (db_one (ds_ret (dcall tk (ok_in_box T) hr (da_cons (dv 1) (da_cons (dv 2) da_nil))))))))))))) (px_fld 3 x_NotUsable.xf n1_NotUsable (px_fld 3 x_NotUsable.xf n2_NotUsable (px_str px_nil)))))
theorem sc__law_ask_span : FnScope N__law_ask_span ["_law_word", "_law_one", "_law_other"] (defScope (sd 64)) := ⟨rfl, rfl, rfl, by decide, rfl, by decide +kernel, by decide +kernel⟩
theorem ok__law_ask_span (T : TxtB K mg base) : Pok P w K mg base 7 "_law_ask_span" (sd 64) ["_law_word", "_law_one", "_law_other"] F__law_ask_span := by
  obtain ⟨C_NotUsable, fI_NotUsable, fd_NotUsable, x_NotUsable, i_NotUsable, b_NotUsable, n1_NotUsable, n2_NotUsable⟩ := T.e_NotUsable
  exact pok (N := N__law_ask_span) T.d__law_ask_span sc__law_ask_span (fun _ _ _ _ _ _ us hl => match us, hl with | [_, _, _], _ => rfl) fun f cdv A outer s H E hr =>
    have S := sc__law_ask_span
    (db_one (ds_try 3 rfl rfl S.nd x_NotUsable (fun W pn xe tk hp => (db_cons (ds_if (teq (hu64 hr) (dv 0) dstr) (db_one (ds_ret (dcall tk (ok_span_plus T) hr (da_cons (dv 1) (da_cons (dv 2) da_nil))))) db_nil)
    (db_cons (ds_if (teq (hu64 hr) (dv 0) dstr) (db_one (ds_ret (dcall tk (ok_span_minus T) hr (da_cons (dv 1) (da_cons (dv 2) da_nil))))) db_nil)
    (db_cons (ds_if (teq (hu64 hr) (dv 0) dstr) (db_one (ds_ret (dcall tk (ok_span_times T) hr (da_cons (dv 1) (da_cons (dv 2) da_nil))))) db_nil)
    (db_cons (ds_if (teq (hu64 hr) (dv 0) dstr) (db_one (ds_ret (dcall tk (ok_span_within T) hr (da_cons (dv 1) (da_cons (dv 2) da_nil))))) db_nil)
    (db_cons (ds_if (teq (hu64 hr) (dv 0) dstr) (db_one (ds_ret (dcall tk (ok_spans_apart T) hr (da_cons (dv 1) (da_cons (dv 2) da_nil))))) db_nil)
    (db_cons (ds_if (teq (hu64 hr) (dv 0) dstr) (db_one (ds_ret (dcall tk (ok_scaled_span T) hr (da_cons (dv 1) (da_cons (dv 2) da_nil))))) db_nil)
    (db_one (ds_ret (dcall tk (ok_holds T) hr (da_cons (dv 1) (da_cons (dv 2) da_nil)))))))))))) (px_fld 3 x_NotUsable.xf n1_NotUsable (px_fld 3 x_NotUsable.xf n2_NotUsable (px_str px_nil)))))
theorem sc__law_ask_side : FnScope N__law_ask_side ["_law_box", "_law_which", "_law_span_here"] (defScope (sd 65)) := ⟨rfl, rfl, rfl, by decide, rfl, by decide +kernel, by decide +kernel⟩
theorem ok__law_ask_side (T : TxtB K mg base) : Pok P w K mg base 6 "_law_ask_side" (sd 65) ["_law_box", "_law_which", "_law_span_here"] F__law_ask_side := by
  obtain ⟨C_NotUsable, fI_NotUsable, fd_NotUsable, x_NotUsable, i_NotUsable, b_NotUsable, n1_NotUsable, n2_NotUsable⟩ := T.e_NotUsable
  exact pok (N := N__law_ask_side) T.d__law_ask_side sc__law_ask_side (fun _ _ _ _ _ _ us hl => match us, hl with | [_, _, _], _ => rfl) fun f cdv A outer s H E hr =>
    have S := sc__law_ask_side
    (db_one (ds_try 3 rfl rfl S.nd x_NotUsable (fun W pn xe tk hp => (db_one (ds_ret (dcall tk (ok_with_side T) hr (da_cons (dv 0) (da_cons (dv 1) (da_cons (dv 2) da_nil))))))) (px_fld 3 x_NotUsable.xf n1_NotUsable (px_fld 3 x_NotUsable.xf n2_NotUsable (px_str px_nil)))))
theorem sc__law_same : FnScope N__law_same ["_law_told", "_law_due"] (defScope (sd 66)) := ⟨rfl, rfl, rfl, by decide, rfl, by decide +kernel, by decide +kernel⟩
theorem okf__law_same (T : TxtB K mg base) : ∀ n : Nat, Pok P w K mg base (n + 2) "_law_same" (sd 66) ["_law_told", "_law_due"] (Ff__law_same n)
  | 0 => pokbad T.d__law_same (fun _ _ _ _ _ _ us hl => match us, hl with | [_, _], _ => rfl)
  | n + 1 => by
    have ih := okf__law_same T n
    exact pok (k := n + 2) (N := N__law_same) T.d__law_same sc__law_same (fun _ _ _ _ _ _ us hl => match us, hl with | [_, _], _ => rfl) fun f cdv A outer s H E hr =>
    have S := sc__law_same
    (db_cons (ds_if (dt (disi T.b_isinstance (da_cons (dv 1) (da_cons (dtyn T.b_tuple (by rfl)) da_nil)))) (db_cons (ds_if (dt_w (dw_or (dt_not (dt (disi T.b_isinstance (da_cons (dv 0) (da_cons (dtyn T.b_tuple (by rfl)) da_nil))))) (dw_or1 (tne (hu64 hr) (dlen T.b_len (da_cons (dv 0) da_nil)) (dlen T.b_len (da_cons (dv 1) da_nil)))))) (db_one (ds_ret dbl)) db_nil)
    (db_cons (ds_for ppF rfl (di_zip T.b_zip (da_cons (dv 0) (da_cons (dv 1) da_nil))) (pg_tup rfl (pgn_cons 2 S.nd (pgn_cons 3 S.nd pgn_nil))) (tgT_ok (is := [2, 3])) (db_one (ds_if (dt_not (dt (dcall tkF ih hr (da_cons (dv 2) (da_cons (dv 3) da_nil)) (by omega)))) (db_one (ds_ret dbl)) db_nil)))
    (db_one (ds_ret dbl)))) db_nil)
    (db_cons (ds_if (dt (disi T.b_isinstance (da_cons (dv 1) (da_cons (dtyn T.b_int (by rfl)) da_nil)))) (db_one (ds_ret (dandv (dcall tkF (ok__law_integer T) hr (da_cons (dv 0) da_nil) (by omega)) (done1 (deq (hu64 hr) (dv 0) (dv 1)))))) db_nil)
    (db_one (ds_ret (dandv (disi T.b_isinstance (da_cons (dv 0) (da_cons (dtyn T.b_str (by rfl)) da_nil))) (done1 (deq (hu64 hr) (dv 0) (dv 1))))))))
theorem ok__law_same (T : TxtB K mg base) : Pok P w K mg base 8 "_law_same" (sd 66) ["_law_told", "_law_due"] F__law_same := okf__law_same T 6
theorem sc__law_is : FnScope N__law_is ["_law_told", "_law_top", "_law_bottom"] (defScope (sd 67)) := ⟨rfl, rfl, rfl, by decide, rfl, by decide +kernel, by decide +kernel⟩
theorem ok__law_is (T : TxtB K mg base) : Pok P w K mg base 3 "_law_is" (sd 67) ["_law_told", "_law_top", "_law_bottom"] F__law_is := by
  exact pok (N := N__law_is) T.d__law_is sc__law_is (fun _ _ _ _ _ _ us hl => match us, hl with | [_, _, _], _ => rfl) fun f cdv A outer s H E hr =>
    have S := sc__law_is
    (db_one (ds_ret (dandv (dcall tkF (ok__law_right_quotient T) hr (da_cons (dv 0) da_nil)) (done1 (deq (hu64 hr) (dmul (dix (dv 0) dint) (dv 2)) (dmul (dv 1) (dix (dv 0) dint)))))))
theorem sc__law_ends : FnScope N__law_ends ["_law_told", "_law_ends_here"] (defScope (sd 68)) := ⟨rfl, rfl, rfl, by decide, rfl, by decide +kernel, by decide +kernel⟩
theorem ok__law_ends (T : TxtB K mg base) : Pok P w K mg base 4 "_law_ends" (sd 68) ["_law_told", "_law_ends_here"] F__law_ends := by
  exact pok (N := N__law_ends) T.d__law_ends sc__law_ends (fun _ _ _ _ _ _ us hl => match us, hl with | [_, _], _ => rfl) fun f cdv A outer s H E hr =>
    have S := sc__law_ends
    (db_cons (ds_if (dt_not (dt (dcall tkF (ok__law_right_span T) hr (da_cons (dv 0) da_nil)))) (db_one (ds_ret dbl)) db_nil)
    (db_cons (ds_par 2 3 rfl S.nd (da_cons (dix (dv 1) dint) (da_cons (dix (dv 1) dint) da_nil)))
    (db_cons (ds_forL ppF rfl (di_loc (dv 1)) (pg_name (i := 4) S.nd rfl (by first | exact Or.inl rfl | exact Or.inr rfl)) tgV_ok (db_cons (ds_if (dt (dcall tkF (ok__law_below T) hr (da_cons (dv 4) (da_cons (dv 2) da_nil)))) (db_one (ds_asg 2 S.nd (dv 4))) db_nil)
    (db_one (ds_if (dt (dcall tkF (ok__law_below T) hr (da_cons (dv 3) (da_cons (dv 4) da_nil)))) (db_one (ds_asg 3 S.nd (dv 4))) db_nil))))
    (db_one (ds_ret (dandv (dcall tkF (ok__law_is T) hr (da_cons (dix (dv 0) dint) (da_cons (dix (dv 2) dint) (da_cons (dix (dv 2) dint) da_nil)))) (done1 (dcall tkF (ok__law_is T) hr (da_cons (dix (dv 0) dint) (da_cons (dix (dv 3) dint) (da_cons (dix (dv 3) dint) da_nil)))))))))))
theorem bk_less_other_one : BindKw "less" (sd 34) ["one", "other"] ["other", "one"] [1, 0] := fun _ _ _ _ _ _ us hl => match us, hl with | [_, _], _ => rfl
theorem bk_minus_other_one : BindKw "minus" (sd 31) ["one", "other"] ["other", "one"] [1, 0] := fun _ _ _ _ _ _ us hl => match us, hl with | [_, _], _ => rfl
theorem bk_over_other_one : BindKw "over" (sd 33) ["one", "other"] ["other", "one"] [1, 0] := fun _ _ _ _ _ _ us hl => match us, hl with | [_, _], _ => rfl
theorem bk_plus_other_one : BindKw "plus" (sd 30) ["one", "other"] ["other", "one"] [1, 0] := fun _ _ _ _ _ _ us hl => match us, hl with | [_, _], _ => rfl
theorem bk_quotient_of_bottom_top : BindKw "quotient_of" (sd 29) ["top", "bottom"] ["bottom", "top"] [1, 0] := fun _ _ _ _ _ _ us hl => match us, hl with | [_, _], _ => rfl
theorem bk_times_other_one : BindKw "times" (sd 32) ["one", "other"] ["other", "one"] [1, 0] := fun _ _ _ _ _ _ us hl => match us, hl with | [_, _], _ => rfl
theorem sc__law_quotients : FnScope N__law_quotients ["_law_row_here"] (defScope (sd 69)) := ⟨rfl, rfl, rfl, by decide, rfl, by decide +kernel, by decide +kernel⟩
theorem ok__law_quotients (T : TxtB K mg base) : Pok P w K mg base 9 "_law_quotients" (sd 69) ["_law_row_here"] F__law_quotients := by
  exact pok (N := N__law_quotients) T.d__law_quotients sc__law_quotients (fun _ _ _ _ _ _ us hl => match us, hl with | [_], _ => rfl) fun f cdv A outer s H E hr =>
    have S := sc__law_quotients
    (db_cons (ds_for ppF rfl (di_range1 T.b_range (da_cons dint da_nil)) (pg_name (i := 1) S.nd rfl (by first | exact Or.inl rfl | exact Or.inr rfl)) tgV_ok (db_cons (ds_par3 2 3 4 rfl S.nd (da_cons (dcall tkF (ok__law_quotient T) hr (da_cons (dv 0) da_nil)) (da_cons (dcall tkF (ok__law_quotient T) hr (da_cons (dv 0) da_nil)) (da_cons (dadd (c := false) dint (dcall tkF (ok__law_take T) hr (da_cons (dv 0) (da_cons dint da_nil)))) da_nil))))
    (db_cons (ds_if (teq (hu64 hr) (dcall tkF (ok__law_take T) hr (da_cons (dv 0) (da_cons dint da_nil))) dint) (db_one (ds_asg 3 S.nd (dv 2))) db_nil)
    (db_cons (ds_par 5 6 rfl S.nd (da_cons (dmul (dix (dv 2) dint) (dix (dv 3) dint)) (da_cons (dmul (dix (dv 3) dint) (dix (dv 2) dint)) da_nil)))
    (db_cons (ds_if (dt_not (dt (dcall tkF (ok__law_is T) hr (da_cons (dcall tkF (ok__law_ask T) hr (da_cons dstr (da_cons (dv 2) (da_cons (dv 3) da_nil)))) (da_cons (dadd (c := false) (dv 5) (dv 6)) (da_cons (dmul (dix (dv 2) dint) (dix (dv 3) dint)) da_nil)))))) (db_one (ds_ret dbl)) db_nil)
    (db_cons (ds_if (dt_not (dt (dcall tkF (ok__law_is T) hr (da_cons (dcall tkF (ok__law_ask T) hr (da_cons dstr (da_cons (dv 2) (da_cons (dv 3) da_nil)))) (da_cons (dsub (dv 5) (dv 6)) (da_cons (dmul (dix (dv 2) dint) (dix (dv 3) dint)) da_nil)))))) (db_one (ds_ret dbl)) db_nil)
    (db_cons (ds_if (dt_not (dt (dcall tkF (ok__law_is T) hr (da_cons (dcall tkF (ok__law_ask T) hr (da_cons dstr (da_cons (dv 2) (da_cons (dv 3) da_nil)))) (da_cons (dmul (dix (dv 2) dint) (dix (dv 3) dint)) (da_cons (dmul (dix (dv 2) dint) (dix (dv 3) dint)) da_nil)))))) (db_one (ds_ret dbl)) db_nil)
    (db_cons (ds_if (dt_not (dt (dcall tkF (ok__law_truth T) hr (da_cons (dcall tkF (ok__law_ask T) hr (da_cons dstr (da_cons (dv 2) (da_cons (dv 3) da_nil)))) (da_cons (dlt (dv 5) (dv 6)) da_nil))))) (db_one (ds_ret dbl)) db_nil)
    (db_cons (ds_asg 7 S.nd (dcall tkF (ok__law_ask T) hr (da_cons dstr (da_cons (dv 2) (da_cons (dv 3) da_nil)))))
    (db_cons (ds_if (dt_w (dw_and (teq (hu64 hr) (dv 6) dint) (dw_and1 (dt_not (dt (dcall tkF (ok__law_same T) hr (da_cons (dv 7) (da_cons (dtup (da_cons dstr (da_cons (dneg dint) (da_cons dstr da_nil)))) da_nil)))))))) (db_one (ds_ret dbl)) db_nil)
    (db_cons (ds_if (dt_w (dw_and (tne (hu64 hr) (dv 6) dint) (dw_and1 (dt_not (dt (dcall tkF (ok__law_is T) hr (da_cons (dv 7) (da_cons (dv 5) (da_cons (dv 6) da_nil))))))))) (db_one (ds_ret dbl)) db_nil)
    (db_cons (ds_par 5 6 rfl S.nd (da_cons (dcall tkF (ok__law_whole T) hr (da_cons (dv 0) da_nil)) (da_cons (dcall tkF (ok__law_whole T) hr (da_cons (dv 0) da_nil)) da_nil)))
    (db_cons (ds_if (dt_w (dw_and (tlt (dabs T.b_abs (da_cons (dv 5) da_nil)) dint) (dw_and1 (tlt (dabs T.b_abs (da_cons (dv 6) da_nil)) dint)))) (db_one (ds_par 5 6 rfl S.nd (da_cons (dmul (dv 5) (dv 4)) (da_cons (dmul (dv 6) (dv 4)) da_nil)))) db_nil)
    (db_cons (ds_if (teq (hu64 hr) (dv 6) dint) (db_one (ds_asg 6 S.nd (dneg (dv 4)))) db_nil)
    (db_cons (ds_if (dt_not (dt (dcall tkF (ok__law_is T) hr (da_cons (dcall tkF (ok__law_ask T) hr (da_cons dstr (da_cons (dv 5) (da_cons (dv 6) da_nil)))) (da_cons (dv 5) (da_cons (dv 6) da_nil)))))) (db_one (ds_ret dbl)) db_nil)
    (db_one (ds_if (dt_not (dt (dcall tkF (ok__law_same T) hr (da_cons (dcallk ["bottom", "top"] [1, 0] tkF (ok_quotient_of T) hr bk_quotient_of_bottom_top (dk_cons (dv 6) (dk_cons (dv 5) dk_nil))) (da_cons (dcall tkF (ok_quotient_of T) hr (da_cons (dv 5) (da_cons (dv 6) da_nil))) da_nil))))) (db_one (ds_ret dbl)) db_nil)))))))))))))))))
    (db_cons (ds_if (dt_not (dt (dcall tkF (ok__law_same T) hr (da_cons (dtup (da_cons (dcallk ["other", "one"] [1, 0] tkF (ok_plus T) hr bk_plus_other_one (dk_cons (dv 3) (dk_cons (dv 2) dk_nil))) (da_cons (dcallk ["other", "one"] [1, 0] tkF (ok_times T) hr bk_times_other_one (dk_cons (dv 3) (dk_cons (dv 2) dk_nil))) da_nil))) (da_cons (dtup (da_cons (dcall tkF (ok_plus T) hr (da_cons (dv 2) (da_cons (dv 3) da_nil))) (da_cons (dcall tkF (ok_times T) hr (da_cons (dv 2) (da_cons (dv 3) da_nil))) da_nil))) da_nil))))) (db_one (ds_ret dbl)) db_nil)
    (db_cons (ds_if (dt_not (dt (dcall tkF (ok__law_same T) hr (da_cons (dcallk ["other", "one"] [1, 0] tkF (ok_over T) hr bk_over_other_one (dk_cons (dtup (da_cons (dneg dint) (da_cons dint da_nil))) (dk_cons (dv 2) dk_nil))) (da_cons (dcall tkF (ok_over T) hr (da_cons (dv 2) (da_cons (dtup (da_cons (dneg dint) (da_cons dint da_nil))) da_nil))) da_nil))))) (db_one (ds_ret dbl)) db_nil)
    (db_one (ds_ret (dandv (dcall tkF (ok__law_same T) hr (da_cons (dcallk ["other", "one"] [1, 0] tkF (ok_minus T) hr bk_minus_other_one (dk_cons (dv 3) (dk_cons (dv 2) dk_nil))) (da_cons (dcall tkF (ok_minus T) hr (da_cons (dv 2) (da_cons (dv 3) da_nil))) da_nil))) (done1 (deq (hu64 hr) (dcallk ["other", "one"] [1, 0] tkF (ok_less T) hr bk_less_other_one (dk_cons (dv 3) (dk_cons (dv 2) dk_nil))) (dcall tkF (ok_less T) hr (da_cons (dv 2) (da_cons (dv 3) da_nil)))))))))))
theorem sc__law_near : FnScope N__law_near ["_law_row_here", "_law_span_here"] (defScope (sd 70)) := ⟨rfl, rfl, rfl, by decide, rfl, by decide +kernel, by decide +kernel⟩
theorem ok__law_near (T : TxtB K mg base) : Pok P w K mg base 4 "_law_near" (sd 70) ["_law_row_here", "_law_span_here"] F__law_near := by
  exact pok (N := N__law_near) T.d__law_near sc__law_near (fun _ _ _ _ _ _ us hl => match us, hl with | [_, _], _ => rfl) fun f cdv A outer s H E hr =>
    have S := sc__law_near
    (db_cons (ds_asg 2 S.nd (dcall tkF (ok__law_take T) hr (da_cons (dv 0) (da_cons dint da_nil))))
    (db_cons (ds_par 3 4 rfl S.nd (da_cons (dix (dv 1) dint) (da_cons (dix (dv 1) dint) da_nil)))
    (db_cons (ds_par 5 6 rfl S.nd (da_cons (dadd (c := false) (dmul (dix (dv 3) dint) (dix (dv 4) dint)) (dmul (dix (dv 4) dint) (dix (dv 3) dint))) (da_cons (dmul (dmul dint (dix (dv 3) dint)) (dix (dv 4) dint)) da_nil)))
    (db_cons (ds_if (teq (hu64 hr) (dv 2) dint) (db_one (ds_ret (dv 4))) db_nil)
    (db_cons (ds_if (teq (hu64 hr) (dv 2) dint) (db_one (ds_par 5 6 rfl S.nd (da_cons (dsub (dmul (dix (dv 3) dint) dint) (dix (dv 3) dint)) (da_cons (dmul (dix (dv 3) dint) dint) da_nil)))) db_nil)
    (db_cons (ds_if (teq (hu64 hr) (dv 2) dint) (db_one (ds_par 5 6 rfl S.nd (da_cons (dadd (c := false) (dmul (dix (dv 4) dint) dint) (dix (dv 4) dint)) (da_cons (dmul (dix (dv 4) dint) dint) da_nil)))) db_nil)
    (db_cons (ds_if (teq (hu64 hr) (dv 2) dint) (db_one (ds_ret (dcall tkF (ok__law_quotient T) hr (da_cons (dv 0) da_nil)))) db_nil)
    (db_cons (ds_asg 7 S.nd (dcall tkF (ok__law_lowest T) hr (da_cons (dv 5) (da_cons (dv 6) da_nil))))
    (db_cons (ds_if (dt_w (dw_or (teq (hu64 hr) (dv 2) dint) (dw_or (tgt (dabs T.b_abs (da_cons (dix (dv 7) dint) da_nil)) dint) (dw_or1 (tgt (dix (dv 7) dint) dint))))) (db_one (ds_ret (dv 3))) db_nil)
    (db_one (ds_ret (dv 7))))))))))))
theorem sc__law_held : FnScope N__law_held ["_law_span_here", "_law_quotient_here"] (defScope (sd 71)) := ⟨rfl, rfl, rfl, by decide, rfl, by decide +kernel, by decide +kernel⟩
theorem ok__law_held (T : TxtB K mg base) : Pok P w K mg base 2 "_law_held" (sd 71) ["_law_span_here", "_law_quotient_here"] F__law_held := by
  exact pok (N := N__law_held) T.d__law_held sc__law_held (fun _ _ _ _ _ _ us hl => match us, hl with | [_, _], _ => rfl) fun f cdv A outer s H E hr =>
    have S := sc__law_held
    (db_one (ds_ret (dandv (dnotv (dcall tkF (ok__law_below T) hr (da_cons (dv 1) (da_cons (dix (dv 0) dint) da_nil)))) (done1 (dnotv (dcall tkF (ok__law_below T) hr (da_cons (dix (dv 0) dint) (da_cons (dv 1) da_nil))))))))
theorem sc__law_pair_of_spans : FnScope N__law_pair_of_spans ["_law_one", "_law_other"] (defScope (sd 72)) := ⟨rfl, rfl, rfl, by decide, rfl, by decide +kernel, by decide +kernel⟩
theorem ok__law_pair_of_spans (T : TxtB K mg base) : Pok P w K mg base 8 "_law_pair_of_spans" (sd 72) ["_law_one", "_law_other"] F__law_pair_of_spans := by
  exact pok (N := N__law_pair_of_spans) T.d__law_pair_of_spans sc__law_pair_of_spans (fun _ _ _ _ _ _ us hl => match us, hl with | [_, _], _ => rfl) fun f cdv A outer s H E hr =>
    have S := sc__law_pair_of_spans
    (db_cons (ds_par3 2 3 4 rfl S.nd (da_cons (dlst (c := true) da_nil) (da_cons (dlst (c := true) da_nil) (da_cons (dlst (c := true) da_nil) da_nil))))
    (db_cons (ds_for ppF rfl (di_seq (dv 0)) (pg_name (i := 5) S.nd rfl (by first | exact Or.inl rfl | exact Or.inr rfl)) tgV_ok (db_one (ds_for ppF rfl (di_seq (dv 1)) (pg_name (i := 6) S.nd rfl (by first | exact Or.inl rfl | exact Or.inr rfl)) tgV_ok (db_cons (ds_expr (dapp (dv 2) (dtup (da_cons (dadd (c := false) (dmul (dix (dv 5) dint) (dix (dv 6) dint)) (dmul (dix (dv 6) dint) (dix (dv 5) dint))) (da_cons (dmul (dix (dv 5) dint) (dix (dv 6) dint)) da_nil)))))
    (db_cons (ds_expr (dapp (dv 3) (dtup (da_cons (dsub (dmul (dix (dv 5) dint) (dix (dv 6) dint)) (dmul (dix (dv 6) dint) (dix (dv 5) dint))) (da_cons (dmul (dix (dv 5) dint) (dix (dv 6) dint)) da_nil)))))
    (db_one (ds_expr (dapp (dv 4) (dtup (da_cons (dmul (dix (dv 5) dint) (dix (dv 6) dint)) (da_cons (dmul (dix (dv 5) dint) (dix (dv 6) dint)) da_nil)))))))))))
    (db_cons (ds_if (dt_not (dt (dcall tkF (ok__law_ends T) hr (da_cons (dcall tkF (ok__law_ask_span T) hr (da_cons dstr (da_cons (dv 0) (da_cons (dv 1) da_nil)))) (da_cons (dv 2) da_nil))))) (db_one (ds_ret dbl)) db_nil)
    (db_cons (ds_if (dt_not (dt (dcall tkF (ok__law_ends T) hr (da_cons (dcall tkF (ok__law_ask_span T) hr (da_cons dstr (da_cons (dv 0) (da_cons (dv 1) da_nil)))) (da_cons (dv 3) da_nil))))) (db_one (ds_ret dbl)) db_nil)
    (db_cons (ds_if (dt_not (dt (dcall tkF (ok__law_ends T) hr (da_cons (dcall tkF (ok__law_ask_span T) hr (da_cons dstr (da_cons (dv 0) (da_cons (dv 1) da_nil)))) (da_cons (dv 4) da_nil))))) (db_one (ds_ret dbl)) db_nil)
    (db_cons (ds_asg 7 S.nd (dandv (dcall tkF (ok__law_held T) hr (da_cons (dv 1) (da_cons (dix (dv 0) dint) da_nil))) (done1 (dcall tkF (ok__law_held T) hr (da_cons (dv 1) (da_cons (dix (dv 0) dint) da_nil))))))
    (db_cons (ds_if (dt_not (dt (dcall tkF (ok__law_truth T) hr (da_cons (dcall tkF (ok__law_ask_span T) hr (da_cons dstr (da_cons (dv 0) (da_cons (dv 1) da_nil)))) (da_cons (dv 7) da_nil))))) (db_one (ds_ret dbl)) db_nil)
    (db_cons (ds_asg 8 S.nd (dorv (dcall tkF (ok__law_below T) hr (da_cons (dix (dv 0) dint) (da_cons (dix (dv 1) dint) da_nil))) (done1 (dcall tkF (ok__law_below T) hr (da_cons (dix (dv 1) dint) (da_cons (dix (dv 0) dint) da_nil))))))
    (db_one (ds_ret (dcall tkF (ok__law_truth T) hr (da_cons (dcall tkF (ok__law_ask_span T) hr (da_cons dstr (da_cons (dv 0) (da_cons (dv 1) da_nil)))) (da_cons (dv 8) da_nil)))))))))))))
theorem bk_holds_quotient_span : BindKw "holds" (sd 40) ["span", "quotient"] ["quotient", "span"] [1, 0] := fun _ _ _ _ _ _ us hl => match us, hl with | [_, _], _ => rfl
theorem bk_scaled_span_quotient_span : BindKw "scaled_span" (sd 39) ["span", "quotient"] ["quotient", "span"] [1, 0] := fun _ _ _ _ _ _ us hl => match us, hl with | [_, _], _ => rfl
theorem bk_span_minus_other_one : BindKw "span_minus" (sd 37) ["one", "other"] ["other", "one"] [1, 0] := fun _ _ _ _ _ _ us hl => match us, hl with | [_, _], _ => rfl
theorem bk_span_plus_other_one : BindKw "span_plus" (sd 36) ["one", "other"] ["other", "one"] [1, 0] := fun _ _ _ _ _ _ us hl => match us, hl with | [_, _], _ => rfl
theorem bk_span_times_other_one : BindKw "span_times" (sd 38) ["one", "other"] ["other", "one"] [1, 0] := fun _ _ _ _ _ _ us hl => match us, hl with | [_, _], _ => rfl
theorem bk_span_within_other_span : BindKw "span_within" (sd 41) ["span", "other"] ["other", "span"] [1, 0] := fun _ _ _ _ _ _ us hl => match us, hl with | [_, _], _ => rfl
theorem bk_spans_apart_other_one : BindKw "spans_apart" (sd 42) ["one", "other"] ["other", "one"] [1, 0] := fun _ _ _ _ _ _ us hl => match us, hl with | [_, _], _ => rfl
theorem sc__law_spans : FnScope N__law_spans ["_law_row_here"] (defScope (sd 73)) := ⟨rfl, rfl, rfl, by decide, rfl, by decide +kernel, by decide +kernel⟩
theorem ok__law_spans (T : TxtB K mg base) : Pok P w K mg base 9 "_law_spans" (sd 73) ["_law_row_here"] F__law_spans := by
  exact pok (N := N__law_spans) T.d__law_spans sc__law_spans (fun _ _ _ _ _ _ us hl => match us, hl with | [_], _ => rfl) fun f cdv A outer s H E hr =>
    have S := sc__law_spans
    (db_cons (ds_for ppF rfl (di_range1 T.b_range (da_cons dint da_nil)) (pg_name (i := 1) S.nd rfl (by first | exact Or.inl rfl | exact Or.inr rfl)) tgV_ok (db_cons (ds_par3 2 3 4 rfl S.nd (da_cons (dcall tkF (ok__law_span T) hr (da_cons (dv 0) da_nil)) (da_cons (dcall tkF (ok__law_span T) hr (da_cons (dv 0) da_nil)) (da_cons (dcall tkF (ok__law_take T) hr (da_cons (dv 0) (da_cons dint da_nil))) da_nil))))
    (db_cons (ds_if (teq (hu64 hr) (dv 4) dint) (db_one (ds_asg 3 S.nd (dv 2))) db_nil)
    (db_cons (ds_if (tgt (dv 4) dint) (db_cons (ds_par 5 6 rfl S.nd (da_cons (dcall tkF (ok__law_near T) hr (da_cons (dv 0) (da_cons (dv 2) da_nil))) (da_cons (dcall tkF (ok__law_near T) hr (da_cons (dv 0) (da_cons (dv 2) da_nil))) da_nil)))
    (db_cons (ds_asg 3 S.nd (dtup (da_cons (dv 5) (da_cons (dv 6) da_nil))))
    (db_one (ds_if (dt (dcall tkF (ok__law_below T) hr (da_cons (dv 6) (da_cons (dv 5) da_nil)))) (db_one (ds_asg 3 S.nd (dtup (da_cons (dv 6) (da_cons (dv 5) da_nil))))) db_nil)))) db_nil)
    (db_cons (ds_if (teq (hu64 hr) (dv 4) dint) (db_one (ds_par 2 3 rfl S.nd (da_cons (dv 3) (da_cons (dv 2) da_nil)))) db_nil)
    (db_cons (ds_if (dt_not (dt (dcall tkF (ok__law_pair_of_spans T) hr (da_cons (dv 2) (da_cons (dv 3) da_nil))))) (db_one (ds_ret dbl)) db_nil)
    (db_cons (ds_asg 7 S.nd (dcall tkF (ok__law_quotient T) hr (da_cons (dv 0) da_nil)))
    (db_cons (ds_asglc true 8 [("_law_end", 9)] rfl S.nd (di_seq (dv 2)) (blkOk_by (own := [("_law_end", 9)]) (N := N__law_spans) (sc := defScope (sd 73)) (by decide +kernel)) (tgV_b (i := 9) (by decide)) (fun _ _ _ _ _ => (pg_name (i := 9) S.nd rfl (by first | exact Or.inl rfl | exact Or.inr rfl))) (fun _ _ _ _ _ => dts_nil) (fun _ _ _ _ _ => (dtup (da_cons (dmul (dix (dv 9) dint) (dix (dv 7) dint)) (da_cons (dmul (dix (dv 9) dint) (dix (dv 7) dint)) da_nil)))))
    (db_cons (ds_if (dt_not (dt (dcall tkF (ok__law_ends T) hr (da_cons (dcall tkF (ok__law_ask_span T) hr (da_cons dstr (da_cons (dv 2) (da_cons (dv 7) da_nil)))) (da_cons (dv 8) da_nil))))) (db_one (ds_ret dbl)) db_nil)
    (db_cons (ds_asg 10 S.nd (dcall tkF (ok__law_near T) hr (da_cons (dv 0) (da_cons (dv 2) da_nil))))
    (db_one (ds_if (dt_not (dt (dcall tkF (ok__law_truth T) hr (da_cons (dcall tkF (ok__law_ask_span T) hr (da_cons dstr (da_cons (dv 2) (da_cons (dv 10) da_nil)))) (da_cons (dcall tkF (ok__law_held T) hr (da_cons (dv 2) (da_cons (dv 10) da_nil))) da_nil))))) (db_one (ds_ret dbl)) db_nil))))))))))))
    (db_cons (ds_if (dt_not (dt (dcall tkF (ok__law_same T) hr (da_cons (dcallk ["quotient", "span"] [1, 0] tkF (ok_scaled_span T) hr bk_scaled_span_quotient_span (dk_cons (dv 7) (dk_cons (dv 2) dk_nil))) (da_cons (dcall tkF (ok_scaled_span T) hr (da_cons (dv 2) (da_cons (dv 7) da_nil))) da_nil))))) (db_one (ds_ret dbl)) db_nil)
    (db_cons (ds_if (dt_not (dt (dcall tkF (ok__law_truth T) hr (da_cons (dcallk ["other", "span"] [1, 0] tkF (ok_span_within T) hr bk_span_within_other_span (dk_cons (dv 2) (dk_cons (dv 3) dk_nil))) (da_cons (dandv (dcall tkF (ok__law_held T) hr (da_cons (dv 2) (da_cons (dix (dv 3) dint) da_nil))) (done1 (dcall tkF (ok__law_held T) hr (da_cons (dv 2) (da_cons (dix (dv 3) dint) da_nil))))) da_nil))))) (db_one (ds_ret dbl)) db_nil)
    (db_cons (ds_if (dt_not (dt (dcall tkF (ok__law_truth T) hr (da_cons (dcallk ["quotient", "span"] [1, 0] tkF (ok_holds T) hr bk_holds_quotient_span (dk_cons (dv 10) (dk_cons (dv 2) dk_nil))) (da_cons (dcall tkF (ok__law_held T) hr (da_cons (dv 2) (da_cons (dv 10) da_nil))) da_nil))))) (db_one (ds_ret dbl)) db_nil)
    (db_cons (ds_if (dt_not (dt (dcall tkF (ok__law_truth T) hr (da_cons (dcallk ["other", "one"] [1, 0] tkF (ok_spans_apart T) hr bk_spans_apart_other_one (dk_cons (dv 3) (dk_cons (dv 2) dk_nil))) (da_cons (dcall tkF (ok_spans_apart T) hr (da_cons (dv 2) (da_cons (dv 3) da_nil))) da_nil))))) (db_one (ds_ret dbl)) db_nil)
    (db_cons (ds_if (dt_not (dt (dcall tkF (ok__law_same T) hr (da_cons (dcallk ["other", "one"] [1, 0] tkF (ok_span_plus T) hr bk_span_plus_other_one (dk_cons (dv 3) (dk_cons (dv 2) dk_nil))) (da_cons (dcall tkF (ok_span_plus T) hr (da_cons (dv 2) (da_cons (dv 3) da_nil))) da_nil))))) (db_one (ds_ret dbl)) db_nil)
    (db_cons (ds_if (dt_not (dt (dcall tkF (ok__law_same T) hr (da_cons (dcallk ["other", "one"] [1, 0] tkF (ok_span_times T) hr bk_span_times_other_one (dk_cons (dv 3) (dk_cons (dv 2) dk_nil))) (da_cons (dcall tkF (ok_span_times T) hr (da_cons (dv 2) (da_cons (dv 3) da_nil))) da_nil))))) (db_one (ds_ret dbl)) db_nil)
    (db_one (ds_ret (dcall tkF (ok__law_same T) hr (da_cons (dcallk ["other", "one"] [1, 0] tkF (ok_span_minus T) hr bk_span_minus_other_one (dk_cons (dv 3) (dk_cons (dv 2) dk_nil))) (da_cons (dcall tkF (ok_span_minus T) hr (da_cons (dv 2) (da_cons (dv 3) da_nil))) da_nil))))))))))))
theorem sc__law_corners : FnScope N__law_corners ["_law_box"] (defScope (sd 74)) := ⟨rfl, rfl, rfl, by decide, rfl, by decide +kernel, by decide +kernel⟩
theorem ok__law_corners (T : TxtB K mg base) : Pok P w K mg base 1 "_law_corners" (sd 74) ["_law_box"] F__law_corners := by
  exact pok (N := N__law_corners) T.d__law_corners sc__law_corners (fun _ _ _ _ _ _ us hl => match us, hl with | [_], _ => rfl) fun f cdv A outer s H E hr =>
    have S := sc__law_corners
    (db_cons (ds_asg 1 S.nd (dlst (c := true) (da_cons (dtup da_nil) da_nil)))
    (db_cons (ds_for ppF rfl (di_seq (dv 0)) (pg_name (i := 2) S.nd rfl (by first | exact Or.inl rfl | exact Or.inr rfl)) tgV_ok (db_cons (ds_asg 3 S.nd (dlst (c := true) da_nil))
    (db_cons (ds_forL ppF rfl (di_loc (dv 1)) (pg_name (i := 4) S.nd rfl (by first | exact Or.inl rfl | exact Or.inr rfl)) tgV_ok (db_cons (ds_expr (dapp (dv 3) (dadd (c := false) (dv 4) (dtup (da_cons (dix (dv 2) dint) da_nil)))))
    (db_one (ds_if (tne (hu64 hr) (dix (dv 2) dint) (dix (dv 2) dint)) (db_one (ds_expr (dapp (dv 3) (dadd (c := false) (dv 4) (dtup (da_cons (dix (dv 2) dint) da_nil)))))) db_nil))))
    (db_one (ds_asg 1 S.nd (dv 3))))))
    (db_one (ds_ret (dv 1)))))
theorem sc__law_bad_spans : FnScope N__law_bad_spans [] (defScope (sd 77)) := ⟨rfl, rfl, rfl, by decide, rfl, by decide +kernel, by decide +kernel⟩
theorem ok__law_bad_spans (T : TxtB K mg base) : Pok P w K mg base 1 "_law_bad_spans" (sd 77) [] F__law_bad_spans := by
  exact pok (N := N__law_bad_spans) T.d__law_bad_spans sc__law_bad_spans (fun _ _ _ _ _ _ us hl => match us, hl with | [], _ => rfl) fun f cdv A outer s H E hr =>
    have S := sc__law_bad_spans
    (db_one (ds_ret (dtup (da_cons dnon (da_cons (dtup (da_cons dint (da_cons dint da_nil))) (da_cons (dtup (da_cons (dtup (da_cons dint (da_cons dint da_nil))) (da_cons (dtup (da_cons dint (da_cons dint da_nil))) da_nil))) (da_cons (dlst (c := false) (da_cons (dtup (da_cons dint (da_cons dint da_nil))) (da_cons (dtup (da_cons dint (da_cons dint da_nil))) da_nil))) (da_cons (dtup (da_cons (dtup (da_cons dint (da_cons dint da_nil))) da_nil)) (da_cons (dtup (da_cons (dtup (da_cons dint (da_cons dint da_nil))) (da_cons (dtup (da_cons dint (da_cons dint da_nil))) (da_cons (dtup (da_cons dint (da_cons dint da_nil))) da_nil)))) (da_cons (dtup (da_cons (dtup (da_cons dint (da_cons dint da_nil))) (da_cons (dtup (da_cons dint (da_cons dint da_nil))) da_nil))) (da_cons (dtup (da_cons (dtup (da_cons dint (da_cons dint da_nil))) (da_cons dbl da_nil))) (da_cons dstr (da_cons dint (da_cons (dtup da_nil) (da_cons (dtup (da_cons (dtup (da_cons dint (da_cons (dneg dint) da_nil))) (da_cons (dtup (da_cons dint (da_cons dint da_nil))) da_nil))) (da_cons (dtup (da_cons (dtup (da_cons dint (da_cons dint da_nil))) (da_cons (dlst (c := false) (da_cons dint (da_cons dint da_nil))) da_nil))) (da_cons (dtup (da_cons (dtup (da_cons (dneg dint) (da_cons dint da_nil))) (da_cons (dtup (da_cons (dneg dint) (da_cons dint da_nil))) da_nil))) da_nil)))))))))))))))))
theorem sc__law_bad_boxes : FnScope N__law_bad_boxes ["_law_row_here", "_law_box", "_law_point", "_law_span_here"] (defScope (sd 76)) := ⟨rfl, rfl, rfl, by decide, rfl, by decide +kernel, by decide +kernel⟩
theorem ok__law_bad_boxes (T : TxtB K mg base) : Pok P w K mg base 9 "_law_bad_boxes" (sd 76) ["_law_row_here", "_law_box", "_law_point", "_law_span_here"] F__law_bad_boxes := by
  exact pok (N := N__law_bad_boxes) T.d__law_bad_boxes sc__law_bad_boxes (fun _ _ _ _ _ _ us hl => match us, hl with | [_, _, _, _], _ => rfl) fun f cdv A outer s H E hr =>
    have S := sc__law_bad_boxes
    (db_cons (ds_asg 4 S.nd (dlen T.b_len (da_cons (dv 1) da_nil)))
    (db_cons (ds_asg 5 S.nd (dtup (da_cons dnon (da_cons (dlist (c := false) T.b_list (da_cons (dv 2) da_nil)) (da_cons (dsl (c := false) (dv 2) (do_some dint) do_none) (da_cons (dadd (c := false) (dv 2) (dtup (da_cons (dtup (da_cons dint (da_cons dint da_nil))) da_nil))) (da_cons (dadd (c := false) (dsl (c := false) (dv 2) (do_some dint) do_none) (dtup (da_cons (dtup (da_cons dint (da_cons dint da_nil))) da_nil))) (da_cons (dadd (c := false) (dsl (c := false) (dv 2) (do_some dint) do_none) (dtup (da_cons dint da_nil))) (da_cons (dadd (c := false) (dtup (da_cons dbl da_nil)) (dsl (c := false) (dv 2) (do_some dint) do_none)) (da_cons (dadd (c := false) (dsl (c := false) (dv 2) (do_some dint) do_none) (dtup (da_cons (dtup (da_cons (dtup (da_cons dint (da_cons dint da_nil))) (da_cons (dtup (da_cons dint (da_cons dint da_nil))) da_nil))) da_nil))) (da_cons dstr (da_cons dint (da_cons (dadd (c := false) (dsl (c := false) (dv 2) (do_some dint) do_none) (dtup (da_cons (dtup (da_cons dint (da_cons dint da_nil))) da_nil))) (da_cons (dtup (da_cons (dv 2) da_nil)) da_nil))))))))))))))
    (db_cons (ds_asg 6 S.nd (dix (dv 5) (dcall tkF (ok__law_take T) hr (da_cons (dv 0) (da_cons (dlen T.b_len (da_cons (dv 5) da_nil)) da_nil)))))
    (db_cons (ds_if (dt_not (dt (dcall tkF (ok__law_same T) hr (da_cons (dcall tkF (ok__law_ask T) hr (da_cons dstr (da_cons (dv 1) (da_cons (dv 6) da_nil)))) (da_cons (dtup (da_cons dstr (da_cons (dneg dint) (da_cons dstr da_nil)))) da_nil))))) (db_one (ds_ret dbl)) db_nil)
    (db_cons (ds_asg 7 S.nd (dtup (da_cons (dtup da_nil) (da_cons dnon (da_cons (dlst (c := false) (da_cons (dtup (da_cons dint (da_cons dint da_nil))) da_nil)) (da_cons (dtup (da_cons dint (da_cons dint da_nil))) (da_cons (dtup (da_cons (dtup (da_cons dint (da_cons dint da_nil))) (da_cons (dtup (da_cons dint (da_cons (dneg dint) da_nil))) da_nil))) (da_cons (dtup (da_cons (dtup (da_cons dint (da_cons dint da_nil))) (da_cons dnon da_nil))) (da_cons (dtup (da_cons dint da_nil)) (da_cons (dtup (da_cons (dtup (da_cons dbl (da_cons dint da_nil))) da_nil)) (da_cons dstr (da_cons dint da_nil))))))))))))
    (db_cons (ds_if (dt_not (dt (dcall tkF (ok__law_same T) hr (da_cons (dcall tkF (ok__law_ask T) hr (da_cons dstr (da_cons (dix (dv 7) (dcall tkF (ok__law_take T) hr (da_cons (dv 0) (da_cons (dlen T.b_len (da_cons (dv 7) da_nil)) da_nil)))) (da_cons dint da_nil)))) (da_cons (dtup (da_cons dstr (da_cons (dneg dint) (da_cons dstr da_nil)))) da_nil))))) (db_one (ds_ret dbl)) db_nil)
    (db_cons (ds_asg 8 S.nd (dtup (da_cons (dneg dint) (da_cons (dv 4) (da_cons dbl (da_cons dnon (da_cons dstr (da_cons (dtup (da_cons dint da_nil)) (da_cons dbl (da_cons (dadd (c := false) (dv 4) dint) da_nil))))))))))
    (db_cons (ds_par 9 10 rfl S.nd (da_cons (dix (dv 8) (dcall tkF (ok__law_take T) hr (da_cons (dv 0) (da_cons (dlen T.b_len (da_cons (dv 8) da_nil)) da_nil)))) (da_cons (dcall0 (ok__law_bad_spans T) hr) da_nil)))
    (db_cons (ds_asg 6 S.nd (dix (dv 10) (dcall tkF (ok__law_take T) hr (da_cons (dv 0) (da_cons (dlen T.b_len (da_cons (dv 10) da_nil)) da_nil)))))
    (db_cons (ds_if (dt_not (dt (dcall tkF (ok__law_same T) hr (da_cons (dcall tkF (ok__law_ask_side T) hr (da_cons (dv 1) (da_cons (dv 9) (da_cons (dv 6) da_nil)))) (da_cons (dtup (da_cons dstr (da_cons (dneg dint) (da_cons dstr da_nil)))) da_nil))))) (db_one (ds_ret dbl)) db_nil)
    (db_cons (ds_if (dt_not (dt (dcall tkF (ok__law_same T) hr (da_cons (dcall tkF (ok__law_ask_side T) hr (da_cons (dv 1) (da_cons (dv 9) (da_cons (dv 3) da_nil)))) (da_cons (dtup (da_cons dstr (da_cons (dneg dint) (da_cons dstr da_nil)))) da_nil))))) (db_one (ds_ret dbl)) db_nil)
    (db_one (ds_ret (dcall tkF (ok__law_same T) hr (da_cons (dcall tkF (ok__law_ask_side T) hr (da_cons (dv 1) (da_cons (dsub (dv 4) dint) (da_cons (dv 6) da_nil)))) (da_cons (dtup (da_cons dstr (da_cons (dneg dint) (da_cons dstr da_nil)))) da_nil))))))))))))))))
theorem bk_corners_of_box : BindKw "corners_of" (sd 44) ["box"] ["box"] [0] := fun _ _ _ _ _ _ us hl => match us, hl with | [_], _ => rfl
theorem bk_in_box_point_box : BindKw "in_box" (sd 46) ["box", "point"] ["point", "box"] [1, 0] := fun _ _ _ _ _ _ us hl => match us, hl with | [_, _], _ => rfl
theorem bk_point_box_point : BindKw "point_box" (sd 49) ["point"] ["point"] [0] := fun _ _ _ _ _ _ us hl => match us, hl with | [_], _ => rfl
theorem bk_wide_sides_box : BindKw "wide_sides" (sd 45) ["box"] ["box"] [0] := fun _ _ _ _ _ _ us hl => match us, hl with | [_], _ => rfl
theorem bk_with_side_span_which_box : BindKw "with_side" (sd 47) ["box", "which", "span"] ["span", "which", "box"] [2, 1, 0] := fun _ _ _ _ _ _ us hl => match us, hl with | [_, _, _], _ => rfl
theorem sc__law_boxes : FnScope N__law_boxes ["_law_row_here"] (defScope (sd 75)) := ⟨rfl, rfl, rfl, by decide, rfl, by decide +kernel, by decide +kernel⟩
theorem ok__law_boxes (T : TxtB K mg base) : Pok P w K mg base 11 "_law_boxes" (sd 75) ["_law_row_here"] F__law_boxes := by
  exact pok (N := N__law_boxes) T.d__law_boxes sc__law_boxes (fun _ _ _ _ _ _ us hl => match us, hl with | [_], _ => rfl) fun f cdv A outer s H E hr =>
    have S := sc__law_boxes
    (db_cons (ds_asg 1 S.nd (dadd (c := false) dint (dcall tkF (ok__law_take T) hr (da_cons (dv 0) (da_cons dint da_nil)))))
    (db_cons (ds_if (teq (hu64 hr) (dcall tkF (ok__law_take T) hr (da_cons (dv 0) (da_cons dint da_nil))) dint) (db_one (ds_asg 1 S.nd dint)) db_nil)
    (db_cons (ds_asg 2 S.nd (dtuple T.b_tuple (da_cons (dlc false [("_law_which", 3)] rfl S.nd (di_range1 T.b_range (da_cons (dv 1) da_nil)) (blkOk_by (own := [("_law_which", 3)]) (N := N__law_boxes) (sc := defScope (sd 75)) (by decide +kernel)) (tgV_b (i := 3) (by decide)) (fun _ _ _ _ _ => (pg_name (i := 3) S.nd rfl (by first | exact Or.inl rfl | exact Or.inr rfl))) (fun _ _ _ _ _ => dts_nil) (fun _ _ _ _ _ => (dcall takes0 (ok__law_span T) hr (da_cons (dv 0) da_nil)))) da_nil)))
    (db_cons (ds_asg 4 S.nd (dtuple T.b_tuple (da_cons (dcall tkF (ok__law_corners T) hr (da_cons (dv 2) da_nil)) da_nil)))
    (db_cons (ds_if (dt_w (dw_or (dt_not (dt (dcall tkF (ok__law_same T) hr (da_cons (dtuple T.b_tuple (da_cons (dlistG false T.b_list (ok_corners_of T) hr (da_cons (dv 2) da_nil)) da_nil)) (da_cons (dv 4) da_nil))))) (dw_or1 (dt_not (dt (dcall tkF (ok__law_same T) hr (da_cons (dtuple T.b_tuple (da_cons (dlistGk false ["box"] [0] T.b_list (ok_corners_of T) hr bk_corners_of_box (dk_cons (dv 2) dk_nil)) da_nil)) (da_cons (dv 4) da_nil)))))))) (db_one (ds_ret dbl)) db_nil)
    (db_cons (ds_asg 5 S.nd (dtuple T.b_tuple (da_cons (dlc false [("_law_which", 3)] rfl S.nd (di_range1 T.b_range (da_cons (dv 1) da_nil)) (blkOk_by (own := [("_law_which", 3)]) (N := N__law_boxes) (sc := defScope (sd 75)) (by decide +kernel)) (tgV_b (i := 3) (by decide)) (fun _ _ _ _ _ => (pg_name (i := 3) S.nd rfl (by first | exact Or.inl rfl | exact Or.inr rfl))) (fun _ _ _ _ _ => (dts_one (tne (hu64 hr) (dix (dix (dv 2) (dv 3)) dint) (dix (dix (dv 2) (dv 3)) dint)))) (fun _ _ _ _ _ => (dv 3))) da_nil)))
    (db_cons (ds_if (dt_not (dt (dcall tkF (ok__law_same T) hr (da_cons (dcall tkF (ok_wide_sides T) hr (da_cons (dv 2) da_nil)) (da_cons (dv 5) da_nil))))) (db_one (ds_ret dbl)) db_nil)
    (db_cons (ds_for ppF rfl (di_range1 T.b_range (da_cons dint da_nil)) (pg_name (i := 6) S.nd rfl (by first | exact Or.inl rfl | exact Or.inr rfl)) tgV_ok (db_cons (ds_asg 7 S.nd (dtuple T.b_tuple (da_cons (dlc false [("_law_side", 8)] rfl S.nd (di_seq (dv 2)) (blkOk_by (own := [("_law_side", 8)]) (N := N__law_boxes) (sc := defScope (sd 75)) (by decide +kernel)) (tgV_b (i := 8) (by decide)) (fun _ _ _ _ _ => (pg_name (i := 8) S.nd rfl (by first | exact Or.inl rfl | exact Or.inr rfl))) (fun _ _ _ _ _ => dts_nil) (fun _ _ _ _ _ => (dcall takes0 (ok__law_near T) hr (da_cons (dv 0) (da_cons (dv 8) da_nil))))) da_nil)))
    (db_cons (ds_asg 9 S.nd (deq (hu64 hr) (dlen T.b_len (da_cons (dlc false [("_law_which", 3)] rfl S.nd (di_range1 T.b_range (da_cons (dv 1) da_nil)) (blkOk_by (own := [("_law_which", 3)]) (N := N__law_boxes) (sc := defScope (sd 75)) (by decide +kernel)) (tgV_b (i := 3) (by decide)) (fun _ _ _ _ _ => (pg_name (i := 3) S.nd rfl (by first | exact Or.inl rfl | exact Or.inr rfl))) (fun _ _ _ _ _ => (dts_one (dt_not (dt (dcall takes0 (ok__law_held T) hr (da_cons (dix (dv 2) (dv 3)) (da_cons (dix (dv 7) (dv 3)) da_nil))))))) (fun _ _ _ _ _ => (dv 3))) da_nil)) dint))
    (db_cons (ds_if (dt_not (dt (dcall tkF (ok__law_truth T) hr (da_cons (dcall tkF (ok__law_ask T) hr (da_cons dstr (da_cons (dv 2) (da_cons (dv 7) da_nil)))) (da_cons (dv 9) da_nil))))) (db_one (ds_ret dbl)) db_nil)
    (db_cons (ds_if (dt_not (dt (dcall tkF (ok__law_same T) hr (da_cons (dcall tkF (ok__law_ask T) hr (da_cons dstr (da_cons (dv 7) (da_cons dint da_nil)))) (da_cons (dtuple T.b_tuple (da_cons (dlc false [("_law_entry", 10)] rfl S.nd (di_seq (dv 7)) (blkOk_by (own := [("_law_entry", 10)]) (N := N__law_boxes) (sc := defScope (sd 75)) (by decide +kernel)) (tgV_b (i := 10) (by decide)) (fun _ _ _ _ _ => (pg_name (i := 10) S.nd rfl (by first | exact Or.inl rfl | exact Or.inr rfl))) (fun _ _ _ _ _ => dts_nil) (fun _ _ _ _ _ => (dtup (da_cons (dv 10) (da_cons (dv 10) da_nil))))) da_nil)) da_nil))))) (db_one (ds_ret dbl)) db_nil)
    (db_cons (ds_par 3 11 rfl S.nd (da_cons (dcall tkF (ok__law_take T) hr (da_cons (dv 0) (da_cons (dv 1) da_nil))) (da_cons (dcall tkF (ok__law_span T) hr (da_cons (dv 0) da_nil)) da_nil)))
    (db_cons (ds_asg 4 S.nd (dadd (c := false) (dadd (c := false) (dsl (c := false) (dv 2) do_none (do_some (dv 3))) (dtup (da_cons (dv 11) da_nil))) (dsl (c := false) (dv 2) (do_some (dadd (c := false) (dv 3) dint)) do_none)))
    (db_one (ds_if (dt_not (dt (dcall tkF (ok__law_same T) hr (da_cons (dcall tkF (ok__law_ask_side T) hr (da_cons (dv 2) (da_cons (dv 3) (da_cons (dv 11) da_nil)))) (da_cons (dv 4) da_nil))))) (db_one (ds_ret dbl)) db_nil)))))))))
    (db_cons (ds_if (dt_w (dw_or (dt_not (dt (dcall tkF (ok__law_same T) hr (da_cons (dcallk ["span", "which", "box"] [2, 1, 0] tkF (ok_with_side T) hr bk_with_side_span_which_box (dk_cons (dv 11) (dk_cons (dv 3) (dk_cons (dv 2) dk_nil)))) (da_cons (dv 4) da_nil))))) (dw_or1 (dt_not (dt (dcall tkF (ok__law_same T) hr (da_cons (dcallk ["box"] [0] tkF (ok_wide_sides T) hr bk_wide_sides_box (dk_cons (dv 2) dk_nil)) (da_cons (dv 5) da_nil)))))))) (db_one (ds_ret dbl)) db_nil)
    (db_cons (ds_if (dt_not (dt (dcall tkF (ok__law_same T) hr (da_cons (dcallk ["point"] [0] tkF (ok_point_box T) hr bk_point_box_point (dk_cons (dv 7) dk_nil)) (da_cons (dtuple T.b_tuple (da_cons (dlc false [("_law_entry", 10)] rfl S.nd (di_seq (dv 7)) (blkOk_by (own := [("_law_entry", 10)]) (N := N__law_boxes) (sc := defScope (sd 75)) (by decide +kernel)) (tgV_b (i := 10) (by decide)) (fun _ _ _ _ _ => (pg_name (i := 10) S.nd rfl (by first | exact Or.inl rfl | exact Or.inr rfl))) (fun _ _ _ _ _ => dts_nil) (fun _ _ _ _ _ => (dtup (da_cons (dv 10) (da_cons (dv 10) da_nil))))) da_nil)) da_nil))))) (db_one (ds_ret dbl)) db_nil)
    (db_one (ds_ret (dandv (dcall tkF (ok__law_truth T) hr (da_cons (dcallk ["point", "box"] [1, 0] tkF (ok_in_box T) hr bk_in_box_point_box (dk_cons (dv 7) (dk_cons (dv 2) dk_nil))) (da_cons (dv 9) da_nil))) (done1 (dcall tkF (ok__law_bad_boxes T) hr (da_cons (dv 0) (da_cons (dv 2) (da_cons (dv 7) (da_cons (dv 11) da_nil)))))))))))))))))))
theorem sc__law_refused : FnScope N__law_refused ["_law_row_here"] (defScope (sd 78)) := ⟨rfl, rfl, rfl, by decide, rfl, by decide +kernel, by decide +kernel⟩
theorem ok__law_refused (T : TxtB K mg base) : Pok P w K mg base 9 "_law_refused" (sd 78) ["_law_row_here"] F__law_refused := by
  exact pok (N := N__law_refused) T.d__law_refused sc__law_refused (fun _ _ _ _ _ _ us hl => match us, hl with | [_], _ => rfl) fun f cdv A outer s H E hr =>
    have S := sc__law_refused
    (db_cons (ds_par3 1 2 3 rfl S.nd (da_cons (dcall tkF (ok__law_quotient T) hr (da_cons (dv 0) da_nil)) (da_cons (dcall tkF (ok__law_span T) hr (da_cons (dv 0) da_nil)) (da_cons (dcall0 (ok__law_bad_spans T) hr) da_nil))))
    (db_cons (ds_asg 4 S.nd (dtup (da_cons dnon (da_cons dbl (da_cons dint (da_cons dstr (da_cons (dlst (c := false) (da_cons dint (da_cons dint da_nil))) (da_cons (dtup (da_cons dint da_nil)) (da_cons (dtup (da_cons dint (da_cons dint (da_cons dint da_nil)))) (da_cons (dtup (da_cons dint (da_cons dint da_nil))) (da_cons (dtup (da_cons dint (da_cons dint da_nil))) (da_cons (dtup (da_cons dint (da_cons (dneg dint) da_nil))) (da_cons (dtup (da_cons dbl (da_cons dint da_nil))) (da_cons (dtup (da_cons dint (da_cons dbl da_nil))) (da_cons (dtup (da_cons dint (da_cons dint da_nil))) (da_cons (dtup (da_cons dint (da_cons (dneg dint) da_nil))) (da_cons (dtup da_nil) (da_cons (dtup (da_cons (dtup (da_cons dint (da_cons dint da_nil))) (da_cons (dtup (da_cons dint (da_cons dint da_nil))) da_nil))) (da_cons dint (da_cons (dtup (da_cons dint (da_cons dint da_nil))) da_nil))))))))))))))))))))
    (db_cons (ds_asg 5 S.nd (dix (dv 4) (dcall tkF (ok__law_take T) hr (da_cons (dv 0) (da_cons (dlen T.b_len (da_cons (dv 4) da_nil)) da_nil)))))
    (db_cons (ds_for ppF rfl (di_seq (dtup (da_cons dstr (da_cons dstr (da_cons dstr (da_cons dstr (da_cons dstr da_nil))))))) (pg_name (i := 6) S.nd rfl (by first | exact Or.inl rfl | exact Or.inr rfl)) tgV_ok (db_one (ds_if (dt_not (dt (dcall tkF (ok__law_same T) hr (da_cons (dcall tkF (ok__law_ask T) hr (da_cons (dv 6) (da_cons (dv 1) (da_cons (dv 5) da_nil)))) (da_cons (dtup (da_cons dstr (da_cons (dneg dint) (da_cons dstr da_nil)))) da_nil))))) (db_one (ds_ret dbl)) db_nil)))
    (db_cons (ds_if (dt_not (dt (dcall tkF (ok__law_same T) hr (da_cons (dcall tkF (ok__law_ask T) hr (da_cons dstr (da_cons (dv 1) (da_cons (dtup (da_cons dint (da_cons dint da_nil))) da_nil)))) (da_cons (dtup (da_cons dstr (da_cons (dneg dint) (da_cons dstr da_nil)))) da_nil))))) (db_one (ds_ret dbl)) db_nil)
    (db_cons (ds_for ppF rfl (di_seq (dtup (da_cons dstr (da_cons dstr da_nil)))) (pg_name (i := 6) S.nd rfl (by first | exact Or.inl rfl | exact Or.inr rfl)) tgV_ok (db_one (ds_if (dt_not (dt (dcall tkF (ok__law_same T) hr (da_cons (dcall tkF (ok__law_ask_span T) hr (da_cons (dv 6) (da_cons (dv 2) (da_cons (dv 5) da_nil)))) (da_cons (dtup (da_cons dstr (da_cons (dneg dint) (da_cons dstr da_nil)))) da_nil))))) (db_one (ds_ret dbl)) db_nil)))
    (db_cons (ds_asg 5 S.nd (dix (dv 3) (dcall tkF (ok__law_take T) hr (da_cons (dv 0) (da_cons (dlen T.b_len (da_cons (dv 3) da_nil)) da_nil)))))
    (db_cons (ds_for ppF rfl (di_seq (dtup (da_cons dstr (da_cons dstr (da_cons dstr (da_cons dstr (da_cons dstr da_nil))))))) (pg_name (i := 6) S.nd rfl (by first | exact Or.inl rfl | exact Or.inr rfl)) tgV_ok (db_one (ds_if (dt_not (dt (dcall tkF (ok__law_same T) hr (da_cons (dcall tkF (ok__law_ask_span T) hr (da_cons (dv 6) (da_cons (dv 2) (da_cons (dv 5) da_nil)))) (da_cons (dtup (da_cons dstr (da_cons (dneg dint) (da_cons dstr da_nil)))) da_nil))))) (db_one (ds_ret dbl)) db_nil)))
    (db_cons (ds_par 7 8 rfl S.nd (da_cons (dtup (da_cons dnon (da_cons dbl (da_cons dstr (da_cons (dtup (da_cons dint (da_cons dint da_nil))) (da_cons (dlst (c := false) (da_cons dint da_nil)) (da_cons dbl (da_cons dstr da_nil)))))))) (da_cons (dtup (da_cons dint (da_cons dnon (da_cons dbl (da_cons dstr (da_cons (dtup (da_cons dint (da_cons dint da_nil))) (da_cons dbl (da_cons (dlst (c := false) da_nil) da_nil)))))))) da_nil)))
    (db_cons (ds_par 9 10 rfl S.nd (da_cons (dix (dv 7) (dcall tkF (ok__law_take T) hr (da_cons (dv 0) (da_cons (dlen T.b_len (da_cons (dv 7) da_nil)) da_nil)))) (da_cons (dix (dv 8) (dcall tkF (ok__law_take T) hr (da_cons (dv 0) (da_cons (dlen T.b_len (da_cons (dv 8) da_nil)) da_nil)))) da_nil)))
    (db_cons (ds_if (dt_not (dt (dcall tkF (ok__law_same T) hr (da_cons (dcall tkF (ok__law_ask T) hr (da_cons dstr (da_cons (dv 9) (da_cons (dv 10) da_nil)))) (da_cons (dtup (da_cons dstr (da_cons (dneg dint) (da_cons dstr da_nil)))) da_nil))))) (db_one (ds_ret dbl)) db_nil)
    (db_cons (ds_if (dt_not (dt (dcall tkF (ok__law_same T) hr (da_cons (dcall tkF (ok__law_ask T) hr (da_cons dstr (da_cons (dv 9) (da_cons (dix (dv 1) dint) da_nil)))) (da_cons (dtup (da_cons dstr (da_cons (dneg dint) (da_cons dstr da_nil)))) da_nil))))) (db_one (ds_ret dbl)) db_nil)
    (db_one (ds_ret (dcall tkF (ok__law_same T) hr (da_cons (dcall tkF (ok__law_ask T) hr (da_cons dstr (da_cons (dix (dv 1) dint) (da_cons (dv 10) da_nil)))) (da_cons (dtup (da_cons dstr (da_cons (dneg dint) (da_cons dstr da_nil)))) da_nil)))))))))))))))))
theorem sc_law : FnScope N_law ["_law_script"] (defScope (sd 79)) := ⟨rfl, rfl, rfl, by decide, rfl, by decide +kernel, by decide +kernel⟩
theorem ok_law (T : TxtB K mg base) : Pok P w K mg base 12 "law" (sd 79) ["_law_script"] F_law := by
  exact pok (N := N_law) T.d_law sc_law (fun _ _ _ _ _ _ us hl => match us, hl with | [_], _ => rfl) fun f cdv A outer s H E hr =>
    have S := sc_law
    (db_cons (ds_asg 1 S.nd (dcall tkF (ok__law_row T) hr (da_cons (dv 0) da_nil)))
    (db_cons (ds_if (dt_w (dw_or (dt_not (dt (dcall tkF (ok__law_quotients T) hr (da_cons (dv 1) da_nil)))) (dw_or1 (dt_not (dt (dcall tkF (ok__law_spans T) hr (da_cons (dv 1) da_nil))))))) (db_one (ds_ret dbl)) db_nil)
    (db_one (ds_ret (dandv (dcall tkF (ok__law_boxes T) hr (da_cons (dv 1) da_nil)) (done1 (dcall tkF (ok__law_refused T) hr (da_cons (dv 1) da_nil))))))))
end
end K00
end Sv
set_option Elab.async false
set_option linter.all false
set_option maxRecDepth 100000
set_option maxHeartbeats 4000000
namespace Sv
open PySem PySem.Spec PyProof.Rows L2
namespace K00
variable {st : S}
def isInt : D → Bool
  | .int _ => true
  | _ => false
theorem p_is_integer {d : D} (h : ∀ n, d ≠ .ty n) : F_is_integer [d] st = .ok (.bl (isInt d)) st := by
  cases d with
  | ty n => exact absurd rfl (h n)
  | _ => simp -implicitDefEqProofs only [ap_fnF, ap_seq, ap_skip, ap_if, ap_ret, ap_asg, ap_asg2, ap_drop, ap_par, ap_par3, ap_unp, ap_for, ap_forL, ap_var, ap_c, ap_bin, ap_un, ap_nil, ap_cons, ap_call, ap_def, ap_tr, ap_not, ap_and, ap_or, ap_andv, ap_orv, ap_ife, ap_of, ap_mul, ap_div, ap_mod, ap_sub, ap_addi, ap_lt, ap_le, ap_gt, ap_ge, ap_eqi, ap_nei, ap_eqs, ap_neg, ap_tup, ap_truth, ap_bits, startD, List.map, List.length, List.replicate, Nat.reduceSub, Nat.reduceAdd, Nat.reduceLeDiff, List.nil_append, List.cons_append, List.append_nil, List.set, List.getElem?_cons_zero, List.getElem?_cons_succ, List.getElem?_nil, setAll, fIsi, isi, tyN, fNot, fLen, fGcd, fAbs, fInt, fMax2, eq_self, if_true, if_false, reduceIte, id_eq, decide_true, decide_false, Bool.false_eq_true, Bool.true_eq_false, Bool.not_true, Bool.not_false, Bool.true_or, Bool.false_or, Bool.or_true, Bool.or_false,F_is_integer, g_is_integer, isInt] <;> simp
def isPair : D → Bool
  | .tup [_, _] => true
  | _ => false
theorem p_is_pair {d : D} (h : ∀ n, d ≠ .ty n) : F_is_pair [d] st = .ok (.bl (isPair d)) st := by
  cases d with
  | ty n => exact absurd rfl (h n)
  | tup ds =>
    rcases ds with _ | ⟨a, _ | ⟨b, _ | ⟨c, t⟩⟩⟩ <;> simp -implicitDefEqProofs only [ap_fnF, ap_seq, ap_skip, ap_if, ap_ret, ap_asg, ap_asg2, ap_drop, ap_par, ap_par3, ap_unp, ap_for, ap_forL, ap_var, ap_c, ap_bin, ap_un, ap_nil, ap_cons, ap_call, ap_def, ap_tr, ap_not, ap_and, ap_or, ap_andv, ap_orv, ap_ife, ap_of, ap_mul, ap_div, ap_mod, ap_sub, ap_addi, ap_lt, ap_le, ap_gt, ap_ge, ap_eqi, ap_nei, ap_eqs, ap_neg, ap_tup, ap_truth, ap_bits, startD, List.map, List.length, List.replicate, Nat.reduceSub, Nat.reduceAdd, Nat.reduceLeDiff, List.nil_append, List.cons_append, List.append_nil, List.set, List.getElem?_cons_zero, List.getElem?_cons_succ, List.getElem?_nil, setAll, fIsi, isi, tyN, fNot, fLen, fGcd, fAbs, fInt, fMax2, eq_self, if_true, if_false, reduceIte, id_eq, decide_true, decide_false, Bool.false_eq_true, Bool.true_eq_false, Bool.not_true, Bool.not_false, Bool.true_or, Bool.false_or, Bool.or_true, Bool.or_false,F_is_pair, g_is_pair, isPair, seqOf] <;> simp
    omega
  | _ => simp -implicitDefEqProofs only [ap_fnF, ap_seq, ap_skip, ap_if, ap_ret, ap_asg, ap_asg2, ap_drop, ap_par, ap_par3, ap_unp, ap_for, ap_forL, ap_var, ap_c, ap_bin, ap_un, ap_nil, ap_cons, ap_call, ap_def, ap_tr, ap_not, ap_and, ap_or, ap_andv, ap_orv, ap_ife, ap_of, ap_mul, ap_div, ap_mod, ap_sub, ap_addi, ap_lt, ap_le, ap_gt, ap_ge, ap_eqi, ap_nei, ap_eqs, ap_neg, ap_tup, ap_truth, ap_bits, startD, List.map, List.length, List.replicate, Nat.reduceSub, Nat.reduceAdd, Nat.reduceLeDiff, List.nil_append, List.cons_append, List.append_nil, List.set, List.getElem?_cons_zero, List.getElem?_cons_succ, List.getElem?_nil, setAll, fIsi, isi, tyN, fNot, fLen, fGcd, fAbs, fInt, fMax2, eq_self, if_true, if_false, reduceIte, id_eq, decide_true, decide_false, Bool.false_eq_true, Bool.true_eq_false, Bool.not_true, Bool.not_false, Bool.true_or, Bool.false_or, Bool.or_true, Bool.or_false,F_is_pair, g_is_pair, isPair] <;> simp
/-! ### numbers -/
abbrev Qt := Int × Int
def dq (q : Qt) : D := .tup [.int q.1, .int q.2]
def sgn (b : Int) (g : Int) : Int := if b < 0 then -g else g
def redQ (a b : Int) : Qt := (a.fdiv (sgn b (Int.gcd a b)), b.fdiv (sgn b (Int.gcd a b)))
theorem sgn_dvd {a b : Int} : sgn b (Int.gcd a b) ∣ a ∧ sgn b (Int.gcd a b) ∣ b := by
  unfold sgn
  split
  · exact ⟨Int.neg_dvd.mpr (Int.gcd_dvd_left ..), Int.neg_dvd.mpr (Int.gcd_dvd_right ..)⟩
  · exact ⟨Int.gcd_dvd_left .., Int.gcd_dvd_right ..⟩
theorem sgn_ne {a b : Int} (hb : b ≠ 0) : sgn b (Int.gcd a b) ≠ 0 := by
  have h : (Int.gcd a b : Int) ≠ 0 := by
    intro z
    have z2 := Int.gcd_eq_zero_iff.mp (Int.ofNat.inj z)
    exact hb z2.2
  unfold sgn
  split <;> omega
theorem sgn_le {a b : Int} (hb : b ≠ 0) : (sgn b (Int.gcd a b)).natAbs ≤ b.natAbs := Nat.le_of_dvd (by omega) (Int.natAbs_dvd_natAbs.mpr sgn_dvd.2)
theorem p_reduced {a b : Int} (hb : b ≠ 0) (hB : b.natAbs < BIG) : F_reduced [.int a, .int b] st = .ok (dq (redQ a b)) st := by
  have hd : ∀ x : Int, DivC x (sgn b (Int.gcd a b)) := fun x => ⟨sgn_ne hb, Nat.lt_of_le_of_lt (sgn_le hb) hB⟩
  have e : ((a.natAbs.gcd b.natAbs : Nat) : Int) = (Int.gcd a b : Int) := rfl
  by_cases h : b < 0
  · have hs : sgn b (Int.gcd a b) = -(Int.gcd a b : Int) := if_pos h
    rw [hs] at hd
    simp -implicitDefEqProofs only [ap_fnF, ap_seq, ap_skip, ap_if, ap_ret, ap_asg, ap_asg2, ap_drop, ap_par, ap_par3, ap_unp, ap_for, ap_forL, ap_var, ap_c, ap_bin, ap_un, ap_nil, ap_cons, ap_call, ap_def, ap_tr, ap_not, ap_and, ap_or, ap_andv, ap_orv, ap_ife, ap_of, ap_mul, ap_div, ap_mod, ap_sub, ap_addi, ap_lt, ap_le, ap_gt, ap_ge, ap_eqi, ap_nei, ap_eqs, ap_neg, ap_tup, ap_truth, ap_bits, startD, List.map, List.length, List.replicate, Nat.reduceSub, Nat.reduceAdd, Nat.reduceLeDiff, List.nil_append, List.cons_append, List.append_nil, List.set, List.getElem?_cons_zero, List.getElem?_cons_succ, List.getElem?_nil, setAll, fIsi, isi, tyN, fNot, fLen, fGcd, fAbs, fInt, fMax2, eq_self, if_true, if_false, reduceIte, id_eq, decide_true, decide_false, Bool.false_eq_true, Bool.true_eq_false, Bool.not_true, Bool.not_false, Bool.true_or, Bool.false_or, Bool.or_true, Bool.or_false,F_reduced, g_reduced, e, h, decide_true]
    simp [hd, dq, redQ, hs]
  · have hs : sgn b (Int.gcd a b) = (Int.gcd a b : Int) := if_neg h
    rw [hs] at hd
    simp -implicitDefEqProofs only [ap_fnF, ap_seq, ap_skip, ap_if, ap_ret, ap_asg, ap_asg2, ap_drop, ap_par, ap_par3, ap_unp, ap_for, ap_forL, ap_var, ap_c, ap_bin, ap_un, ap_nil, ap_cons, ap_call, ap_def, ap_tr, ap_not, ap_and, ap_or, ap_andv, ap_orv, ap_ife, ap_of, ap_mul, ap_div, ap_mod, ap_sub, ap_addi, ap_lt, ap_le, ap_gt, ap_ge, ap_eqi, ap_nei, ap_eqs, ap_neg, ap_tup, ap_truth, ap_bits, startD, List.map, List.length, List.replicate, Nat.reduceSub, Nat.reduceAdd, Nat.reduceLeDiff, List.nil_append, List.cons_append, List.append_nil, List.set, List.getElem?_cons_zero, List.getElem?_cons_succ, List.getElem?_nil, setAll, fIsi, isi, tyN, fNot, fLen, fGcd, fAbs, fInt, fMax2, eq_self, if_true, if_false, reduceIte, id_eq, decide_true, decide_false, Bool.false_eq_true, Bool.true_eq_false, Bool.not_true, Bool.not_false, Bool.true_or, Bool.false_or, Bool.or_true, Bool.or_false,F_reduced, g_reduced, e, h, decide_false, Bool.false_eq_true]
    simp [hd, dq, redQ, hs]
/-- in lowest terms -/
def Low (q : Qt) : Prop := 1 ≤ q.2 ∧ Int.gcd q.1 q.2 = 1
theorem redQ_low {a b : Int} (hb : b ≠ 0) : Low (redQ a b) ∧ (redQ a b).1 * b = a * (redQ a b).2 := by
  obtain ⟨⟨x, hx⟩, ⟨y, hy⟩⟩ := sgn_dvd (a := a) (b := b)
  have hn := sgn_ne (a := a) hb
  have e1 : (redQ a b).1 = x := by
    unfold redQ
    dsimp only
    conv => lhs; arg 1; rw [hx]
    exact Int.mul_fdiv_cancel_left x hn
  have e2 : (redQ a b).2 = y := by
    unfold redQ
    dsimp only
    conv => lhs; arg 1; rw [hy]
    exact Int.mul_fdiv_cancel_left y hn
  have hg : (sgn b (Int.gcd a b)).natAbs = Int.gcd a b := by
    unfold sgn
    split <;> simp
  refine ⟨⟨?_, ?_⟩, ?_⟩
  · rw [e2]
    have pos : 0 < Int.gcd a b := Nat.pos_of_ne_zero fun z => hn (by rw [z]; unfold sgn; simp)
    unfold sgn at hy
    split at hy
    · rename_i hneg
      have h1 : 0 < (Int.gcd a b : Int) * y := by
        have : -(Int.gcd a b : Int) * y = -((Int.gcd a b : Int) * y) := Int.neg_mul _ _
        omega
      by_cases z : 0 < y
      · omega
      · have := Int.mul_nonpos_of_nonneg_of_nonpos (Int.natCast_nonneg (Int.gcd a b)) (show y ≤ 0 by omega)
        omega
    · have h1 : 0 < (Int.gcd a b : Int) * y := by omega
      have h2 : 0 < y := by
        by_cases z : 0 < y
        · exact z
        · have := Int.mul_nonpos_of_nonneg_of_nonpos (Int.natCast_nonneg (Int.gcd a b)) (show y ≤ 0 by omega)
          omega
      omega
  · rw [e1, e2]
    have h1 : Int.gcd a b = (sgn b (Int.gcd a b)).natAbs * Int.gcd x y := by
      have z := Int.gcd_mul_left (sgn b (Int.gcd a b)) x y
      rw [← hx, ← hy] at z
      exact z
    rw [hg] at h1
    have pos : 0 < Int.gcd a b := Nat.pos_of_ne_zero fun z => hn (by rw [z]; unfold sgn; simp)
    exact Nat.eq_of_mul_eq_mul_left pos (by omega)
  · rw [e1, e2]
    conv => lhs; rw [hy]
    conv => rhs; rw [hx]
    rw [Int.mul_comm x, Int.mul_assoc, Int.mul_assoc, Int.mul_comm x y]
/-! ### sums and products of quotients -/
theorem ix0 {q : Qt} : fIx (dq q) (.int 0) st = .ok (.int q.1) st := rfl
theorem ix1 {q : Qt} : fIx (dq q) (.int 1) st = .ok (.int q.2) st := rfl
theorem add_int {c : Bool} {i j : Int} : fAdd c (.int i) (.int j) st = .ok (.int (i + j)) st := rfl
def W (n : Nat) (q : Qt) : Prop := q.1.natAbs < 2 ^ n ∧ q.2.natAbs < 2 ^ n
theorem W.mono {n m : Nat} {q : Qt} (h : W n q) (hm : n ≤ m) : W m q := ⟨Nat.lt_of_lt_of_le h.1 (Nat.pow_le_pow_right (by decide) hm), Nat.lt_of_lt_of_le h.2 (Nat.pow_le_pow_right (by decide) hm)⟩
theorem lt_big {i : Int} {n : Nat} (h : i.natAbs < 2 ^ n) (hn : n ≤ 8000) : i.natAbs < BIG := Nat.lt_of_lt_of_le h (Nat.pow_le_pow_right (by decide) hn)
theorem mulc {i j : Int} {n m : Nat} (h : i.natAbs < 2 ^ n) (k : j.natAbs < 2 ^ m) (hn : n ≤ 8000) (hm : m ≤ 8000) : MulC i j := Or.inr ⟨lt_big h hn, lt_big k hm⟩
theorem mul_lt {i j : Int} {n m : Nat} (h : i.natAbs < 2 ^ n) (k : j.natAbs < 2 ^ m) : (i * j).natAbs < 2 ^ (n + m) := by
  rw [Int.natAbs_mul, Nat.pow_add]
  exact Nat.mul_lt_mul_of_lt_of_lt h k
theorem add_lt {i j : Int} {n : Nat} (h : i.natAbs < 2 ^ n) (k : j.natAbs < 2 ^ n) : (i + j).natAbs < 2 ^ (n + 1) := by
  rw [Nat.pow_succ]
  omega
/-- the values of the reckoning, by cross products -/
def addQ (x y : Qt) : Qt := if x.2 = 1 ∧ y.2 = 1 then (x.1 + y.1, 1) else redQ (x.1 * y.2 + y.1 * x.2) (x.2 * y.2)
def negQ (x : Qt) : Qt := (-x.1, x.2)
def mulQ (x y : Qt) : Qt := if x.2 = 1 ∧ y.2 = 1 then (x.1 * y.1, 1) else redQ (x.1 * y.1) (x.2 * y.2)
def divQ (x y : Qt) : Qt := redQ (x.1 * y.2) (x.2 * y.1)
def ltQ (x y : Qt) : Bool := decide (x.1 * y.2 < y.1 * x.2)
theorem pos_ne {x y : Int} (h : 1 ≤ x) (k : 1 ≤ y) : x * y ≠ 0 := by
  have := Int.mul_pos (show 0 < x by omega) (show 0 < y by omega)
  omega
theorem p_added {x y : Qt} (hx : W 3000 x) (hy : W 3000 y) (px : 1 ≤ x.2) (py : 1 ≤ y.2) : F_added [dq x, dq y] st = .ok (dq (addQ x y)) st := by
  have m1 := mulc hx.1 hy.2 (by decide) (by decide)
  have m2 := mulc hy.1 hx.2 (by decide) (by decide)
  have m3 := mulc hx.2 hy.2 (by decide) (by decide)
  have r := p_reduced (st := st) (a := x.1 * y.2 + y.1 * x.2) (b := x.2 * y.2) (pos_ne px py) (lt_big (mul_lt hx.2 hy.2) (by decide))
  unfold addQ
  by_cases h : x.2 = 1
  · by_cases k : y.2 = 1
    · have hd : decide (x.2 = 1) = true := decide_eq_true h
      have kd : decide (y.2 = 1) = true := decide_eq_true k
      simp -implicitDefEqProofs only [ap_fnF, ap_seq, ap_skip, ap_if, ap_ret, ap_asg, ap_asg2, ap_drop, ap_par, ap_par3, ap_unp, ap_for, ap_forL, ap_var, ap_c, ap_bin, ap_un, ap_nil, ap_cons, ap_call, ap_def, ap_tr, ap_not, ap_and, ap_or, ap_andv, ap_orv, ap_ife, ap_of, ap_mul, ap_div, ap_mod, ap_sub, ap_addi, ap_lt, ap_le, ap_gt, ap_ge, ap_eqi, ap_nei, ap_eqs, ap_neg, ap_tup, ap_truth, ap_bits, startD, List.map, List.length, List.replicate, Nat.reduceSub, Nat.reduceAdd, Nat.reduceLeDiff, List.nil_append, List.cons_append, List.append_nil, List.set, List.getElem?_cons_zero, List.getElem?_cons_succ, List.getElem?_nil, setAll, fIsi, isi, tyN, fNot, fLen, fGcd, fAbs, fInt, fMax2, eq_self, if_true, if_false, reduceIte, id_eq, decide_true, decide_false, Bool.false_eq_true, Bool.true_eq_false, Bool.not_true, Bool.not_false, Bool.true_or, Bool.false_or, Bool.or_true, Bool.or_false,F_added, g_added, ix0, ix1, add_int, hd, kd, m1, m2, m3, r, show ((2 : Nat) ≤ 100000) = True by simp]
      rw [if_pos ⟨h, k⟩]
      rfl
    · have hd : decide (x.2 = 1) = true := decide_eq_true h
      have kd : decide (y.2 = 1) = false := decide_eq_false k
      simp -implicitDefEqProofs only [ap_fnF, ap_seq, ap_skip, ap_if, ap_ret, ap_asg, ap_asg2, ap_drop, ap_par, ap_par3, ap_unp, ap_for, ap_forL, ap_var, ap_c, ap_bin, ap_un, ap_nil, ap_cons, ap_call, ap_def, ap_tr, ap_not, ap_and, ap_or, ap_andv, ap_orv, ap_ife, ap_of, ap_mul, ap_div, ap_mod, ap_sub, ap_addi, ap_lt, ap_le, ap_gt, ap_ge, ap_eqi, ap_nei, ap_eqs, ap_neg, ap_tup, ap_truth, ap_bits, startD, List.map, List.length, List.replicate, Nat.reduceSub, Nat.reduceAdd, Nat.reduceLeDiff, List.nil_append, List.cons_append, List.append_nil, List.set, List.getElem?_cons_zero, List.getElem?_cons_succ, List.getElem?_nil, setAll, fIsi, isi, tyN, fNot, fLen, fGcd, fAbs, fInt, fMax2, eq_self, if_true, if_false, reduceIte, id_eq, decide_true, decide_false, Bool.false_eq_true, Bool.true_eq_false, Bool.not_true, Bool.not_false, Bool.true_or, Bool.false_or, Bool.or_true, Bool.or_false,F_added, g_added, ix0, ix1, add_int, hd, kd, m1, m2, m3, r]
      rw [if_neg fun z => k z.2]
  · have hd : decide (x.2 = 1) = false := decide_eq_false h
    simp -implicitDefEqProofs only [ap_fnF, ap_seq, ap_skip, ap_if, ap_ret, ap_asg, ap_asg2, ap_drop, ap_par, ap_par3, ap_unp, ap_for, ap_forL, ap_var, ap_c, ap_bin, ap_un, ap_nil, ap_cons, ap_call, ap_def, ap_tr, ap_not, ap_and, ap_or, ap_andv, ap_orv, ap_ife, ap_of, ap_mul, ap_div, ap_mod, ap_sub, ap_addi, ap_lt, ap_le, ap_gt, ap_ge, ap_eqi, ap_nei, ap_eqs, ap_neg, ap_tup, ap_truth, ap_bits, startD, List.map, List.length, List.replicate, Nat.reduceSub, Nat.reduceAdd, Nat.reduceLeDiff, List.nil_append, List.cons_append, List.append_nil, List.set, List.getElem?_cons_zero, List.getElem?_cons_succ, List.getElem?_nil, setAll, fIsi, isi, tyN, fNot, fLen, fGcd, fAbs, fInt, fMax2, eq_self, if_true, if_false, reduceIte, id_eq, decide_true, decide_false, Bool.false_eq_true, Bool.true_eq_false, Bool.not_true, Bool.not_false, Bool.true_or, Bool.false_or, Bool.or_true, Bool.or_false,F_added, g_added, ix0, ix1, add_int, hd, m1, m2, m3, r]
    rw [if_neg fun z => h z.1]
theorem p_multiplied {x y : Qt} (hx : W 3000 x) (hy : W 3000 y) (px : 1 ≤ x.2) (py : 1 ≤ y.2) : F_multiplied [dq x, dq y] st = .ok (dq (mulQ x y)) st := by
  have m1 := mulc hx.1 hy.1 (by decide) (by decide)
  have m3 := mulc hx.2 hy.2 (by decide) (by decide)
  have r := p_reduced (st := st) (a := x.1 * y.1) (b := x.2 * y.2) (pos_ne px py) (lt_big (mul_lt hx.2 hy.2) (by decide))
  unfold mulQ
  by_cases h : x.2 = 1
  · by_cases k : y.2 = 1
    · have hd : decide (x.2 = 1) = true := decide_eq_true h
      have kd : decide (y.2 = 1) = true := decide_eq_true k
      simp -implicitDefEqProofs only [ap_fnF, ap_seq, ap_skip, ap_if, ap_ret, ap_asg, ap_asg2, ap_drop, ap_par, ap_par3, ap_unp, ap_for, ap_forL, ap_var, ap_c, ap_bin, ap_un, ap_nil, ap_cons, ap_call, ap_def, ap_tr, ap_not, ap_and, ap_or, ap_andv, ap_orv, ap_ife, ap_of, ap_mul, ap_div, ap_mod, ap_sub, ap_addi, ap_lt, ap_le, ap_gt, ap_ge, ap_eqi, ap_nei, ap_eqs, ap_neg, ap_tup, ap_truth, ap_bits, startD, List.map, List.length, List.replicate, Nat.reduceSub, Nat.reduceAdd, Nat.reduceLeDiff, List.nil_append, List.cons_append, List.append_nil, List.set, List.getElem?_cons_zero, List.getElem?_cons_succ, List.getElem?_nil, setAll, fIsi, isi, tyN, fNot, fLen, fGcd, fAbs, fInt, fMax2, eq_self, if_true, if_false, reduceIte, id_eq, decide_true, decide_false, Bool.false_eq_true, Bool.true_eq_false, Bool.not_true, Bool.not_false, Bool.true_or, Bool.false_or, Bool.or_true, Bool.or_false,F_multiplied, g_multiplied, ix0, ix1, hd, kd, m1, m3, r, show ((2 : Nat) ≤ 100000) = True by simp]
      rw [if_pos ⟨h, k⟩]
      rfl
    · have hd : decide (x.2 = 1) = true := decide_eq_true h
      have kd : decide (y.2 = 1) = false := decide_eq_false k
      simp -implicitDefEqProofs only [ap_fnF, ap_seq, ap_skip, ap_if, ap_ret, ap_asg, ap_asg2, ap_drop, ap_par, ap_par3, ap_unp, ap_for, ap_forL, ap_var, ap_c, ap_bin, ap_un, ap_nil, ap_cons, ap_call, ap_def, ap_tr, ap_not, ap_and, ap_or, ap_andv, ap_orv, ap_ife, ap_of, ap_mul, ap_div, ap_mod, ap_sub, ap_addi, ap_lt, ap_le, ap_gt, ap_ge, ap_eqi, ap_nei, ap_eqs, ap_neg, ap_tup, ap_truth, ap_bits, startD, List.map, List.length, List.replicate, Nat.reduceSub, Nat.reduceAdd, Nat.reduceLeDiff, List.nil_append, List.cons_append, List.append_nil, List.set, List.getElem?_cons_zero, List.getElem?_cons_succ, List.getElem?_nil, setAll, fIsi, isi, tyN, fNot, fLen, fGcd, fAbs, fInt, fMax2, eq_self, if_true, if_false, reduceIte, id_eq, decide_true, decide_false, Bool.false_eq_true, Bool.true_eq_false, Bool.not_true, Bool.not_false, Bool.true_or, Bool.false_or, Bool.or_true, Bool.or_false,F_multiplied, g_multiplied, ix0, ix1, hd, kd, m1, m3, r]
      rw [if_neg fun z => k z.2]
  · have hd : decide (x.2 = 1) = false := decide_eq_false h
    simp -implicitDefEqProofs only [ap_fnF, ap_seq, ap_skip, ap_if, ap_ret, ap_asg, ap_asg2, ap_drop, ap_par, ap_par3, ap_unp, ap_for, ap_forL, ap_var, ap_c, ap_bin, ap_un, ap_nil, ap_cons, ap_call, ap_def, ap_tr, ap_not, ap_and, ap_or, ap_andv, ap_orv, ap_ife, ap_of, ap_mul, ap_div, ap_mod, ap_sub, ap_addi, ap_lt, ap_le, ap_gt, ap_ge, ap_eqi, ap_nei, ap_eqs, ap_neg, ap_tup, ap_truth, ap_bits, startD, List.map, List.length, List.replicate, Nat.reduceSub, Nat.reduceAdd, Nat.reduceLeDiff, List.nil_append, List.cons_append, List.append_nil, List.set, List.getElem?_cons_zero, List.getElem?_cons_succ, List.getElem?_nil, setAll, fIsi, isi, tyN, fNot, fLen, fGcd, fAbs, fInt, fMax2, eq_self, if_true, if_false, reduceIte, id_eq, decide_true, decide_false, Bool.false_eq_true, Bool.true_eq_false, Bool.not_true, Bool.not_false, Bool.true_or, Bool.false_or, Bool.or_true, Bool.or_false,F_multiplied, g_multiplied, ix0, ix1, hd, m1, m3, r]
    rw [if_neg fun z => h z.1]
theorem p_divided {x y : Qt} (hx : W 3000 x) (hy : W 3000 y) (px : 1 ≤ x.2) (py : y.1 ≠ 0) : F_divided [dq x, dq y] st = .ok (dq (divQ x y)) st := by
  have m1 := mulc hx.1 hy.2 (by decide) (by decide)
  have m3 := mulc hx.2 hy.1 (by decide) (by decide)
  have r := p_reduced (st := st) (a := x.1 * y.2) (b := x.2 * y.1) (Int.mul_ne_zero (by omega) py) (lt_big (mul_lt hx.2 hy.1) (by decide))
  simp -implicitDefEqProofs only [ap_fnF, ap_seq, ap_skip, ap_if, ap_ret, ap_asg, ap_asg2, ap_drop, ap_par, ap_par3, ap_unp, ap_for, ap_forL, ap_var, ap_c, ap_bin, ap_un, ap_nil, ap_cons, ap_call, ap_def, ap_tr, ap_not, ap_and, ap_or, ap_andv, ap_orv, ap_ife, ap_of, ap_mul, ap_div, ap_mod, ap_sub, ap_addi, ap_lt, ap_le, ap_gt, ap_ge, ap_eqi, ap_nei, ap_eqs, ap_neg, ap_tup, ap_truth, ap_bits, startD, List.map, List.length, List.replicate, Nat.reduceSub, Nat.reduceAdd, Nat.reduceLeDiff, List.nil_append, List.cons_append, List.append_nil, List.set, List.getElem?_cons_zero, List.getElem?_cons_succ, List.getElem?_nil, setAll, fIsi, isi, tyN, fNot, fLen, fGcd, fAbs, fInt, fMax2, eq_self, if_true, if_false, reduceIte, id_eq, decide_true, decide_false, Bool.false_eq_true, Bool.true_eq_false, Bool.not_true, Bool.not_false, Bool.true_or, Bool.false_or, Bool.or_true, Bool.or_false,F_divided, g_divided, ix0, ix1, m1, m3, r]
  rfl
theorem p_is_less {x y : Qt} (hx : W 3000 x) (hy : W 3000 y) : F_is_less [dq x, dq y] st = .ok (.bl (ltQ x y)) st := by
  have m1 := mulc hx.1 hy.2 (by decide) (by decide)
  have m3 := mulc hy.1 hx.2 (by decide) (by decide)
  simp -implicitDefEqProofs only [ap_fnF, ap_seq, ap_skip, ap_if, ap_ret, ap_asg, ap_asg2, ap_drop, ap_par, ap_par3, ap_unp, ap_for, ap_forL, ap_var, ap_c, ap_bin, ap_un, ap_nil, ap_cons, ap_call, ap_def, ap_tr, ap_not, ap_and, ap_or, ap_andv, ap_orv, ap_ife, ap_of, ap_mul, ap_div, ap_mod, ap_sub, ap_addi, ap_lt, ap_le, ap_gt, ap_ge, ap_eqi, ap_nei, ap_eqs, ap_neg, ap_tup, ap_truth, ap_bits, startD, List.map, List.length, List.replicate, Nat.reduceSub, Nat.reduceAdd, Nat.reduceLeDiff, List.nil_append, List.cons_append, List.append_nil, List.set, List.getElem?_cons_zero, List.getElem?_cons_succ, List.getElem?_nil, setAll, fIsi, isi, tyN, fNot, fLen, fGcd, fAbs, fInt, fMax2, eq_self, if_true, if_false, reduceIte, id_eq, decide_true, decide_false, Bool.false_eq_true, Bool.true_eq_false, Bool.not_true, Bool.not_false, Bool.true_or, Bool.false_or, Bool.or_true, Bool.or_false,F_is_less, g_is_less, ix0, ix1, m1, m3]
  rfl
theorem p_negated {x : Qt} : F_negated [dq x] st = .ok (dq (negQ x)) st := by
  simp -implicitDefEqProofs only [ap_fnF, ap_seq, ap_skip, ap_if, ap_ret, ap_asg, ap_asg2, ap_drop, ap_par, ap_par3, ap_unp, ap_for, ap_forL, ap_var, ap_c, ap_bin, ap_un, ap_nil, ap_cons, ap_call, ap_def, ap_tr, ap_not, ap_and, ap_or, ap_andv, ap_orv, ap_ife, ap_of, ap_mul, ap_div, ap_mod, ap_sub, ap_addi, ap_lt, ap_le, ap_gt, ap_ge, ap_eqi, ap_nei, ap_eqs, ap_neg, ap_tup, ap_truth, ap_bits, startD, List.map, List.length, List.replicate, Nat.reduceSub, Nat.reduceAdd, Nat.reduceLeDiff, List.nil_append, List.cons_append, List.append_nil, List.set, List.getElem?_cons_zero, List.getElem?_cons_succ, List.getElem?_nil, setAll, fIsi, isi, tyN, fNot, fLen, fGcd, fAbs, fInt, fMax2, eq_self, if_true, if_false, reduceIte, id_eq, decide_true, decide_false, Bool.false_eq_true, Bool.true_eq_false, Bool.not_true, Bool.not_false, Bool.true_or, Bool.false_or, Bool.or_true, Bool.or_false,F_negated, g_negated, ix0, ix1, show ((2 : Nat) ≤ 100000) = True by simp]
  rfl
theorem negW {n : Nat} {x : Qt} (h : W n x) : W n (negQ x) := ⟨by unfold negQ; simpa using h.1, h.2⟩
theorem p_taken_off {x y : Qt} (hx : W 3000 x) (hy : W 3000 y) (px : 1 ≤ x.2) (py : 1 ≤ y.2) : F_taken_off [dq x, dq y] st = .ok (dq (addQ x (negQ y))) st := by
  have r := p_added (st := st) hx (negW hy) px (show 1 ≤ (negQ y).2 from py)
  simp -implicitDefEqProofs only [ap_fnF, ap_seq, ap_skip, ap_if, ap_ret, ap_asg, ap_asg2, ap_drop, ap_par, ap_par3, ap_unp, ap_for, ap_forL, ap_var, ap_c, ap_bin, ap_un, ap_nil, ap_cons, ap_call, ap_def, ap_tr, ap_not, ap_and, ap_or, ap_andv, ap_orv, ap_ife, ap_of, ap_mul, ap_div, ap_mod, ap_sub, ap_addi, ap_lt, ap_le, ap_gt, ap_ge, ap_eqi, ap_nei, ap_eqs, ap_neg, ap_tup, ap_truth, ap_bits, startD, List.map, List.length, List.replicate, Nat.reduceSub, Nat.reduceAdd, Nat.reduceLeDiff, List.nil_append, List.cons_append, List.append_nil, List.set, List.getElem?_cons_zero, List.getElem?_cons_succ, List.getElem?_nil, setAll, fIsi, isi, tyN, fNot, fLen, fGcd, fAbs, fInt, fMax2, eq_self, if_true, if_false, reduceIte, id_eq, decide_true, decide_false, Bool.false_eq_true, Bool.true_eq_false, Bool.not_true, Bool.not_false, Bool.true_or, Bool.false_or, Bool.or_true, Bool.or_false,F_taken_off, g_taken_off, p_negated, r]
/-! ### the law's own greatest common divisor -/
/-- one turn of its loop -/
abbrev comB : GS := b__law_common_1
theorem com_end {a b : Nat} {o1 o2 o5 : Option D} : comB [o1, o2, some (.int a), some (.int (0 : Nat)), o5] st = .rt (.int a) st := by
  have h : decide (((0 : Nat) : Int) = 0) = true := rfl
  simp -implicitDefEqProofs only [ap_fnF, ap_seq, ap_skip, ap_if, ap_ret, ap_asg, ap_asg2, ap_drop, ap_par, ap_par3, ap_unp, ap_for, ap_forL, ap_var, ap_c, ap_bin, ap_un, ap_nil, ap_cons, ap_call, ap_def, ap_tr, ap_not, ap_and, ap_or, ap_andv, ap_orv, ap_ife, ap_of, ap_mul, ap_div, ap_mod, ap_sub, ap_addi, ap_lt, ap_le, ap_gt, ap_ge, ap_eqi, ap_nei, ap_eqs, ap_neg, ap_tup, ap_truth, ap_bits, startD, List.map, List.length, List.replicate, Nat.reduceSub, Nat.reduceAdd, Nat.reduceLeDiff, List.nil_append, List.cons_append, List.append_nil, List.set, List.getElem?_cons_zero, List.getElem?_cons_succ, List.getElem?_nil, setAll, fIsi, isi, tyN, fNot, fLen, fGcd, fAbs, fInt, fMax2, eq_self, if_true, if_false, reduceIte, id_eq, decide_true, decide_false, Bool.false_eq_true, Bool.true_eq_false, Bool.not_true, Bool.not_false, Bool.true_or, Bool.false_or, Bool.or_true, Bool.or_false,comB, b__law_common_1, h]
theorem com_step {a b : Nat} {o1 o2 o5 : Option D} (hb : b ≠ 0) : comB [o1, o2, some (.int a), some (.int b), o5] st = .nx [o1, o2, some (.int b), some (.int ((a % b : Nat) : Int)), o5] st := by
  have h1 : decide ((b : Int) = 0) = false := decide_eq_false (by omega)
  have h2 : ((b : Int) ≠ 0) = True := by simp [hb]
  simp -implicitDefEqProofs only [ap_fnF, ap_seq, ap_skip, ap_if, ap_ret, ap_asg, ap_asg2, ap_drop, ap_par, ap_par3, ap_unp, ap_for, ap_forL, ap_var, ap_c, ap_bin, ap_un, ap_nil, ap_cons, ap_call, ap_def, ap_tr, ap_not, ap_and, ap_or, ap_andv, ap_orv, ap_ife, ap_of, ap_mul, ap_div, ap_mod, ap_sub, ap_addi, ap_lt, ap_le, ap_gt, ap_ge, ap_eqi, ap_nei, ap_eqs, ap_neg, ap_tup, ap_truth, ap_bits, startD, List.map, List.length, List.replicate, Nat.reduceSub, Nat.reduceAdd, Nat.reduceLeDiff, List.nil_append, List.cons_append, List.append_nil, List.set, List.getElem?_cons_zero, List.getElem?_cons_succ, List.getElem?_nil, setAll, fIsi, isi, tyN, fNot, fLen, fGcd, fAbs, fInt, fMax2, eq_self, if_true, if_false, reduceIte, id_eq, decide_true, decide_false, Bool.false_eq_true, Bool.true_eq_false, Bool.not_true, Bool.not_false, Bool.true_or, Bool.false_or, Bool.or_true, Bool.or_false,comB, b__law_common_1, h1, h2]
  have h3 : Int.fmod (a : Int) (b : Int) = ((a % b : Nat) : Int) := by
    rw [Int.fmod_eq_emod_of_nonneg _ (by omega)]
    exact (Int.natCast_emod a b).symm
  rw [h3]
theorem com_loop : ∀ (k : Nat) (ds : List D) (a b : Nat) (o1 o2 o5 : Option D), b < 2 ^ k → 2 * k + 1 ≤ ds.length → loopV (tgV 4) comB ds [o1, o2, some (.int a), some (.int b), o5] st = .rt (.int (Nat.gcd a b)) st
  | k, [], _, _, _, _, _, _, h => by simp at h
  | 0, d :: ds, a, b, o1, o2, o5, hb, _ => by
    have e : b = 0 := by simpa using hb
    subst e
    simp only [loopV, tgV, List.set]
    rw [com_end (b := 0)]
    simp
  | k + 1, [d], a, b, o1, o2, o5, hb, h => by simp at h
  | k + 1, d :: d2 :: ds, a, b, o1, o2, o5, hb, h => by
    by_cases z : b = 0
    · subst z
      simp only [loopV, tgV, List.set]
      rw [com_end (b := 0)]
      simp
    · simp only [loopV, tgV, List.set]
      rw [com_step z]
      by_cases z2 : a % b = 0
      · have l2 : 1 ≤ (d2 :: ds).length := by simp
        simp only [List.set]
        rw [z2, com_end (b := 0)]
        have e : Nat.gcd a b = b := Nat.gcd_eq_right (Nat.dvd_of_mod_eq_zero z2)
        rw [e]
      · simp only [List.set]
        rw [com_step z2]
        have lt : b % (a % b) < 2 ^ k := by
          have h1 : a % b < b := Nat.mod_lt _ (by omega)
          have h2 : b % (a % b) < a % b := Nat.mod_lt _ (by omega)
          have h3 : b % (a % b) ≤ b - a % b := by
            have := Nat.mod_add_div b (a % b)
            have h4 : 1 ≤ b / (a % b) := Nat.div_pos (by omega) (by omega)
            have h5 : (a % b) * 1 ≤ (a % b) * (b / (a % b)) := Nat.mul_le_mul_left _ h4
            omega
          rw [Nat.pow_succ] at hb
          omega
        have ih := com_loop k ds (a % b) (b % (a % b)) o1 o2 (some d2) lt (by simp at h; omega)
        dsimp only
        rw [ih]
        have e : Nat.gcd (a % b) (b % (a % b)) = Nat.gcd a b := by
          rw [Nat.gcd_comm (a % b), ← Nat.gcd_rec (a % b) b, ← Nat.gcd_rec b a, Nat.gcd_comm b a]
        rw [e]
theorem bits_lt (n : Nat) : n < 2 ^ Builtin.Int.intBits (n : Int) := by
  unfold Builtin.Int.intBits
  by_cases h : n = 0
  · subst h
    simp
  · have e : ((n : Int) == 0) = false := by simp [h]
    rw [e, if_neg Bool.false_ne_true, Int.natAbs_natCast]
    exact Nat.lt_log2_self
def absI (a : Int) : Int := if a < 0 then -a else a
theorem absI_nat (a : Int) : absI a = (a.natAbs : Int) := by
  unfold absI
  split <;> omega
theorem bits_le {n k : Nat} (h : n < 2 ^ k) : Builtin.Int.intBits (n : Int) ≤ k := by
  unfold Builtin.Int.intBits
  by_cases z : n = 0
  · subst z
    simp
  · have e : ((n : Int) == 0) = false := by simp [z]
    rw [e, if_neg Bool.false_ne_true, Int.natAbs_natCast]
    exact (Nat.log2_lt z).mpr h
theorem t1 {a b : Nat} {o1 o2 o5 : Option D} {M : Nat} (eM : (if (b : Int) > (a : Int) then (b : Int) else (a : Int)) = (M : Int)) : gUn fBits (gCall fMax2 (gCons (gVar 2) (gCons (gVar 3) gNil))) [o1, o2, some (.int a), some (.int b), o5] st = .ok (.int ((Builtin.Int.intBits (M : Int) : Nat) : Int)) st := by
  simp -implicitDefEqProofs only [ap_fnF, ap_seq, ap_skip, ap_if, ap_ret, ap_asg, ap_asg2, ap_drop, ap_par, ap_par3, ap_unp, ap_for, ap_forL, ap_var, ap_c, ap_bin, ap_un, ap_nil, ap_cons, ap_call, ap_def, ap_tr, ap_not, ap_and, ap_or, ap_andv, ap_orv, ap_ife, ap_of, ap_mul, ap_div, ap_mod, ap_sub, ap_addi, ap_lt, ap_le, ap_gt, ap_ge, ap_eqi, ap_nei, ap_eqs, ap_neg, ap_tup, ap_truth, ap_bits, startD, List.map, List.length, List.replicate, Nat.reduceSub, Nat.reduceAdd, Nat.reduceLeDiff, List.nil_append, List.cons_append, List.append_nil, List.set, List.getElem?_cons_zero, List.getElem?_cons_succ, List.getElem?_nil, setAll, fIsi, isi, tyN, fNot, fLen, fGcd, fAbs, fInt, fMax2, eq_self, if_true, if_false, reduceIte, id_eq, decide_true, decide_false, Bool.false_eq_true, Bool.true_eq_false, Bool.not_true, Bool.not_false, Bool.true_or, Bool.false_or, Bool.or_true, Bool.or_false,eM]
theorem t2 {U : G} {B : Int} {r : En} (q : U r st = .ok (.int B) st) (m1 : MulC 2 B) : gBin (fAdd false) (gBin fMul (gC (.int 2)) U) (gC (.int 4)) r st = .ok (.int (2 * B + 4)) st := by
  simp -implicitDefEqProofs only [ap_fnF, ap_seq, ap_skip, ap_if, ap_ret, ap_asg, ap_asg2, ap_drop, ap_par, ap_par3, ap_unp, ap_for, ap_forL, ap_var, ap_c, ap_bin, ap_un, ap_nil, ap_cons, ap_call, ap_def, ap_tr, ap_not, ap_and, ap_or, ap_andv, ap_orv, ap_ife, ap_of, ap_mul, ap_div, ap_mod, ap_sub, ap_addi, ap_lt, ap_le, ap_gt, ap_ge, ap_eqi, ap_nei, ap_eqs, ap_neg, ap_tup, ap_truth, ap_bits, startD, List.map, List.length, List.replicate, Nat.reduceSub, Nat.reduceAdd, Nat.reduceLeDiff, List.nil_append, List.cons_append, List.append_nil, List.set, List.getElem?_cons_zero, List.getElem?_cons_succ, List.getElem?_nil, setAll, fIsi, isi, tyN, fNot, fLen, fGcd, fAbs, fInt, fMax2, eq_self, if_true, if_false, reduceIte, id_eq, decide_true, decide_false, Bool.false_eq_true, Bool.true_eq_false, Bool.not_true, Bool.not_false, Bool.true_or, Bool.false_or, Bool.or_true, Bool.or_false,q, m1]
theorem t3 {U : G} {B : Int} {r : En} (q : U r st = .ok (.int B) st) (sm : small B = true) : iOf iRange1 (gCons U gNil) r st = .ok (rangeD 0 B.toNat) st := by
  simp -implicitDefEqProofs only [ap_fnF, ap_seq, ap_skip, ap_if, ap_ret, ap_asg, ap_asg2, ap_drop, ap_par, ap_par3, ap_unp, ap_for, ap_forL, ap_var, ap_c, ap_bin, ap_un, ap_nil, ap_cons, ap_call, ap_def, ap_tr, ap_not, ap_and, ap_or, ap_andv, ap_orv, ap_ife, ap_of, ap_mul, ap_div, ap_mod, ap_sub, ap_addi, ap_lt, ap_le, ap_gt, ap_ge, ap_eqi, ap_nei, ap_eqs, ap_neg, ap_tup, ap_truth, ap_bits, startD, List.map, List.length, List.replicate, Nat.reduceSub, Nat.reduceAdd, Nat.reduceLeDiff, List.nil_append, List.cons_append, List.append_nil, List.set, List.getElem?_cons_zero, List.getElem?_cons_succ, List.getElem?_nil, setAll, fIsi, isi, tyN, fNot, fLen, fGcd, fAbs, fInt, fMax2, eq_self, if_true, if_false, reduceIte, id_eq, decide_true, decide_false, Bool.false_eq_true, Bool.true_eq_false, Bool.not_true, Bool.not_false, Bool.true_or, Bool.false_or, Bool.or_true, Bool.or_false,iRange1, q, sm]
theorem t5 {gi : GA} {t : D → En → Option En} {g : GS} {r : En} {ds : List D} {o : O} (q : gi r st = .ok ds st) (l : loopV t g ds r st = o) : sFor gi t g r st = o := by
  rw [ap_for, q]
  exact l
theorem t6 {r' : En} {st' : S} {g : GS} {d : D} {r : En} (h : sPar 2 3 (gCons (gCall fAbs (gCons (gVar 0) gNil)) (gCons (gCall fAbs (gCons (gVar 1) gNil)) gNil)) r st = .nx r' st) (k : g r' st = .rt d st') {g2 : GS} :
    (gSeq (sPar 2 3 (gCons (gCall fAbs (gCons (gVar 0) gNil)) (gCons (gCall fAbs (gCons (gVar 1) gNil)) gNil))) (gSeq g g2)) r st = .rt d st' := by
  rw [ap_seq, h]
  dsimp only
  rw [ap_seq, k]
theorem t7 {a b : Int} {o3 o4 o5 : Option D} : sPar 2 3 (gCons (gCall fAbs (gCons (gVar 0) gNil)) (gCons (gCall fAbs (gCons (gVar 1) gNil)) gNil)) [some (.int a), some (.int b), o3, o4, o5] st = .nx [some (.int a), some (.int b), some (.int a.natAbs), some (.int b.natAbs), o5] st := by
  have e1 : (if a < 0 then -a else a) = (a.natAbs : Int) := absI_nat a
  have e2 : (if b < 0 then -b else b) = (b.natAbs : Int) := absI_nat b
  simp -implicitDefEqProofs only [ap_fnF, ap_seq, ap_skip, ap_if, ap_ret, ap_asg, ap_asg2, ap_drop, ap_par, ap_par3, ap_unp, ap_for, ap_forL, ap_var, ap_c, ap_bin, ap_un, ap_nil, ap_cons, ap_call, ap_def, ap_tr, ap_not, ap_and, ap_or, ap_andv, ap_orv, ap_ife, ap_of, ap_mul, ap_div, ap_mod, ap_sub, ap_addi, ap_lt, ap_le, ap_gt, ap_ge, ap_eqi, ap_nei, ap_eqs, ap_neg, ap_tup, ap_truth, ap_bits, startD, List.map, List.length, List.replicate, Nat.reduceSub, Nat.reduceAdd, Nat.reduceLeDiff, List.nil_append, List.cons_append, List.append_nil, List.set, List.getElem?_cons_zero, List.getElem?_cons_succ, List.getElem?_nil, setAll, fIsi, isi, tyN, fNot, fLen, fGcd, fAbs, fInt, fMax2, eq_self, if_true, if_false, reduceIte, id_eq, decide_true, decide_false, Bool.false_eq_true, Bool.true_eq_false, Bool.not_true, Bool.not_false, Bool.true_or, Bool.false_or, Bool.or_true, Bool.or_false,e1, e2]
theorem p_common {a b : Int} {n : Nat} (ha : a.natAbs < 2 ^ n) (hb : b.natAbs < 2 ^ n) (hn : n ≤ 8000) : F__law_common [.int a, .int b] st = .ok (.int ((Nat.gcd a.natAbs b.natAbs : Nat) : Int)) st := by
  have e1 : (if a < 0 then -a else a) = (a.natAbs : Int) := absI_nat a
  have e2 : (if b < 0 then -b else b) = (b.natAbs : Int) := absI_nat b
  have mx : ∃ M : Nat, (if (b.natAbs : Int) > (a.natAbs : Int) then (b.natAbs : Int) else (a.natAbs : Int)) = (M : Int) ∧ b.natAbs ≤ M ∧ M < 2 ^ n := by
    by_cases z : (b.natAbs : Int) > (a.natAbs : Int)
    · exact ⟨b.natAbs, if_pos z, Nat.le_refl _, hb⟩
    · exact ⟨a.natAbs, if_neg z, by omega, ha⟩
  obtain ⟨M, eM, hM1, hM2⟩ := mx
  have hk := bits_le hM2
  have small' : small (2 * ((Builtin.Int.intBits (M : Int) : Nat) : Int) + 4) = true := by
    unfold small
    simp only [Bool.and_eq_true, decide_eq_true_eq]
    omega
  have m1 : MulC 2 ((Builtin.Int.intBits (M : Int) : Nat) : Int) := Or.inl (Or.inl (by decide))
  have lp := com_loop (st := st) (Builtin.Int.intBits (M : Int)) (rangeD 0 (2 * ((Builtin.Int.intBits (M : Int) : Nat) : Int) + 4).toNat) a.natAbs b.natAbs (some (.int a)) (some (.int b)) none (Nat.lt_of_le_of_lt hM1 (bits_lt M)) (by rw [rangeD_len]; omega)
  have z : g__law_common [some (.int a), some (.int b), none, none, none] st = .rt (.int ((Nat.gcd a.natAbs b.natAbs : Nat) : Int)) st := by
    unfold g__law_common
    exact t6 t7 (t5 (t3 (t2 (t1 eM) m1) small') lp)
  have hs : startD N__law_common [.int a, .int b] = [some (.int a), some (.int b), none, none, none] := rfl
  unfold F__law_common
  rw [ap_fnF, hs, z]
/-! ### the least and the greatest of quotients -/
def spStep (p : Qt × Qt) (q : Qt) : Qt × Qt := (if ltQ q p.1 = true then q else p.1, if ltQ p.2 q = true then q else p.2)
theorem sp_turn {o x : Option D} {l h q : Qt} (wl : W 3000 l) (wh : W 3000 h) (wq : W 3000 q) : b_span_over_1 [o, some (dq l), some (dq h), some (dq q)] st = .nx [o, some (dq (spStep (l, h) q).1), some (dq (spStep (l, h) q).2), some (dq q)] st := by
  unfold b_span_over_1 spStep
  have e1 := p_is_less (st := st) wq wl
  have e2 := p_is_less (st := st) wh wq
  cases h1 : ltQ q l <;> cases h2 : ltQ h q <;> rw [h1] at e1 <;> rw [h2] at e2 <;> simp -implicitDefEqProofs only [ap_fnF, ap_seq, ap_skip, ap_if, ap_ret, ap_asg, ap_asg2, ap_drop, ap_par, ap_par3, ap_unp, ap_for, ap_forL, ap_var, ap_c, ap_bin, ap_un, ap_nil, ap_cons, ap_call, ap_def, ap_tr, ap_not, ap_and, ap_or, ap_andv, ap_orv, ap_ife, ap_of, ap_mul, ap_div, ap_mod, ap_sub, ap_addi, ap_lt, ap_le, ap_gt, ap_ge, ap_eqi, ap_nei, ap_eqs, ap_neg, ap_tup, ap_truth, ap_bits, startD, List.map, List.length, List.replicate, Nat.reduceSub, Nat.reduceAdd, Nat.reduceLeDiff, List.nil_append, List.cons_append, List.append_nil, List.set, List.getElem?_cons_zero, List.getElem?_cons_succ, List.getElem?_nil, setAll, fIsi, isi, tyN, fNot, fLen, fGcd, fAbs, fInt, fMax2, eq_self, if_true, if_false, reduceIte, id_eq, decide_true, decide_false, Bool.false_eq_true, Bool.true_eq_false, Bool.not_true, Bool.not_false, Bool.true_or, Bool.false_or, Bool.or_true, Bool.or_false,e1, e2]
theorem sp_loop {o : Option D} : ∀ (qs : List Qt) (l h : Qt) (x : Option D), W 3000 l → W 3000 h → (∀ q ∈ qs, W 3000 q) → ∃ x', loopV (tgV 3) b_span_over_1 (qs.map dq) [o, some (dq l), some (dq h), x] st = .nx [o, some (dq (qs.foldl spStep (l, h)).1), some (dq (qs.foldl spStep (l, h)).2), x'] st
  | [], l, h, x, _, _, _ => ⟨x, rfl⟩
  | q :: qs, l, h, x, wl, wh, wq => by
    have w1 := wq q (List.mem_cons_self ..)
    have a1 : W 3000 (spStep (l, h) q).1 := by
      unfold spStep
      dsimp only
      split
      · exact w1
      · exact wl
    have a2 : W 3000 (spStep (l, h) q).2 := by
      unfold spStep
      dsimp only
      split
      · exact w1
      · exact wh
    obtain ⟨x', ih⟩ := sp_loop (o := o) qs _ _ (some (dq q)) a1 a2 fun z hz => wq z (List.mem_cons_of_mem _ hz)
    refine ⟨x', ?_⟩
    simp only [List.map, loopV, tgV, List.set]
    rw [sp_turn (x := none) wl wh w1]
    dsimp only
    rw [ih]
    rfl
theorem ix_head {x : D} {xs : List D} : fIx (.lv (x :: xs)) (.int 0) st = .ok x st := by
  have h : atI (x :: xs) 0 = some x := by
    unfold atI ixN
    simp
  show (match atI (x :: xs) 0 with | some y => R.ok y st | none => R.bad) = _
  rw [h]
theorem p_span_over {q : Qt} {qs : List Qt} (w : ∀ z ∈ q :: qs, W 3000 z) : F_span_over [.lv ((q :: qs).map dq)] st = .ok (.tup [dq ((q :: qs).foldl spStep (q, q)).1, dq ((q :: qs).foldl spStep (q, q)).2]) st := by
  have wq := w q (List.mem_cons_self ..)
  have hix : fIx (.lv ((q :: qs).map dq)) (.int 0) st = .ok (dq q) st := ix_head
  obtain ⟨x', lp⟩ := sp_loop (st := st) (o := some (.lv ((q :: qs).map dq))) (q :: qs) q q none wq wq w
  have hs : startD N_span_over [.lv ((q :: qs).map dq)] = [some (.lv ((q :: qs).map dq)), none, none, none] := rfl
  generalize (q :: qs).map dq = ds at *
  have seq : iSq (gVar 0) [some (.lv ds), some (dq q), some (dq q), none] st = .ok ds st := rfl
  unfold F_span_over
  rw [ap_fnF, hs]
  unfold g_span_over
  simp -implicitDefEqProofs only [ap_fnF, ap_seq, ap_skip, ap_if, ap_ret, ap_asg, ap_asg2, ap_drop, ap_par, ap_par3, ap_unp, ap_for, ap_forL, ap_var, ap_c, ap_bin, ap_un, ap_nil, ap_cons, ap_call, ap_def, ap_tr, ap_not, ap_and, ap_or, ap_andv, ap_orv, ap_ife, ap_of, ap_mul, ap_div, ap_mod, ap_sub, ap_addi, ap_lt, ap_le, ap_gt, ap_ge, ap_eqi, ap_nei, ap_eqs, ap_neg, ap_tup, ap_truth, ap_bits, startD, List.map, List.length, List.replicate, Nat.reduceSub, Nat.reduceAdd, Nat.reduceLeDiff, List.nil_append, List.cons_append, List.append_nil, List.set, List.getElem?_cons_zero, List.getElem?_cons_succ, List.getElem?_nil, setAll, fIsi, isi, tyN, fNot, fLen, fGcd, fAbs, fInt, fMax2, eq_self, if_true, if_false, reduceIte, id_eq, decide_true, decide_false, Bool.false_eq_true, Bool.true_eq_false, Bool.not_true, Bool.not_false, Bool.true_or, Bool.false_or, Bool.or_true, Bool.or_false,hix, seq, lp]
/-! ### what is a quotient, a span -/
mutual
/-- no class within -/
def nt : D → Bool
  | .ty _ => false
  | .tup ds => nts ds
  | .lv ds => nts ds
  | .fz ds => nts ds
  | _ => true
def nts : List D → Bool
  | [] => true
  | d :: ds => nt d && nts ds
end
theorem nt_ne {d : D} (h : nt d = true) : ∀ n, d ≠ .ty n := fun n e => by
  rw [e] at h
  cases h
def isQt : D → Bool
  | .tup [.int a, .int b] => decide (1 ≤ b) && decide (((Nat.gcd a.natAbs b.natAbs : Nat) : Int) = 1)
  | _ => false
theorem p_is_quotient {d : D} (h : nt d = true) : F_is_quotient [d] st = .ok (.bl (isQt d)) st := by
  have h1 := p_is_pair (st := st) (nt_ne h)
  unfold F_is_quotient
  rw [ap_fnF]
  have hs : startD N_is_quotient [d] = [some d, none, none] := rfl
  rw [hs]
  unfold g_is_quotient
  by_cases z : ∃ x y, d = .tup [x, y]
  · obtain ⟨x, y, rfl⟩ := z
    have hx : nt x = true := by
      have z : (nt x && (nt y && true)) = true := h
      exact (Bool.and_eq_true_iff.mp z).1
    have hy : nt y = true := by
      have z : (nt x && (nt y && true)) = true := h
      have z2 := (Bool.and_eq_true_iff.mp z).2
      exact (Bool.and_eq_true_iff.mp z2).1
    have ex := p_is_integer (st := st) (nt_ne hx)
    have ey := p_is_integer (st := st) (nt_ne hy)
    have hp : isPair (.tup [x, y]) = true := rfl
    rw [hp] at h1
    cases kx : isInt x with
    | false =>
      rw [kx] at ex
      have e : isQt (.tup [x, y]) = false := by cases x <;> first | rfl | cases kx
      rw [e]
      simp -implicitDefEqProofs only [ap_fnF, ap_seq, ap_skip, ap_if, ap_ret, ap_asg, ap_asg2, ap_drop, ap_par, ap_par3, ap_unp, ap_for, ap_forL, ap_var, ap_c, ap_bin, ap_un, ap_nil, ap_cons, ap_call, ap_def, ap_tr, ap_not, ap_and, ap_or, ap_andv, ap_orv, ap_ife, ap_of, ap_mul, ap_div, ap_mod, ap_sub, ap_addi, ap_lt, ap_le, ap_gt, ap_ge, ap_eqi, ap_nei, ap_eqs, ap_neg, ap_tup, ap_truth, ap_bits, startD, List.map, List.length, List.replicate, Nat.reduceSub, Nat.reduceAdd, Nat.reduceLeDiff, List.nil_append, List.cons_append, List.append_nil, List.set, List.getElem?_cons_zero, List.getElem?_cons_succ, List.getElem?_nil, setAll, fIsi, isi, tyN, fNot, fLen, fGcd, fAbs, fInt, fMax2, eq_self, if_true, if_false, reduceIte, id_eq, decide_true, decide_false, Bool.false_eq_true, Bool.true_eq_false, Bool.not_true, Bool.not_false, Bool.true_or, Bool.false_or, Bool.or_true, Bool.or_false,h1, ex]
    | true =>
      rw [kx] at ex
      cases ky : isInt y with
      | false =>
        rw [ky] at ey
        have e : isQt (.tup [x, y]) = false := by cases x <;> cases y <;> first | rfl | cases ky
        rw [e]
        simp -implicitDefEqProofs only [ap_fnF, ap_seq, ap_skip, ap_if, ap_ret, ap_asg, ap_asg2, ap_drop, ap_par, ap_par3, ap_unp, ap_for, ap_forL, ap_var, ap_c, ap_bin, ap_un, ap_nil, ap_cons, ap_call, ap_def, ap_tr, ap_not, ap_and, ap_or, ap_andv, ap_orv, ap_ife, ap_of, ap_mul, ap_div, ap_mod, ap_sub, ap_addi, ap_lt, ap_le, ap_gt, ap_ge, ap_eqi, ap_nei, ap_eqs, ap_neg, ap_tup, ap_truth, ap_bits, startD, List.map, List.length, List.replicate, Nat.reduceSub, Nat.reduceAdd, Nat.reduceLeDiff, List.nil_append, List.cons_append, List.append_nil, List.set, List.getElem?_cons_zero, List.getElem?_cons_succ, List.getElem?_nil, setAll, fIsi, isi, tyN, fNot, fLen, fGcd, fAbs, fInt, fMax2, eq_self, if_true, if_false, reduceIte, id_eq, decide_true, decide_false, Bool.false_eq_true, Bool.true_eq_false, Bool.not_true, Bool.not_false, Bool.true_or, Bool.false_or, Bool.or_true, Bool.or_false,h1, ex, ey]
      | true =>
        rw [ky] at ey
        obtain ⟨a, rfl⟩ : ∃ a, x = .int a := by cases x <;> first | exact ⟨_, rfl⟩ | cases kx
        obtain ⟨b, rfl⟩ : ∃ b, y = .int b := by cases y <;> first | exact ⟨_, rfl⟩ | cases ky
        cases k1 : decide (1 ≤ b) with
        | false =>
          have e : isQt (.tup [.int a, .int b]) = false := by
            show (decide (1 ≤ b) && _) = false
            rw [k1]
            rfl
          rw [e]
          simp -implicitDefEqProofs only [ap_fnF, ap_seq, ap_skip, ap_if, ap_ret, ap_asg, ap_asg2, ap_drop, ap_par, ap_par3, ap_unp, ap_for, ap_forL, ap_var, ap_c, ap_bin, ap_un, ap_nil, ap_cons, ap_call, ap_def, ap_tr, ap_not, ap_and, ap_or, ap_andv, ap_orv, ap_ife, ap_of, ap_mul, ap_div, ap_mod, ap_sub, ap_addi, ap_lt, ap_le, ap_gt, ap_ge, ap_eqi, ap_nei, ap_eqs, ap_neg, ap_tup, ap_truth, ap_bits, startD, List.map, List.length, List.replicate, Nat.reduceSub, Nat.reduceAdd, Nat.reduceLeDiff, List.nil_append, List.cons_append, List.append_nil, List.set, List.getElem?_cons_zero, List.getElem?_cons_succ, List.getElem?_nil, setAll, fIsi, isi, tyN, fNot, fLen, fGcd, fAbs, fInt, fMax2, eq_self, if_true, if_false, reduceIte, id_eq, decide_true, decide_false, Bool.false_eq_true, Bool.true_eq_false, Bool.not_true, Bool.not_false, Bool.true_or, Bool.false_or, Bool.or_true, Bool.or_false,h1, ex, ey, k1]
        | true =>
          have e : isQt (.tup [.int a, .int b]) = decide (((Nat.gcd a.natAbs b.natAbs : Nat) : Int) = 1) := by
            show (decide (1 ≤ b) && _) = _
            rw [k1]
            rfl
          rw [e]
          simp -implicitDefEqProofs only [ap_fnF, ap_seq, ap_skip, ap_if, ap_ret, ap_asg, ap_asg2, ap_drop, ap_par, ap_par3, ap_unp, ap_for, ap_forL, ap_var, ap_c, ap_bin, ap_un, ap_nil, ap_cons, ap_call, ap_def, ap_tr, ap_not, ap_and, ap_or, ap_andv, ap_orv, ap_ife, ap_of, ap_mul, ap_div, ap_mod, ap_sub, ap_addi, ap_lt, ap_le, ap_gt, ap_ge, ap_eqi, ap_nei, ap_eqs, ap_neg, ap_tup, ap_truth, ap_bits, startD, List.map, List.length, List.replicate, Nat.reduceSub, Nat.reduceAdd, Nat.reduceLeDiff, List.nil_append, List.cons_append, List.append_nil, List.set, List.getElem?_cons_zero, List.getElem?_cons_succ, List.getElem?_nil, setAll, fIsi, isi, tyN, fNot, fLen, fGcd, fAbs, fInt, fMax2, eq_self, if_true, if_false, reduceIte, id_eq, decide_true, decide_false, Bool.false_eq_true, Bool.true_eq_false, Bool.not_true, Bool.not_false, Bool.true_or, Bool.false_or, Bool.or_true, Bool.or_false,h1, ex, ey, k1]
  · have hp : isPair d = false := by
      cases d <;> try rfl
      rename_i ds
      rcases ds with _ | ⟨a, _ | ⟨b, _ | ⟨c, t⟩⟩⟩ <;> first | rfl | exact absurd ⟨a, b, rfl⟩ z
    have e : isQt d = false := by
      unfold isQt
      split
      · rename_i a b
        exact absurd ⟨_, _, rfl⟩ z
      · rfl
    rw [hp] at h1
    rw [e]
    simp -implicitDefEqProofs only [ap_fnF, ap_seq, ap_skip, ap_if, ap_ret, ap_asg, ap_asg2, ap_drop, ap_par, ap_par3, ap_unp, ap_for, ap_forL, ap_var, ap_c, ap_bin, ap_un, ap_nil, ap_cons, ap_call, ap_def, ap_tr, ap_not, ap_and, ap_or, ap_andv, ap_orv, ap_ife, ap_of, ap_mul, ap_div, ap_mod, ap_sub, ap_addi, ap_lt, ap_le, ap_gt, ap_ge, ap_eqi, ap_nei, ap_eqs, ap_neg, ap_tup, ap_truth, ap_bits, startD, List.map, List.length, List.replicate, Nat.reduceSub, Nat.reduceAdd, Nat.reduceLeDiff, List.nil_append, List.cons_append, List.append_nil, List.set, List.getElem?_cons_zero, List.getElem?_cons_succ, List.getElem?_nil, setAll, fIsi, isi, tyN, fNot, fLen, fGcd, fAbs, fInt, fMax2, eq_self, if_true, if_false, reduceIte, id_eq, decide_true, decide_false, Bool.false_eq_true, Bool.true_eq_false, Bool.not_true, Bool.not_false, Bool.true_or, Bool.false_or, Bool.or_true, Bool.or_false,h1]
/-! ### what is asked of a parameter -/
abbrev notU (w : Str) : Str := w
theorem p_ask_yes {w : Str} : F_ask [.bl true, .str w] st = .ok .non st := by
  unfold F_ask
  rw [ap_fnF]
  have hs : startD N_ask [.bl true, .str w] = [some (.bl true), some (.str w)] := rfl
  rw [hs]
  unfold g_ask
  simp -implicitDefEqProofs only [ap_fnF, ap_seq, ap_skip, ap_if, ap_ret, ap_asg, ap_asg2, ap_drop, ap_par, ap_par3, ap_unp, ap_for, ap_forL, ap_var, ap_c, ap_bin, ap_un, ap_nil, ap_cons, ap_call, ap_def, ap_tr, ap_not, ap_and, ap_or, ap_andv, ap_orv, ap_ife, ap_of, ap_mul, ap_div, ap_mod, ap_sub, ap_addi, ap_lt, ap_le, ap_gt, ap_ge, ap_eqi, ap_nei, ap_eqs, ap_neg, ap_tup, ap_truth, ap_bits, startD, List.map, List.length, List.replicate, Nat.reduceSub, Nat.reduceAdd, Nat.reduceLeDiff, List.nil_append, List.cons_append, List.append_nil, List.set, List.getElem?_cons_zero, List.getElem?_cons_succ, List.getElem?_nil, setAll, fIsi, isi, tyN, fNot, fLen, fGcd, fAbs, fInt, fMax2, eq_self, if_true, if_false, reduceIte, id_eq, decide_true, decide_false, Bool.false_eq_true, Bool.true_eq_false, Bool.not_true, Bool.not_false, Bool.true_or, Bool.false_or, Bool.or_true, Bool.or_false]
theorem p_ask_no {w : Str} : F_ask [.bl false, .str w] st = .err "NotUsable" [("at", .int (-1)), ("word", .str w)] st := by
  unfold F_ask
  rw [ap_fnF]
  have hs : startD N_ask [.bl false, .str w] = [some (.bl false), some (.str w)] := rfl
  rw [hs]
  unfold g_ask
  have hr : sRaise2 "NotUsable" "word" "at" (gCons (gVar 1) (gCons (gUn fNeg (gC (.int 1))) gNil)) [some (.bl false), some (.str w)] st = .err "NotUsable" [("at", .int (-1)), ("word", .str w)] [some (.bl false), some (.str w)] st := by
    unfold sRaise2 sA
    simp -implicitDefEqProofs only [ap_fnF, ap_seq, ap_skip, ap_if, ap_ret, ap_asg, ap_asg2, ap_drop, ap_par, ap_par3, ap_unp, ap_for, ap_forL, ap_var, ap_c, ap_bin, ap_un, ap_nil, ap_cons, ap_call, ap_def, ap_tr, ap_not, ap_and, ap_or, ap_andv, ap_orv, ap_ife, ap_of, ap_mul, ap_div, ap_mod, ap_sub, ap_addi, ap_lt, ap_le, ap_gt, ap_ge, ap_eqi, ap_nei, ap_eqs, ap_neg, ap_tup, ap_truth, ap_bits, startD, List.map, List.length, List.replicate, Nat.reduceSub, Nat.reduceAdd, Nat.reduceLeDiff, List.nil_append, List.cons_append, List.append_nil, List.set, List.getElem?_cons_zero, List.getElem?_cons_succ, List.getElem?_nil, setAll, fIsi, isi, tyN, fNot, fLen, fGcd, fAbs, fInt, fMax2, eq_self, if_true, if_false, reduceIte, id_eq, decide_true, decide_false, Bool.false_eq_true, Bool.true_eq_false, Bool.not_true, Bool.not_false, Bool.true_or, Bool.false_or, Bool.or_true, Bool.or_false]
  simp -implicitDefEqProofs only [ap_fnF, ap_seq, ap_skip, ap_if, ap_ret, ap_asg, ap_asg2, ap_drop, ap_par, ap_par3, ap_unp, ap_for, ap_forL, ap_var, ap_c, ap_bin, ap_un, ap_nil, ap_cons, ap_call, ap_def, ap_tr, ap_not, ap_and, ap_or, ap_andv, ap_orv, ap_ife, ap_of, ap_mul, ap_div, ap_mod, ap_sub, ap_addi, ap_lt, ap_le, ap_gt, ap_ge, ap_eqi, ap_nei, ap_eqs, ap_neg, ap_tup, ap_truth, ap_bits, startD, List.map, List.length, List.replicate, Nat.reduceSub, Nat.reduceAdd, Nat.reduceLeDiff, List.nil_append, List.cons_append, List.append_nil, List.set, List.getElem?_cons_zero, List.getElem?_cons_succ, List.getElem?_nil, setAll, fIsi, isi, tyN, fNot, fLen, fGcd, fAbs, fInt, fMax2, eq_self, if_true, if_false, reduceIte, id_eq, decide_true, decide_false, Bool.false_eq_true, Bool.true_eq_false, Bool.not_true, Bool.not_false, Bool.true_or, Bool.false_or, Bool.or_true, Bool.or_false,hr]
theorem p_plus {x y : Qt} (hx : W 3000 x) (hy : W 3000 y) (px : 1 ≤ x.2) (qy : isQt (dq y) = true) : F_plus [dq x, dq y] st = .ok (dq (addQ x y)) st := by
  have py : 1 ≤ y.2 := of_decide_eq_true (Bool.and_eq_true_iff.mp (show (decide (1 ≤ y.2) && _) = true from qy)).1
  have q := p_is_quotient (st := st) (d := dq y) rfl
  rw [qy] at q
  have r := p_added (st := st) hx hy px py
  have a := p_ask_yes (st := st) (w := "other")
  unfold F_plus
  rw [ap_fnF]
  have hs : startD N_plus [dq x, dq y] = [some (dq x), some (dq y)] := rfl
  rw [hs]
  unfold g_plus
  simp -implicitDefEqProofs only [ap_fnF, ap_seq, ap_skip, ap_if, ap_ret, ap_asg, ap_asg2, ap_drop, ap_par, ap_par3, ap_unp, ap_for, ap_forL, ap_var, ap_c, ap_bin, ap_un, ap_nil, ap_cons, ap_call, ap_def, ap_tr, ap_not, ap_and, ap_or, ap_andv, ap_orv, ap_ife, ap_of, ap_mul, ap_div, ap_mod, ap_sub, ap_addi, ap_lt, ap_le, ap_gt, ap_ge, ap_eqi, ap_nei, ap_eqs, ap_neg, ap_tup, ap_truth, ap_bits, startD, List.map, List.length, List.replicate, Nat.reduceSub, Nat.reduceAdd, Nat.reduceLeDiff, List.nil_append, List.cons_append, List.append_nil, List.set, List.getElem?_cons_zero, List.getElem?_cons_succ, List.getElem?_nil, setAll, fIsi, isi, tyN, fNot, fLen, fGcd, fAbs, fInt, fMax2, eq_self, if_true, if_false, reduceIte, id_eq, decide_true, decide_false, Bool.false_eq_true, Bool.true_eq_false, Bool.not_true, Bool.not_false, Bool.true_or, Bool.false_or, Bool.or_true, Bool.or_false,q, a, r]
theorem p_plus_no {x : Qt} {d : D} (h : nt d = true) (q0 : isQt d = false) : F_plus [dq x, d] st = .err "NotUsable" [("at", .int (-1)), ("word", .str "other")] st := by
  have q := p_is_quotient (st := st) h
  rw [q0] at q
  have a := p_ask_no (st := st) (w := "other")
  unfold F_plus
  rw [ap_fnF]
  have hs : startD N_plus [dq x, d] = [some (dq x), some d] := rfl
  rw [hs]
  unfold g_plus
  simp -implicitDefEqProofs only [ap_fnF, ap_seq, ap_skip, ap_if, ap_ret, ap_asg, ap_asg2, ap_drop, ap_par, ap_par3, ap_unp, ap_for, ap_forL, ap_var, ap_c, ap_bin, ap_un, ap_nil, ap_cons, ap_call, ap_def, ap_tr, ap_not, ap_and, ap_or, ap_andv, ap_orv, ap_ife, ap_of, ap_mul, ap_div, ap_mod, ap_sub, ap_addi, ap_lt, ap_le, ap_gt, ap_ge, ap_eqi, ap_nei, ap_eqs, ap_neg, ap_tup, ap_truth, ap_bits, startD, List.map, List.length, List.replicate, Nat.reduceSub, Nat.reduceAdd, Nat.reduceLeDiff, List.nil_append, List.cons_append, List.append_nil, List.set, List.getElem?_cons_zero, List.getElem?_cons_succ, List.getElem?_nil, setAll, fIsi, isi, tyN, fNot, fLen, fGcd, fAbs, fInt, fMax2, eq_self, if_true, if_false, reduceIte, id_eq, decide_true, decide_false, Bool.false_eq_true, Bool.true_eq_false, Bool.not_true, Bool.not_false, Bool.true_or, Bool.false_or, Bool.or_true, Bool.or_false,q, a]
theorem p_minus {x y : Qt} (hx : W 3000 x) (hy : W 3000 y) (px : 1 ≤ x.2) (qy : isQt (dq y) = true) : F_minus [dq x, dq y] st = .ok (dq (addQ x (negQ y))) st := by
  have py : 1 ≤ y.2 := of_decide_eq_true (Bool.and_eq_true_iff.mp (show (decide (1 ≤ y.2) && _) = true from qy)).1
  have q := p_is_quotient (st := st) (d := dq y) rfl
  rw [qy] at q
  have r := p_taken_off (st := st) hx hy px py
  have a := p_ask_yes (st := st) (w := "other")
  unfold F_minus
  rw [ap_fnF]
  have hs : startD N_minus [dq x, dq y] = [some (dq x), some (dq y)] := rfl
  rw [hs]
  unfold g_minus
  simp -implicitDefEqProofs only [ap_fnF, ap_seq, ap_skip, ap_if, ap_ret, ap_asg, ap_asg2, ap_drop, ap_par, ap_par3, ap_unp, ap_for, ap_forL, ap_var, ap_c, ap_bin, ap_un, ap_nil, ap_cons, ap_call, ap_def, ap_tr, ap_not, ap_and, ap_or, ap_andv, ap_orv, ap_ife, ap_of, ap_mul, ap_div, ap_mod, ap_sub, ap_addi, ap_lt, ap_le, ap_gt, ap_ge, ap_eqi, ap_nei, ap_eqs, ap_neg, ap_tup, ap_truth, ap_bits, startD, List.map, List.length, List.replicate, Nat.reduceSub, Nat.reduceAdd, Nat.reduceLeDiff, List.nil_append, List.cons_append, List.append_nil, List.set, List.getElem?_cons_zero, List.getElem?_cons_succ, List.getElem?_nil, setAll, fIsi, isi, tyN, fNot, fLen, fGcd, fAbs, fInt, fMax2, eq_self, if_true, if_false, reduceIte, id_eq, decide_true, decide_false, Bool.false_eq_true, Bool.true_eq_false, Bool.not_true, Bool.not_false, Bool.true_or, Bool.false_or, Bool.or_true, Bool.or_false,q, a, r]
theorem p_times {x y : Qt} (hx : W 3000 x) (hy : W 3000 y) (px : 1 ≤ x.2) (qy : isQt (dq y) = true) : F_times [dq x, dq y] st = .ok (dq (mulQ x y)) st := by
  have py : 1 ≤ y.2 := of_decide_eq_true (Bool.and_eq_true_iff.mp (show (decide (1 ≤ y.2) && _) = true from qy)).1
  have q := p_is_quotient (st := st) (d := dq y) rfl
  rw [qy] at q
  have r := p_multiplied (st := st) hx hy px py
  have a := p_ask_yes (st := st) (w := "other")
  unfold F_times
  rw [ap_fnF]
  have hs : startD N_times [dq x, dq y] = [some (dq x), some (dq y)] := rfl
  rw [hs]
  unfold g_times
  simp -implicitDefEqProofs only [ap_fnF, ap_seq, ap_skip, ap_if, ap_ret, ap_asg, ap_asg2, ap_drop, ap_par, ap_par3, ap_unp, ap_for, ap_forL, ap_var, ap_c, ap_bin, ap_un, ap_nil, ap_cons, ap_call, ap_def, ap_tr, ap_not, ap_and, ap_or, ap_andv, ap_orv, ap_ife, ap_of, ap_mul, ap_div, ap_mod, ap_sub, ap_addi, ap_lt, ap_le, ap_gt, ap_ge, ap_eqi, ap_nei, ap_eqs, ap_neg, ap_tup, ap_truth, ap_bits, startD, List.map, List.length, List.replicate, Nat.reduceSub, Nat.reduceAdd, Nat.reduceLeDiff, List.nil_append, List.cons_append, List.append_nil, List.set, List.getElem?_cons_zero, List.getElem?_cons_succ, List.getElem?_nil, setAll, fIsi, isi, tyN, fNot, fLen, fGcd, fAbs, fInt, fMax2, eq_self, if_true, if_false, reduceIte, id_eq, decide_true, decide_false, Bool.false_eq_true, Bool.true_eq_false, Bool.not_true, Bool.not_false, Bool.true_or, Bool.false_or, Bool.or_true, Bool.or_false,q, a, r]
theorem p_less {x y : Qt} (hx : W 3000 x) (hy : W 3000 y) (qy : isQt (dq y) = true) : F_less [dq x, dq y] st = .ok (.bl (ltQ x y)) st := by
  have q := p_is_quotient (st := st) (d := dq y) rfl
  rw [qy] at q
  have r := p_is_less (st := st) hx hy
  have a := p_ask_yes (st := st) (w := "other")
  unfold F_less
  rw [ap_fnF]
  have hs : startD N_less [dq x, dq y] = [some (dq x), some (dq y)] := rfl
  rw [hs]
  unfold g_less
  simp -implicitDefEqProofs only [ap_fnF, ap_seq, ap_skip, ap_if, ap_ret, ap_asg, ap_asg2, ap_drop, ap_par, ap_par3, ap_unp, ap_for, ap_forL, ap_var, ap_c, ap_bin, ap_un, ap_nil, ap_cons, ap_call, ap_def, ap_tr, ap_not, ap_and, ap_or, ap_andv, ap_orv, ap_ife, ap_of, ap_mul, ap_div, ap_mod, ap_sub, ap_addi, ap_lt, ap_le, ap_gt, ap_ge, ap_eqi, ap_nei, ap_eqs, ap_neg, ap_tup, ap_truth, ap_bits, startD, List.map, List.length, List.replicate, Nat.reduceSub, Nat.reduceAdd, Nat.reduceLeDiff, List.nil_append, List.cons_append, List.append_nil, List.set, List.getElem?_cons_zero, List.getElem?_cons_succ, List.getElem?_nil, setAll, fIsi, isi, tyN, fNot, fLen, fGcd, fAbs, fInt, fMax2, eq_self, if_true, if_false, reduceIte, id_eq, decide_true, decide_false, Bool.false_eq_true, Bool.true_eq_false, Bool.not_true, Bool.not_false, Bool.true_or, Bool.false_or, Bool.or_true, Bool.or_false,q, a, r]
theorem p_minus_no {x : Qt} {d : D} (h : nt d = true) (q0 : isQt d = false) : F_minus [dq x, d] st = .err "NotUsable" [("at", .int (-1)), ("word", .str "other")] st := by
  have q := p_is_quotient (st := st) h
  rw [q0] at q
  have a := p_ask_no (st := st) (w := "other")
  unfold F_minus
  rw [ap_fnF]
  have hs : startD N_minus [dq x, d] = [some (dq x), some d] := rfl
  rw [hs]
  unfold g_minus
  simp -implicitDefEqProofs only [ap_fnF, ap_seq, ap_skip, ap_if, ap_ret, ap_asg, ap_asg2, ap_drop, ap_par, ap_par3, ap_unp, ap_for, ap_forL, ap_var, ap_c, ap_bin, ap_un, ap_nil, ap_cons, ap_call, ap_def, ap_tr, ap_not, ap_and, ap_or, ap_andv, ap_orv, ap_ife, ap_of, ap_mul, ap_div, ap_mod, ap_sub, ap_addi, ap_lt, ap_le, ap_gt, ap_ge, ap_eqi, ap_nei, ap_eqs, ap_neg, ap_tup, ap_truth, ap_bits, startD, List.map, List.length, List.replicate, Nat.reduceSub, Nat.reduceAdd, Nat.reduceLeDiff, List.nil_append, List.cons_append, List.append_nil, List.set, List.getElem?_cons_zero, List.getElem?_cons_succ, List.getElem?_nil, setAll, fIsi, isi, tyN, fNot, fLen, fGcd, fAbs, fInt, fMax2, eq_self, if_true, if_false, reduceIte, id_eq, decide_true, decide_false, Bool.false_eq_true, Bool.true_eq_false, Bool.not_true, Bool.not_false, Bool.true_or, Bool.false_or, Bool.or_true, Bool.or_false,q, a]
theorem p_times_no {x : Qt} {d : D} (h : nt d = true) (q0 : isQt d = false) : F_times [dq x, d] st = .err "NotUsable" [("at", .int (-1)), ("word", .str "other")] st := by
  have q := p_is_quotient (st := st) h
  rw [q0] at q
  have a := p_ask_no (st := st) (w := "other")
  unfold F_times
  rw [ap_fnF]
  have hs : startD N_times [dq x, d] = [some (dq x), some d] := rfl
  rw [hs]
  unfold g_times
  simp -implicitDefEqProofs only [ap_fnF, ap_seq, ap_skip, ap_if, ap_ret, ap_asg, ap_asg2, ap_drop, ap_par, ap_par3, ap_unp, ap_for, ap_forL, ap_var, ap_c, ap_bin, ap_un, ap_nil, ap_cons, ap_call, ap_def, ap_tr, ap_not, ap_and, ap_or, ap_andv, ap_orv, ap_ife, ap_of, ap_mul, ap_div, ap_mod, ap_sub, ap_addi, ap_lt, ap_le, ap_gt, ap_ge, ap_eqi, ap_nei, ap_eqs, ap_neg, ap_tup, ap_truth, ap_bits, startD, List.map, List.length, List.replicate, Nat.reduceSub, Nat.reduceAdd, Nat.reduceLeDiff, List.nil_append, List.cons_append, List.append_nil, List.set, List.getElem?_cons_zero, List.getElem?_cons_succ, List.getElem?_nil, setAll, fIsi, isi, tyN, fNot, fLen, fGcd, fAbs, fInt, fMax2, eq_self, if_true, if_false, reduceIte, id_eq, decide_true, decide_false, Bool.false_eq_true, Bool.true_eq_false, Bool.not_true, Bool.not_false, Bool.true_or, Bool.false_or, Bool.or_true, Bool.or_false,q, a]
theorem p_less_no {x : Qt} {d : D} (h : nt d = true) (q0 : isQt d = false) : F_less [dq x, d] st = .err "NotUsable" [("at", .int (-1)), ("word", .str "other")] st := by
  have q := p_is_quotient (st := st) h
  rw [q0] at q
  have a := p_ask_no (st := st) (w := "other")
  unfold F_less
  rw [ap_fnF]
  have hs : startD N_less [dq x, d] = [some (dq x), some d] := rfl
  rw [hs]
  unfold g_less
  simp -implicitDefEqProofs only [ap_fnF, ap_seq, ap_skip, ap_if, ap_ret, ap_asg, ap_asg2, ap_drop, ap_par, ap_par3, ap_unp, ap_for, ap_forL, ap_var, ap_c, ap_bin, ap_un, ap_nil, ap_cons, ap_call, ap_def, ap_tr, ap_not, ap_and, ap_or, ap_andv, ap_orv, ap_ife, ap_of, ap_mul, ap_div, ap_mod, ap_sub, ap_addi, ap_lt, ap_le, ap_gt, ap_ge, ap_eqi, ap_nei, ap_eqs, ap_neg, ap_tup, ap_truth, ap_bits, startD, List.map, List.length, List.replicate, Nat.reduceSub, Nat.reduceAdd, Nat.reduceLeDiff, List.nil_append, List.cons_append, List.append_nil, List.set, List.getElem?_cons_zero, List.getElem?_cons_succ, List.getElem?_nil, setAll, fIsi, isi, tyN, fNot, fLen, fGcd, fAbs, fInt, fMax2, eq_self, if_true, if_false, reduceIte, id_eq, decide_true, decide_false, Bool.false_eq_true, Bool.true_eq_false, Bool.not_true, Bool.not_false, Bool.true_or, Bool.false_or, Bool.or_true, Bool.or_false,q, a]
theorem p_over_no {x : Qt} {d : D} (h : nt d = true) (q0 : isQt d = false) : F_over [dq x, d] st = .err "NotUsable" [("at", .int (-1)), ("word", .str "other")] st := by
  have q := p_is_quotient (st := st) h
  rw [q0] at q
  have a := p_ask_no (st := st) (w := "other")
  unfold F_over
  rw [ap_fnF]
  have hs : startD N_over [dq x, d] = [some (dq x), some d] := rfl
  rw [hs]
  unfold g_over
  simp -implicitDefEqProofs only [ap_fnF, ap_seq, ap_skip, ap_if, ap_ret, ap_asg, ap_asg2, ap_drop, ap_par, ap_par3, ap_unp, ap_for, ap_forL, ap_var, ap_c, ap_bin, ap_un, ap_nil, ap_cons, ap_call, ap_def, ap_tr, ap_not, ap_and, ap_or, ap_andv, ap_orv, ap_ife, ap_of, ap_mul, ap_div, ap_mod, ap_sub, ap_addi, ap_lt, ap_le, ap_gt, ap_ge, ap_eqi, ap_nei, ap_eqs, ap_neg, ap_tup, ap_truth, ap_bits, startD, List.map, List.length, List.replicate, Nat.reduceSub, Nat.reduceAdd, Nat.reduceLeDiff, List.nil_append, List.cons_append, List.append_nil, List.set, List.getElem?_cons_zero, List.getElem?_cons_succ, List.getElem?_nil, setAll, fIsi, isi, tyN, fNot, fLen, fGcd, fAbs, fInt, fMax2, eq_self, if_true, if_false, reduceIte, id_eq, decide_true, decide_false, Bool.false_eq_true, Bool.true_eq_false, Bool.not_true, Bool.not_false, Bool.true_or, Bool.false_or, Bool.or_true, Bool.or_false,q, a]
theorem p_ask_quotient {d : D} (h : nt d = true) (q1 : isQt d = true) : F_ask_quotient [d] st = .ok .non st := by
  have q := p_is_quotient (st := st) h
  rw [q1] at q
  have a := p_ask_yes (st := st) (w := "quotient")
  unfold F_ask_quotient
  rw [ap_fnF]
  have hs : startD N_ask_quotient [d] = [some d] := rfl
  rw [hs]
  unfold g_ask_quotient
  simp -implicitDefEqProofs only [ap_fnF, ap_seq, ap_skip, ap_if, ap_ret, ap_asg, ap_asg2, ap_drop, ap_par, ap_par3, ap_unp, ap_for, ap_forL, ap_var, ap_c, ap_bin, ap_un, ap_nil, ap_cons, ap_call, ap_def, ap_tr, ap_not, ap_and, ap_or, ap_andv, ap_orv, ap_ife, ap_of, ap_mul, ap_div, ap_mod, ap_sub, ap_addi, ap_lt, ap_le, ap_gt, ap_ge, ap_eqi, ap_nei, ap_eqs, ap_neg, ap_tup, ap_truth, ap_bits, startD, List.map, List.length, List.replicate, Nat.reduceSub, Nat.reduceAdd, Nat.reduceLeDiff, List.nil_append, List.cons_append, List.append_nil, List.set, List.getElem?_cons_zero, List.getElem?_cons_succ, List.getElem?_nil, setAll, fIsi, isi, tyN, fNot, fLen, fGcd, fAbs, fInt, fMax2, eq_self, if_true, if_false, reduceIte, id_eq, decide_true, decide_false, Bool.false_eq_true, Bool.true_eq_false, Bool.not_true, Bool.not_false, Bool.true_or, Bool.false_or, Bool.or_true, Bool.or_false,q, a]
theorem p_ask_quotient_no {d : D} (h : nt d = true) (q0 : isQt d = false) : F_ask_quotient [d] st = .err "NotUsable" [("at", .int (-1)), ("word", .str "quotient")] st := by
  have q := p_is_quotient (st := st) h
  rw [q0] at q
  have a := p_ask_no (st := st) (w := "quotient")
  unfold F_ask_quotient
  rw [ap_fnF]
  have hs : startD N_ask_quotient [d] = [some d] := rfl
  rw [hs]
  unfold g_ask_quotient
  simp -implicitDefEqProofs only [ap_fnF, ap_seq, ap_skip, ap_if, ap_ret, ap_asg, ap_asg2, ap_drop, ap_par, ap_par3, ap_unp, ap_for, ap_forL, ap_var, ap_c, ap_bin, ap_un, ap_nil, ap_cons, ap_call, ap_def, ap_tr, ap_not, ap_and, ap_or, ap_andv, ap_orv, ap_ife, ap_of, ap_mul, ap_div, ap_mod, ap_sub, ap_addi, ap_lt, ap_le, ap_gt, ap_ge, ap_eqi, ap_nei, ap_eqs, ap_neg, ap_tup, ap_truth, ap_bits, startD, List.map, List.length, List.replicate, Nat.reduceSub, Nat.reduceAdd, Nat.reduceLeDiff, List.nil_append, List.cons_append, List.append_nil, List.set, List.getElem?_cons_zero, List.getElem?_cons_succ, List.getElem?_nil, setAll, fIsi, isi, tyN, fNot, fLen, fGcd, fAbs, fInt, fMax2, eq_self, if_true, if_false, reduceIte, id_eq, decide_true, decide_false, Bool.false_eq_true, Bool.true_eq_false, Bool.not_true, Bool.not_false, Bool.true_or, Bool.false_or, Bool.or_true, Bool.or_false,q, a]
theorem p_quotient_of {a b : Int} (hb : b ≠ 0) (hB : b.natAbs < BIG) : F_quotient_of [.int a, .int b] st = .ok (dq (redQ a b)) st := by
  have q1 := p_is_integer (st := st) (d := .int a) fun n z => by cases z
  have q2 := p_is_integer (st := st) (d := .int b) fun n z => by cases z
  have e1 : isInt (.int a) = true := rfl
  have e2 : isInt (.int b) = true := rfl
  rw [e1] at q1
  rw [e2] at q2
  have r := p_reduced (st := st) (a := a) hb hB
  have a1 := p_ask_yes (st := st) (w := "top")
  have a2 := p_ask_yes (st := st) (w := "bottom")
  have d1 : decide (b = 0) = false := decide_eq_false hb
  unfold F_quotient_of
  rw [ap_fnF]
  have hs : startD N_quotient_of [.int a, .int b] = [some (.int a), some (.int b)] := rfl
  rw [hs]
  unfold g_quotient_of
  simp -implicitDefEqProofs only [ap_fnF, ap_seq, ap_skip, ap_if, ap_ret, ap_asg, ap_asg2, ap_drop, ap_par, ap_par3, ap_unp, ap_for, ap_forL, ap_var, ap_c, ap_bin, ap_un, ap_nil, ap_cons, ap_call, ap_def, ap_tr, ap_not, ap_and, ap_or, ap_andv, ap_orv, ap_ife, ap_of, ap_mul, ap_div, ap_mod, ap_sub, ap_addi, ap_lt, ap_le, ap_gt, ap_ge, ap_eqi, ap_nei, ap_eqs, ap_neg, ap_tup, ap_truth, ap_bits, startD, List.map, List.length, List.replicate, Nat.reduceSub, Nat.reduceAdd, Nat.reduceLeDiff, List.nil_append, List.cons_append, List.append_nil, List.set, List.getElem?_cons_zero, List.getElem?_cons_succ, List.getElem?_nil, setAll, fIsi, isi, tyN, fNot, fLen, fGcd, fAbs, fInt, fMax2, eq_self, if_true, if_false, reduceIte, id_eq, decide_true, decide_false, Bool.false_eq_true, Bool.true_eq_false, Bool.not_true, Bool.not_false, Bool.true_or, Bool.false_or, Bool.or_true, Bool.or_false,q1, q2, a1, a2, r, d1]
theorem ne_nought {y : Qt} : fNe (dq y) (.tup [.int 0, .int 1]) st = .ok (.bl (!(decide (y.1 = 0) && decide (y.2 = 1)))) st := by
  unfold fNe fEqB dq
  have h1 : scq (.tup [.int y.1, .int y.2]) (.tup [.int 0, .int 1]) = none := rfl
  rw [h1]
  have h2 : D.py (.tup [.int y.1, .int y.2]) = some (.tuple [.int y.1, .int y.2]) := rfl
  have h3 : D.py (.tup [.int 0, .int 1]) = some (.tuple [.int 0, .int 1]) := rfl
  rw [h2, h3]
  dsimp only
  have s1 : SeqAt.shaped (.tuple [.int y.1, .int y.2]) = true := by rfl
  have s2 : SeqAt.shaped (.tuple [.int 0, .int 1]) = true := by rfl
  rw [s1, s2]
  have e : PyData.eqv (.tuple [.int y.1, .int y.2]) (.tuple [.int 0, .int 1]) = (decide (y.1 = 0) && decide (y.2 = 1)) := by
    simp [PyData.eqv, PyData.eqvAll]
    rfl
  rw [e]
  rfl
theorem p_over {x y : Qt} (hx : W 3000 x) (hy : W 3000 y) (px : 1 ≤ x.2) (qy : isQt (dq y) = true) (ny : y.1 ≠ 0) : F_over [dq x, dq y] st = .ok (dq (divQ x y)) st := by
  have q := p_is_quotient (st := st) (d := dq y) rfl
  rw [qy] at q
  have r := p_divided (st := st) hx hy px ny
  have a := p_ask_yes (st := st) (w := "other")
  have d1 : decide (y.1 = 0) = false := decide_eq_false ny
  have e := ne_nought (st := st) (y := y)
  rw [d1] at e
  unfold F_over
  rw [ap_fnF]
  have hs : startD N_over [dq x, dq y] = [some (dq x), some (dq y)] := rfl
  rw [hs]
  unfold g_over
  simp -implicitDefEqProofs only [ap_fnF, ap_seq, ap_skip, ap_if, ap_ret, ap_asg, ap_asg2, ap_drop, ap_par, ap_par3, ap_unp, ap_for, ap_forL, ap_var, ap_c, ap_bin, ap_un, ap_nil, ap_cons, ap_call, ap_def, ap_tr, ap_not, ap_and, ap_or, ap_andv, ap_orv, ap_ife, ap_of, ap_mul, ap_div, ap_mod, ap_sub, ap_addi, ap_lt, ap_le, ap_gt, ap_ge, ap_eqi, ap_nei, ap_eqs, ap_neg, ap_tup, ap_truth, ap_bits, startD, List.map, List.length, List.replicate, Nat.reduceSub, Nat.reduceAdd, Nat.reduceLeDiff, List.nil_append, List.cons_append, List.append_nil, List.set, List.getElem?_cons_zero, List.getElem?_cons_succ, List.getElem?_nil, setAll, fIsi, isi, tyN, fNot, fLen, fGcd, fAbs, fInt, fMax2, eq_self, if_true, if_false, reduceIte, id_eq, decide_true, decide_false, Bool.false_eq_true, Bool.true_eq_false, Bool.not_true, Bool.not_false, Bool.true_or, Bool.false_or, Bool.or_true, Bool.or_false,q, a, r, e, Bool.false_and]
theorem p_over_nought {x : Qt} : F_over [dq x, dq (0, 1)] st = .err "NotUsable" [("at", .int (-1)), ("word", .str "other")] st := by
  have q := p_is_quotient (st := st) (d := dq (0, 1)) rfl
  have qy : isQt (dq (0, 1)) = true := rfl
  rw [qy] at q
  have a := p_ask_no (st := st) (w := "other")
  have e := ne_nought (st := st) (y := (0, 1))
  unfold F_over
  rw [ap_fnF]
  have hs : startD N_over [dq x, dq (0, 1)] = [some (dq x), some (dq (0, 1))] := rfl
  rw [hs]
  unfold g_over
  simp -implicitDefEqProofs only [ap_fnF, ap_seq, ap_skip, ap_if, ap_ret, ap_asg, ap_asg2, ap_drop, ap_par, ap_par3, ap_unp, ap_for, ap_forL, ap_var, ap_c, ap_bin, ap_un, ap_nil, ap_cons, ap_call, ap_def, ap_tr, ap_not, ap_and, ap_or, ap_andv, ap_orv, ap_ife, ap_of, ap_mul, ap_div, ap_mod, ap_sub, ap_addi, ap_lt, ap_le, ap_gt, ap_ge, ap_eqi, ap_nei, ap_eqs, ap_neg, ap_tup, ap_truth, ap_bits, startD, List.map, List.length, List.replicate, Nat.reduceSub, Nat.reduceAdd, Nat.reduceLeDiff, List.nil_append, List.cons_append, List.append_nil, List.set, List.getElem?_cons_zero, List.getElem?_cons_succ, List.getElem?_nil, setAll, fIsi, isi, tyN, fNot, fLen, fGcd, fAbs, fInt, fMax2, eq_self, if_true, if_false, reduceIte, id_eq, decide_true, decide_false, Bool.false_eq_true, Bool.true_eq_false, Bool.not_true, Bool.not_false, Bool.true_or, Bool.false_or, Bool.or_true, Bool.or_false,q, a, e, Bool.true_and, Bool.and_true, Bool.and_self]
/-- a span -/
def ds (p : Qt × Qt) : D := .tup [dq p.1, dq p.2]
def isSp (p : Qt × Qt) : Bool := isQt (dq p.1) && (isQt (dq p.2) && decide (p.1.1 * p.2.2 ≤ p.2.1 * p.1.2))
theorem p_is_span {p : Qt × Qt} (h1 : W 3000 p.1) (h2 : W 3000 p.2) : F_is_span [ds p] st = .ok (.bl (isSp p)) st := by
  have pr := p_is_pair (st := st) (d := ds p) (fun n z => by cases z)
  have ep : isPair (ds p) = true := rfl
  rw [ep] at pr
  have q1 := p_is_quotient (st := st) (d := dq p.1) rfl
  have q2 := p_is_quotient (st := st) (d := dq p.2) rfl
  have m1 := mulc h1.1 h2.2 (by decide) (by decide)
  have m2 := mulc h2.1 h1.2 (by decide) (by decide)
  have eu : setAll [1, 2] [dq p.1, dq p.2] [some (ds p), none, none] = some [some (ds p), some (dq p.1), some (dq p.2)] := rfl
  unfold F_is_span
  rw [ap_fnF]
  have hs : startD N_is_span [ds p] = [some (ds p), none, none] := rfl
  rw [hs]
  unfold g_is_span
  unfold isSp
  cases k1 : isQt (dq p.1) <;> rw [k1] at q1
  · simp -implicitDefEqProofs only [ap_fnF, ap_seq, ap_skip, ap_if, ap_ret, ap_asg, ap_asg2, ap_drop, ap_par, ap_par3, ap_unp, ap_for, ap_forL, ap_var, ap_c, ap_bin, ap_un, ap_nil, ap_cons, ap_call, ap_def, ap_tr, ap_not, ap_and, ap_or, ap_andv, ap_orv, ap_ife, ap_of, ap_mul, ap_div, ap_mod, ap_sub, ap_addi, ap_lt, ap_le, ap_gt, ap_ge, ap_eqi, ap_nei, ap_eqs, ap_neg, ap_tup, ap_truth, ap_bits, startD, List.map, List.length, List.replicate, Nat.reduceSub, Nat.reduceAdd, Nat.reduceLeDiff, List.nil_append, List.cons_append, List.append_nil, List.set, List.getElem?_cons_zero, List.getElem?_cons_succ, List.getElem?_nil, setAll, fIsi, isi, tyN, fNot, fLen, fGcd, fAbs, fInt, fMax2, eq_self, if_true, if_false, reduceIte, id_eq, decide_true, decide_false, Bool.false_eq_true, Bool.true_eq_false, Bool.not_true, Bool.not_false, Bool.true_or, Bool.false_or, Bool.or_true, Bool.or_false,pr, q1, ds, Bool.false_and]
    simp only [ds] at pr
    simp -implicitDefEqProofs only [ap_fnF, ap_seq, ap_skip, ap_if, ap_ret, ap_asg, ap_asg2, ap_drop, ap_par, ap_par3, ap_unp, ap_for, ap_forL, ap_var, ap_c, ap_bin, ap_un, ap_nil, ap_cons, ap_call, ap_def, ap_tr, ap_not, ap_and, ap_or, ap_andv, ap_orv, ap_ife, ap_of, ap_mul, ap_div, ap_mod, ap_sub, ap_addi, ap_lt, ap_le, ap_gt, ap_ge, ap_eqi, ap_nei, ap_eqs, ap_neg, ap_tup, ap_truth, ap_bits, startD, List.map, List.length, List.replicate, Nat.reduceSub, Nat.reduceAdd, Nat.reduceLeDiff, List.nil_append, List.cons_append, List.append_nil, List.set, List.getElem?_cons_zero, List.getElem?_cons_succ, List.getElem?_nil, setAll, fIsi, isi, tyN, fNot, fLen, fGcd, fAbs, fInt, fMax2, eq_self, if_true, if_false, reduceIte, id_eq, decide_true, decide_false, Bool.false_eq_true, Bool.true_eq_false, Bool.not_true, Bool.not_false, Bool.true_or, Bool.false_or, Bool.or_true, Bool.or_false,pr, q1, Bool.false_and]
  · cases k2 : isQt (dq p.2) <;> rw [k2] at q2
    · simp only [ds] at pr ⊢
      simp -implicitDefEqProofs only [ap_fnF, ap_seq, ap_skip, ap_if, ap_ret, ap_asg, ap_asg2, ap_drop, ap_par, ap_par3, ap_unp, ap_for, ap_forL, ap_var, ap_c, ap_bin, ap_un, ap_nil, ap_cons, ap_call, ap_def, ap_tr, ap_not, ap_and, ap_or, ap_andv, ap_orv, ap_ife, ap_of, ap_mul, ap_div, ap_mod, ap_sub, ap_addi, ap_lt, ap_le, ap_gt, ap_ge, ap_eqi, ap_nei, ap_eqs, ap_neg, ap_tup, ap_truth, ap_bits, startD, List.map, List.length, List.replicate, Nat.reduceSub, Nat.reduceAdd, Nat.reduceLeDiff, List.nil_append, List.cons_append, List.append_nil, List.set, List.getElem?_cons_zero, List.getElem?_cons_succ, List.getElem?_nil, setAll, fIsi, isi, tyN, fNot, fLen, fGcd, fAbs, fInt, fMax2, eq_self, if_true, if_false, reduceIte, id_eq, decide_true, decide_false, Bool.false_eq_true, Bool.true_eq_false, Bool.not_true, Bool.not_false, Bool.true_or, Bool.false_or, Bool.or_true, Bool.or_false,pr, q1, q2, Bool.false_and, Bool.true_and]
    · simp only [ds] at pr ⊢
      simp -implicitDefEqProofs only [ap_fnF, ap_seq, ap_skip, ap_if, ap_ret, ap_asg, ap_asg2, ap_drop, ap_par, ap_par3, ap_unp, ap_for, ap_forL, ap_var, ap_c, ap_bin, ap_un, ap_nil, ap_cons, ap_call, ap_def, ap_tr, ap_not, ap_and, ap_or, ap_andv, ap_orv, ap_ife, ap_of, ap_mul, ap_div, ap_mod, ap_sub, ap_addi, ap_lt, ap_le, ap_gt, ap_ge, ap_eqi, ap_nei, ap_eqs, ap_neg, ap_tup, ap_truth, ap_bits, startD, List.map, List.length, List.replicate, Nat.reduceSub, Nat.reduceAdd, Nat.reduceLeDiff, List.nil_append, List.cons_append, List.append_nil, List.set, List.getElem?_cons_zero, List.getElem?_cons_succ, List.getElem?_nil, setAll, fIsi, isi, tyN, fNot, fLen, fGcd, fAbs, fInt, fMax2, eq_self, if_true, if_false, reduceIte, id_eq, decide_true, decide_false, Bool.false_eq_true, Bool.true_eq_false, Bool.not_true, Bool.not_false, Bool.true_or, Bool.false_or, Bool.or_true, Bool.or_false,pr, q1, q2, ix0, ix1, m1, m2, Bool.true_and]
/-! ### the law's draws -/
theorem p_take_none {l : Nat} {m : Int} (h : st[l]? = some []) : F__law_take [.loc l, .int m] st = .ok (.int 0) st := by
  have hs : startD N__law_take [.loc l, .int m] = [some (.loc l), some (.int m)] := rfl
  have t : truth st (.loc l) = some false := by
    show (st[l]?).map (fun ds => !ds.isEmpty) = _
    rw [h]
    rfl
  unfold F__law_take
  rw [ap_fnF, hs]
  unfold g__law_take
  simp -implicitDefEqProofs only [ap_fnF, ap_seq, ap_skip, ap_if, ap_ret, ap_asg, ap_asg2, ap_drop, ap_par, ap_par3, ap_unp, ap_for, ap_forL, ap_var, ap_c, ap_bin, ap_un, ap_nil, ap_cons, ap_call, ap_def, ap_tr, ap_not, ap_and, ap_or, ap_andv, ap_orv, ap_ife, ap_of, ap_mul, ap_div, ap_mod, ap_sub, ap_addi, ap_lt, ap_le, ap_gt, ap_ge, ap_eqi, ap_nei, ap_eqs, ap_neg, ap_tup, ap_truth, ap_bits, startD, List.map, List.length, List.replicate, Nat.reduceSub, Nat.reduceAdd, Nat.reduceLeDiff, List.nil_append, List.cons_append, List.append_nil, List.set, List.getElem?_cons_zero, List.getElem?_cons_succ, List.getElem?_nil, setAll, fIsi, isi, tyN, fNot, fLen, fGcd, fAbs, fInt, fMax2, eq_self, if_true, if_false, reduceIte, id_eq, decide_true, decide_false, Bool.false_eq_true, Bool.true_eq_false, Bool.not_true, Bool.not_false, Bool.true_or, Bool.false_or, Bool.or_true, Bool.or_false,t]
theorem p_take {l : Nat} {m v : Int} {xs : List D} (h : st[l]? = some (xs ++ [.int v])) (hm : m ≠ 0) : F__law_take [.loc l, .int m] st = .ok (.int (v.fmod m)) (st.set l xs) := by
  have hs : startD N__law_take [.loc l, .int m] = [some (.loc l), some (.int m)] := rfl
  have t : truth st (.loc l) = some true := by
    show (st[l]?).map (fun ds => !ds.isEmpty) = _
    rw [h]
    simp
  have p : fPop (.loc l) st = .ok (.int v) (st.set l xs) := by
    unfold fPop
    dsimp only
    rw [h]
    simp
  have m1 : (m ≠ 0) = True := by simp [hm]
  unfold F__law_take
  rw [ap_fnF, hs]
  unfold g__law_take
  simp -implicitDefEqProofs only [ap_fnF, ap_seq, ap_skip, ap_if, ap_ret, ap_asg, ap_asg2, ap_drop, ap_par, ap_par3, ap_unp, ap_for, ap_forL, ap_var, ap_c, ap_bin, ap_un, ap_nil, ap_cons, ap_call, ap_def, ap_tr, ap_not, ap_and, ap_or, ap_andv, ap_orv, ap_ife, ap_of, ap_mul, ap_div, ap_mod, ap_sub, ap_addi, ap_lt, ap_le, ap_gt, ap_ge, ap_eqi, ap_nei, ap_eqs, ap_neg, ap_tup, ap_truth, ap_bits, startD, List.map, List.length, List.replicate, Nat.reduceSub, Nat.reduceAdd, Nat.reduceLeDiff, List.nil_append, List.cons_append, List.append_nil, List.set, List.getElem?_cons_zero, List.getElem?_cons_succ, List.getElem?_nil, setAll, fIsi, isi, tyN, fNot, fLen, fGcd, fAbs, fInt, fMax2, eq_self, if_true, if_false, reduceIte, id_eq, decide_true, decide_false, Bool.false_eq_true, Bool.true_eq_false, Bool.not_true, Bool.not_false, Bool.true_or, Bool.false_or, Bool.or_true, Bool.or_false,t, p, m1]
end K00
end Sv
set_option Elab.async false
set_option linter.all false
set_option maxRecDepth 100000
set_option maxHeartbeats 4000000
set_option exponentiation.threshold 10000
namespace Sv
open PySem PySem.Spec PyProof.Rows L2
namespace K00
variable {st : S}
/-! ### quotients as rationals -/
def qv (q : Qt) : Rat := (q.1 : Rat) / (q.2 : Rat)
theorem rpos {x : Int} (h : 1 ≤ x) : (0 : Rat) < (x : Rat) := by
  have z := Rat.intCast_lt_intCast.mpr (show (0 : Int) < x by omega)
  simpa using z
theorem rne {x : Int} (h : x ≠ 0) : (x : Rat) ≠ 0 := fun z => h (Rat.intCast_inj.mp z)
theorem rat_lt {a b c d : Rat} (hb : 0 < b) (hd : 0 < d) : a / b < c / d ↔ a * d < c * b := by
  rw [Rat.div_lt_iff hb]
  have : c / d * b = (c * b) / d := by grind
  rw [this, Rat.lt_div_iff hd]
theorem qv_lt {x y : Qt} (px : 1 ≤ x.2) (py : 1 ≤ y.2) : ltQ x y = decide (qv x < qv y) := by
  unfold ltQ qv
  refine decide_eq_decide.mpr ?_
  rw [rat_lt (rpos px) (rpos py), ← Rat.intCast_mul, ← Rat.intCast_mul, Rat.intCast_lt_intCast]
theorem qv_ltT {x y : Qt} (px : 1 ≤ x.2) (py : 1 ≤ y.2) : ltQ x y = true ↔ qv x < qv y := by rw [qv_lt px py, decide_eq_true_eq]
theorem qv_eqN {x y : Qt} (nx : x.2 ≠ 0) (ny : y.2 ≠ 0) : qv x = qv y ↔ x.1 * y.2 = y.1 * x.2 := by
  have h1 := rne nx
  have h2 := rne ny
  unfold qv
  constructor
  · intro h
    have h3 : (x.1 : Rat) * (y.2 : Rat) = (y.1 : Rat) * (x.2 : Rat) := by grind
    rw [← Rat.intCast_mul, ← Rat.intCast_mul] at h3
    exact Rat.intCast_inj.mp h3
  · intro h
    have h3 := congrArg (fun (z : Int) => (z : Rat)) h
    rw [Rat.intCast_mul, Rat.intCast_mul] at h3
    grind
theorem qv_eq {x y : Qt} (px : 1 ≤ x.2) (py : 1 ≤ y.2) : qv x = qv y ↔ x.1 * y.2 = y.1 * x.2 := qv_eqN (by omega) (by omega)
theorem qv_le {x y : Qt} (px : 1 ≤ x.2) (py : 1 ≤ y.2) : qv x ≤ qv y ↔ x.1 * y.2 ≤ y.1 * x.2 := by
  have h := qv_ltT (x := y) (y := x) py px
  unfold ltQ at h
  rw [decide_eq_true_eq] at h
  constructor
  · intro k
    by_cases z : y.1 * x.2 < x.1 * y.2
    · have := h.mp z
      grind
    · omega
  · intro k
    by_cases z : qv y < qv x
    · have := h.mpr z
      omega
    · grind
theorem qv_red {a b : Int} (hb : b ≠ 0) : qv (redQ a b) = qv (a, b) := by
  obtain ⟨⟨h1, _⟩, h2⟩ := redQ_low (a := a) hb
  exact (qv_eqN (by omega) hb).mpr h2
theorem red_W {a b : Int} {n : Nat} (hb : b ≠ 0) (h1 : a.natAbs < 2 ^ n) (h2 : b.natAbs < 2 ^ n) : W n (redQ a b) := by
  obtain ⟨⟨x, hx⟩, ⟨y, hy⟩⟩ := sgn_dvd (a := a) (b := b)
  have hn := sgn_ne (a := a) hb
  have e1 : (redQ a b).1 = x := by
    unfold redQ
    dsimp only
    conv => lhs; arg 1; rw [hx]
    exact Int.mul_fdiv_cancel_left x hn
  have e2 : (redQ a b).2 = y := by
    unfold redQ
    dsimp only
    conv => lhs; arg 1; rw [hy]
    exact Int.mul_fdiv_cancel_left y hn
  have key : ∀ z w g : Int, g ≠ 0 → z = g * w → w.natAbs ≤ z.natAbs := fun z w g hg e => by
    rw [e, Int.natAbs_mul]
    exact Nat.le_mul_of_pos_left _ (by omega)
  refine ⟨?_, ?_⟩
  · rw [e1]
    exact Nat.lt_of_le_of_lt (key a x _ hn hx) h1
  · rw [e2]
    exact Nat.lt_of_le_of_lt (key b y _ hn hy) h2
theorem low1 {a : Int} : Low (a, 1) := ⟨Int.le_refl 1, by simp⟩
theorem low_add {x y : Qt} (px : 1 ≤ x.2) (py : 1 ≤ y.2) : Low (addQ x y) ∧ qv (addQ x y) = qv x + qv y := by
  unfold addQ
  have hx := rne (x := x.2) (by omega)
  have hy := rne (x := y.2) (by omega)
  split
  · rename_i h
    refine ⟨low1, ?_⟩
    unfold qv
    rw [h.1, h.2]
    dsimp only
    rw [Rat.intCast_add]
    grind
  · refine ⟨(redQ_low (pos_ne px py)).1, ?_⟩
    rw [qv_red (pos_ne px py)]
    unfold qv
    dsimp only
    rw [Rat.intCast_add, Rat.intCast_mul, Rat.intCast_mul, Rat.intCast_mul]
    grind
theorem qv_neg {x : Qt} : qv (negQ x) = -qv x := by
  unfold qv negQ
  dsimp only
  rw [Rat.intCast_neg]
  grind
theorem low_mul {x y : Qt} (px : 1 ≤ x.2) (py : 1 ≤ y.2) : Low (mulQ x y) ∧ qv (mulQ x y) = qv x * qv y := by
  unfold mulQ
  have hx := rne (x := x.2) (by omega)
  have hy := rne (x := y.2) (by omega)
  split
  · rename_i h
    refine ⟨low1, ?_⟩
    unfold qv
    rw [h.1, h.2]
    dsimp only
    rw [Rat.intCast_mul]
    grind
  · refine ⟨(redQ_low (pos_ne px py)).1, ?_⟩
    rw [qv_red (pos_ne px py)]
    unfold qv
    dsimp only
    rw [Rat.intCast_mul, Rat.intCast_mul]
    grind
theorem one_lt {n : Nat} (hn : 1 ≤ n) : (1 : Int).natAbs < 2 ^ n := Nat.lt_of_lt_of_le (show 1 < 2 ^ 1 by decide) (Nat.pow_le_pow_right (by decide) hn)
theorem add_W {x y : Qt} {n : Nat} (hn : 1 ≤ n) (px : 1 ≤ x.2) (py : 1 ≤ y.2) (hx : W n x) (hy : W n y) : W (n + n + 1) (addQ x y) := by
  unfold addQ
  split
  · have h := add_lt hx.1 hy.1
    exact ⟨Nat.lt_of_lt_of_le h (Nat.pow_le_pow_right (by decide) (by omega)), one_lt (by omega)⟩
  · refine red_W (pos_ne px py) (add_lt (mul_lt hx.1 hy.2) (mul_lt hy.1 hx.2)) ?_
    exact Nat.lt_of_lt_of_le (mul_lt hx.2 hy.2) (Nat.pow_le_pow_right (by decide) (by omega))
theorem mul_W {x y : Qt} {n : Nat} (hn : 1 ≤ n) (px : 1 ≤ x.2) (py : 1 ≤ y.2) (hx : W n x) (hy : W n y) : W (n + n) (mulQ x y) := by
  unfold mulQ
  split
  · exact ⟨mul_lt hx.1 hy.1, one_lt (by omega)⟩
  · exact red_W (pos_ne px py) (mul_lt hx.1 hy.1) (mul_lt hx.2 hy.2)
theorem div_W {x y : Qt} {n : Nat} (px : 1 ≤ x.2) (ny : y.1 ≠ 0) (hx : W n x) (hy : W n y) : W (n + n) (divQ x y) :=
  red_W (Int.mul_ne_zero (by omega) ny) (mul_lt hx.1 hy.2) (mul_lt hx.2 hy.1)
theorem low_div {x y : Qt} (px : 1 ≤ x.2) (py : 1 ≤ y.2) (ny : y.1 ≠ 0) : Low (divQ x y) ∧ (divQ x y).1 * (x.2 * y.1) = (x.1 * y.2) * (divQ x y).2 :=
  redQ_low (Int.mul_ne_zero (by omega) ny)
theorem isQt_of {q : Qt} (h : Low q) : isQt (dq q) = true := by
  show (decide (1 ≤ q.2) && decide (((Nat.gcd q.1.natAbs q.2.natAbs : Nat) : Int) = 1)) = true
  rw [decide_eq_true h.1, Bool.true_and, decide_eq_true_eq]
  have z : Int.gcd q.1 q.2 = 1 := h.2
  have e : Nat.gcd q.1.natAbs q.2.natAbs = 1 := z
  rw [e]
  rfl
/-- drawn quotients and spans -/
def Qok (q : Qt) : Prop := Low q ∧ W 40 q
theorem Qok.p {q : Qt} (h : Qok q) : 1 ≤ q.2 := h.1.1
theorem Qok.w {q : Qt} (h : Qok q) : W 3000 q := h.2.mono (by decide)
theorem Qok.q {q : Qt} (h : Qok q) : isQt (dq q) = true := isQt_of h.1
structure Spok (p : Qt × Qt) : Prop where
  a : Qok p.1
  b : Qok p.2
  le : qv p.1 ≤ qv p.2
theorem isSp_of {p : Qt × Qt} (a : Low p.1) (b : Low p.2) (h : qv p.1 ≤ qv p.2) : isSp p = true := by
  unfold isSp
  rw [isQt_of a, isQt_of b, decide_eq_true ((qv_le a.1 b.1).mp h)]
  rfl
theorem Spok.s {p : Qt × Qt} (h : Spok p) : isSp p = true := isSp_of h.a.1 h.b.1 h.le
/-! ### spans -/
theorem dsx0 {p : Qt × Qt} : fIx (ds p) (.int 0) st = .ok (dq p.1) st := rfl
theorem dsx1 {p : Qt × Qt} : fIx (ds p) (.int 1) st = .ok (dq p.2) st := rfl
theorem p_ask_span {p : Qt × Qt} (h : Spok p) : F_is_span [ds p] st = .ok (.bl true) st := by rw [p_is_span h.a.w h.b.w, h.s]
theorem p_span_plus {p q : Qt × Qt} (hp : Spok p) (hq : Spok q) : F_span_plus [ds p, ds q] st = .ok (ds (addQ p.1 q.1, addQ p.2 q.2)) st := by
  have e1 := p_ask_span (st := st) hq
  have e2 := p_ask_yes (st := st) (w := "other")
  have e3 := p_added (st := st) hp.a.w hq.a.w hp.a.p hq.a.p
  have e4 := p_added (st := st) hp.b.w hq.b.w hp.b.p hq.b.p
  simp -implicitDefEqProofs only [ap_fnF, ap_seq, ap_skip, ap_if, ap_ret, ap_asg, ap_asg2, ap_drop, ap_par, ap_par3, ap_unp, ap_for, ap_forL, ap_var, ap_c, ap_bin, ap_un, ap_nil, ap_cons, ap_call, ap_def, ap_tr, ap_not, ap_and, ap_or, ap_andv, ap_orv, ap_ife, ap_of, ap_mul, ap_div, ap_mod, ap_sub, ap_addi, ap_lt, ap_le, ap_gt, ap_ge, ap_eqi, ap_nei, ap_eqs, ap_neg, ap_tup, ap_truth, ap_bits, startD, List.map, List.length, List.replicate, Nat.reduceSub, Nat.reduceAdd, Nat.reduceLeDiff, List.nil_append, List.cons_append, List.append_nil, List.set, List.getElem?_cons_zero, List.getElem?_cons_succ, List.getElem?_nil, setAll, fIsi, isi, tyN, fNot, fLen, fGcd, fAbs, fInt, fMax2, eq_self, if_true, if_false, reduceIte, id_eq, decide_true, decide_false, Bool.false_eq_true, Bool.true_eq_false, Bool.not_true, Bool.not_false, Bool.true_or, Bool.false_or, Bool.or_true, Bool.or_false,F_span_plus, g_span_plus, dsx0, dsx1, e1, e2, e3, e4]
  rfl
theorem p_span_minus {p q : Qt × Qt} (hp : Spok p) (hq : Spok q) : F_span_minus [ds p, ds q] st = .ok (ds (addQ p.1 (negQ q.2), addQ p.2 (negQ q.1))) st := by
  have e1 := p_ask_span (st := st) hq
  have e2 := p_ask_yes (st := st) (w := "other")
  have e3 := p_taken_off (st := st) hp.a.w hq.b.w hp.a.p hq.b.p
  have e4 := p_taken_off (st := st) hp.b.w hq.a.w hp.b.p hq.a.p
  simp -implicitDefEqProofs only [ap_fnF, ap_seq, ap_skip, ap_if, ap_ret, ap_asg, ap_asg2, ap_drop, ap_par, ap_par3, ap_unp, ap_for, ap_forL, ap_var, ap_c, ap_bin, ap_un, ap_nil, ap_cons, ap_call, ap_def, ap_tr, ap_not, ap_and, ap_or, ap_andv, ap_orv, ap_ife, ap_of, ap_mul, ap_div, ap_mod, ap_sub, ap_addi, ap_lt, ap_le, ap_gt, ap_ge, ap_eqi, ap_nei, ap_eqs, ap_neg, ap_tup, ap_truth, ap_bits, startD, List.map, List.length, List.replicate, Nat.reduceSub, Nat.reduceAdd, Nat.reduceLeDiff, List.nil_append, List.cons_append, List.append_nil, List.set, List.getElem?_cons_zero, List.getElem?_cons_succ, List.getElem?_nil, setAll, fIsi, isi, tyN, fNot, fLen, fGcd, fAbs, fInt, fMax2, eq_self, if_true, if_false, reduceIte, id_eq, decide_true, decide_false, Bool.false_eq_true, Bool.true_eq_false, Bool.not_true, Bool.not_false, Bool.true_or, Bool.false_or, Bool.or_true, Bool.or_false,F_span_minus, g_span_minus, dsx0, dsx1, e1, e2, e3, e4]
  rfl
def prods (p q : Qt × Qt) : List Qt := [mulQ p.1 q.1, mulQ p.1 q.2, mulQ p.2 q.1, mulQ p.2 q.2]
def spanOf : List Qt → Qt × Qt
  | [] => ((0, 1), (0, 1))
  | q :: qs => (q :: qs).foldl spStep (q, q)
theorem prods_ok {p q : Qt × Qt} (hp : Spok p) (hq : Spok q) : ∀ z ∈ prods p q, Low z ∧ W 80 z := by
  intro z hz
  simp only [prods, List.mem_cons, List.not_mem_nil, or_false] at hz
  rcases hz with rfl | rfl | rfl | rfl
  · exact ⟨(low_mul hp.a.p hq.a.p).1, mul_W (by decide) hp.a.p hq.a.p hp.a.2 hq.a.2⟩
  · exact ⟨(low_mul hp.a.p hq.b.p).1, mul_W (by decide) hp.a.p hq.b.p hp.a.2 hq.b.2⟩
  · exact ⟨(low_mul hp.b.p hq.a.p).1, mul_W (by decide) hp.b.p hq.a.p hp.b.2 hq.a.2⟩
  · exact ⟨(low_mul hp.b.p hq.b.p).1, mul_W (by decide) hp.b.p hq.b.p hp.b.2 hq.b.2⟩
theorem p_span_times {p q : Qt × Qt} (hp : Spok p) (hq : Spok q) : F_span_times [ds p, ds q] st = .ok (ds (spanOf (prods p q))) st := by
  have e1 := p_ask_span (st := st) hq
  have e2 := p_ask_yes (st := st) (w := "other")
  have m1 := p_multiplied (st := st) hp.a.w hq.a.w hp.a.p hq.a.p
  have m2 := p_multiplied (st := st) hp.a.w hq.b.w hp.a.p hq.b.p
  have m3 := p_multiplied (st := st) hp.b.w hq.a.w hp.b.p hq.a.p
  have m4 := p_multiplied (st := st) hp.b.w hq.b.w hp.b.p hq.b.p
  have e3 : gLc2 false [2, 3] [3] (iSq (gVar 0)) (tgV 2) gYes (iSq (gVar 1)) (tgV 3) gYes (gDef 2 F_multiplied (gCons (gVar 2) (gCons (gVar 3) gNil))) [some (ds p), some (ds q), none, none] st = .ok (.lv ((prods p q).map dq)) st := by
    simp only [gLc2, iSq, ap_var, List.getElem?_cons_zero, List.getElem?_cons_succ, ds, lcLoop2, lcLoop, tgV, wipeD, List.set, gYes, ap_def, ap_cons, ap_nil, List.length, m1, m2, m3, m4, if_true, Nat.reduceAdd, List.append_nil, List.cons_append, List.nil_append]
    rfl
  have e4 := p_span_over (st := st) (q := mulQ p.1 q.1) (qs := [mulQ p.1 q.2, mulQ p.2 q.1, mulQ p.2 q.2]) (fun z hz => (prods_ok hp hq z hz).2.mono (by decide))
  have hs : startD N_span_times [ds p, ds q] = [some (ds p), some (ds q), none, none] := rfl
  unfold F_span_times
  rw [ap_fnF, hs]
  unfold g_span_times
  have e5 : F_span_over [.lv ((prods p q).map dq)] st = .ok (ds (spanOf (prods p q))) st := e4
  simp -implicitDefEqProofs only [ap_fnF, ap_seq, ap_skip, ap_if, ap_ret, ap_asg, ap_asg2, ap_drop, ap_par, ap_par3, ap_unp, ap_for, ap_forL, ap_var, ap_c, ap_bin, ap_un, ap_nil, ap_cons, ap_call, ap_def, ap_tr, ap_not, ap_and, ap_or, ap_andv, ap_orv, ap_ife, ap_of, ap_mul, ap_div, ap_mod, ap_sub, ap_addi, ap_lt, ap_le, ap_gt, ap_ge, ap_eqi, ap_nei, ap_eqs, ap_neg, ap_tup, ap_truth, ap_bits, startD, List.map, List.length, List.replicate, Nat.reduceSub, Nat.reduceAdd, Nat.reduceLeDiff, List.nil_append, List.cons_append, List.append_nil, List.set, List.getElem?_cons_zero, List.getElem?_cons_succ, List.getElem?_nil, setAll, fIsi, isi, tyN, fNot, fLen, fGcd, fAbs, fInt, fMax2, eq_self, if_true, if_false, reduceIte, id_eq, decide_true, decide_false, Bool.false_eq_true, Bool.true_eq_false, Bool.not_true, Bool.not_false, Bool.true_or, Bool.false_or, Bool.or_true, Bool.or_false,e1, e2, e3, e5]
def scals (p : Qt × Qt) (q : Qt) : List Qt := [mulQ p.1 q, mulQ p.2 q]
theorem p_scaled_span {p : Qt × Qt} {q : Qt} (hp : Spok p) (hq : Qok q) : F_scaled_span [ds p, dq q] st = .ok (ds (spanOf (scals p q))) st := by
  have e1 := p_ask_quotient (st := st) (d := dq q) rfl hq.q
  have m1 := p_multiplied (st := st) hp.a.w hq.w hp.a.p hq.p
  have m2 := p_multiplied (st := st) hp.b.w hq.w hp.b.p hq.p
  have e3 : gLc false [2] (iSq (gVar 0)) (tgV 2) gYes (gDef 2 F_multiplied (gCons (gVar 2) (gCons (gVar 1) gNil))) [some (ds p), some (dq q), none] st = .ok (.lv ((scals p q).map dq)) st := by
    simp only [gLc, iSq, ap_var, List.getElem?_cons_zero, List.getElem?_cons_succ, ds, lcLoop, tgV, wipeD, List.set, gYes, ap_def, ap_cons, ap_nil, List.length, m1, m2, if_true, Nat.reduceAdd, List.append_nil, List.cons_append, List.nil_append]
    rfl
  have e4 := p_span_over (st := st) (q := mulQ p.1 q) (qs := [mulQ p.2 q]) (fun z hz => by
    simp only [List.mem_cons, List.not_mem_nil, or_false] at hz
    rcases hz with rfl | rfl
    · exact (mul_W (by decide) hp.a.p hq.p hp.a.2 hq.2).mono (by decide)
    · exact (mul_W (by decide) hp.b.p hq.p hp.b.2 hq.2).mono (by decide))
  have hs : startD N_scaled_span [ds p, dq q] = [some (ds p), some (dq q), none] := rfl
  unfold F_scaled_span
  rw [ap_fnF, hs]
  unfold g_scaled_span
  have e5 : F_span_over [.lv ((scals p q).map dq)] st = .ok (ds (spanOf (scals p q))) st := e4
  simp -implicitDefEqProofs only [ap_fnF, ap_seq, ap_skip, ap_if, ap_ret, ap_asg, ap_asg2, ap_drop, ap_par, ap_par3, ap_unp, ap_for, ap_forL, ap_var, ap_c, ap_bin, ap_un, ap_nil, ap_cons, ap_call, ap_def, ap_tr, ap_not, ap_and, ap_or, ap_andv, ap_orv, ap_ife, ap_of, ap_mul, ap_div, ap_mod, ap_sub, ap_addi, ap_lt, ap_le, ap_gt, ap_ge, ap_eqi, ap_nei, ap_eqs, ap_neg, ap_tup, ap_truth, ap_bits, startD, List.map, List.length, List.replicate, Nat.reduceSub, Nat.reduceAdd, Nat.reduceLeDiff, List.nil_append, List.cons_append, List.append_nil, List.set, List.getElem?_cons_zero, List.getElem?_cons_succ, List.getElem?_nil, setAll, fIsi, isi, tyN, fNot, fLen, fGcd, fAbs, fInt, fMax2, eq_self, if_true, if_false, reduceIte, id_eq, decide_true, decide_false, Bool.false_eq_true, Bool.true_eq_false, Bool.not_true, Bool.not_false, Bool.true_or, Bool.false_or, Bool.or_true, Bool.or_false,e1, e3, e5]
def heldQ (p : Qt × Qt) (q : Qt) : Bool := !ltQ q p.1 && !ltQ p.2 q
theorem p_holds {p : Qt × Qt} {q : Qt} (hp : Spok p) (hq : Qok q) : F_holds [ds p, dq q] st = .ok (.bl (heldQ p q)) st := by
  have e1 := p_ask_quotient (st := st) (d := dq q) rfl hq.q
  have e2 := p_is_less (st := st) hq.w hp.a.w
  have e3 := p_is_less (st := st) hp.b.w hq.w
  unfold heldQ
  cases h1 : ltQ q p.1 <;> rw [h1] at e2 <;> simp -implicitDefEqProofs only [ap_fnF, ap_seq, ap_skip, ap_if, ap_ret, ap_asg, ap_asg2, ap_drop, ap_par, ap_par3, ap_unp, ap_for, ap_forL, ap_var, ap_c, ap_bin, ap_un, ap_nil, ap_cons, ap_call, ap_def, ap_tr, ap_not, ap_and, ap_or, ap_andv, ap_orv, ap_ife, ap_of, ap_mul, ap_div, ap_mod, ap_sub, ap_addi, ap_lt, ap_le, ap_gt, ap_ge, ap_eqi, ap_nei, ap_eqs, ap_neg, ap_tup, ap_truth, ap_bits, startD, List.map, List.length, List.replicate, Nat.reduceSub, Nat.reduceAdd, Nat.reduceLeDiff, List.nil_append, List.cons_append, List.append_nil, List.set, List.getElem?_cons_zero, List.getElem?_cons_succ, List.getElem?_nil, setAll, fIsi, isi, tyN, fNot, fLen, fGcd, fAbs, fInt, fMax2, eq_self, if_true, if_false, reduceIte, id_eq, decide_true, decide_false, Bool.false_eq_true, Bool.true_eq_false, Bool.not_true, Bool.not_false, Bool.true_or, Bool.false_or, Bool.or_true, Bool.or_false,F_holds, g_holds, dsx0, dsx1, e1, e2, e3, Bool.false_and, Bool.true_and]
theorem p_span_within {p q : Qt × Qt} (hp : Spok p) (hq : Spok q) : F_span_within [ds p, ds q] st = .ok (.bl (heldQ q p.1 && heldQ q p.2)) st := by
  have e1 := p_ask_span (st := st) hq
  have e2 := p_ask_yes (st := st) (w := "other")
  have e3 := p_holds (st := st) hq hp.a
  have e4 := p_holds (st := st) hq hp.b
  cases h1 : heldQ q p.1 <;> rw [h1] at e3 <;> simp -implicitDefEqProofs only [ap_fnF, ap_seq, ap_skip, ap_if, ap_ret, ap_asg, ap_asg2, ap_drop, ap_par, ap_par3, ap_unp, ap_for, ap_forL, ap_var, ap_c, ap_bin, ap_un, ap_nil, ap_cons, ap_call, ap_def, ap_tr, ap_not, ap_and, ap_or, ap_andv, ap_orv, ap_ife, ap_of, ap_mul, ap_div, ap_mod, ap_sub, ap_addi, ap_lt, ap_le, ap_gt, ap_ge, ap_eqi, ap_nei, ap_eqs, ap_neg, ap_tup, ap_truth, ap_bits, startD, List.map, List.length, List.replicate, Nat.reduceSub, Nat.reduceAdd, Nat.reduceLeDiff, List.nil_append, List.cons_append, List.append_nil, List.set, List.getElem?_cons_zero, List.getElem?_cons_succ, List.getElem?_nil, setAll, fIsi, isi, tyN, fNot, fLen, fGcd, fAbs, fInt, fMax2, eq_self, if_true, if_false, reduceIte, id_eq, decide_true, decide_false, Bool.false_eq_true, Bool.true_eq_false, Bool.not_true, Bool.not_false, Bool.true_or, Bool.false_or, Bool.or_true, Bool.or_false,F_span_within, g_span_within, dsx0, dsx1, e1, e2, e3, e4, Bool.false_and, Bool.true_and]
theorem p_spans_apart {p q : Qt × Qt} (hp : Spok p) (hq : Spok q) : F_spans_apart [ds p, ds q] st = .ok (.bl (ltQ p.2 q.1 || ltQ q.2 p.1)) st := by
  have e1 := p_ask_span (st := st) hq
  have e2 := p_ask_yes (st := st) (w := "other")
  have e3 := p_is_less (st := st) hp.b.w hq.a.w
  have e4 := p_is_less (st := st) hq.b.w hp.a.w
  cases h1 : ltQ p.2 q.1 <;> rw [h1] at e3 <;> simp -implicitDefEqProofs only [ap_fnF, ap_seq, ap_skip, ap_if, ap_ret, ap_asg, ap_asg2, ap_drop, ap_par, ap_par3, ap_unp, ap_for, ap_forL, ap_var, ap_c, ap_bin, ap_un, ap_nil, ap_cons, ap_call, ap_def, ap_tr, ap_not, ap_and, ap_or, ap_andv, ap_orv, ap_ife, ap_of, ap_mul, ap_div, ap_mod, ap_sub, ap_addi, ap_lt, ap_le, ap_gt, ap_ge, ap_eqi, ap_nei, ap_eqs, ap_neg, ap_tup, ap_truth, ap_bits, startD, List.map, List.length, List.replicate, Nat.reduceSub, Nat.reduceAdd, Nat.reduceLeDiff, List.nil_append, List.cons_append, List.append_nil, List.set, List.getElem?_cons_zero, List.getElem?_cons_succ, List.getElem?_nil, setAll, fIsi, isi, tyN, fNot, fLen, fGcd, fAbs, fInt, fMax2, eq_self, if_true, if_false, reduceIte, id_eq, decide_true, decide_false, Bool.false_eq_true, Bool.true_eq_false, Bool.not_true, Bool.not_false, Bool.true_or, Bool.false_or, Bool.or_true, Bool.or_false,F_spans_apart, g_spans_apart, dsx0, dsx1, e1, e2, e3, e4]
end K00
end Sv
set_option Elab.async false
set_option linter.all false
set_option maxRecDepth 100000
set_option maxHeartbeats 4000000
set_option exponentiation.threshold 10000
namespace Sv
open PySem PySem.Spec PyProof.Rows L2
theorem isi_tup {st : S} {xs : List D} : fIsi [.tup xs, .ty "tuple"] st = .ok (.bl true) st := rfl
/-! ### loops of comprehensions, said of lists -/
theorem lc_map {t : D → En → Option En} {ge : G} {r0 : En} {st : S} (f : D → D) : ∀ {ds : List D}, (∀ d ∈ ds, ∃ r1, t d r0 = some r1 ∧ ge r1 st = .ok (f d) st) → lcLoop t gYes ge r0 ds st = .ok (ds.map f) st
  | [], _ => rfl
  | d :: ds, h => by
    obtain ⟨r1, e1, e2⟩ := h d (List.mem_cons_self ..)
    unfold lcLoop
    rw [e1]
    dsimp only [gYes]
    rw [e2]
    dsimp only
    rw [lc_map f fun d hd => h d (List.mem_cons_of_mem _ hd)]
    rfl
theorem lc_filter {t : D → En → Option En} {gt : GT} {ge : G} {r0 : En} {st : S} (p : D → Bool) (f : D → D) : ∀ {ds : List D}, (∀ d ∈ ds, ∃ r1, t d r0 = some r1 ∧ gt r1 st = .ok (p d) st ∧ ge r1 st = .ok (f d) st) → lcLoop t gt ge r0 ds st = .ok ((ds.filter p).map f) st
  | [], _ => rfl
  | d :: ds, h => by
    obtain ⟨r1, e1, e2, e3⟩ := h d (List.mem_cons_self ..)
    have ih := lc_filter p f (st := st) (gt := gt) (ge := ge) (t := t) (r0 := r0) fun d hd => h d (List.mem_cons_of_mem _ hd)
    unfold lcLoop
    rw [e1]
    dsimp only
    rw [e2]
    cases hp : p d with
    | true =>
      dsimp only
      rw [e3]
      dsimp only
      rw [ih, List.filter_cons_of_pos hp]
      rfl
    | false =>
      dsimp only
      rw [ih, List.filter_cons_of_neg (by rw [hp]; exact Bool.false_ne_true)]
theorem atI_nat {ds : List D} {k : Nat} : atI ds (k : Int) = ds[k]? := by
  unfold atI ixN
  by_cases h : k < ds.length
  · simp [h]
  · rw [List.getElem?_eq_none (by omega)]
    simp [h]
theorem tix {st : S} {ds : List D} {k : Nat} {d : D} (h : ds[k]? = some d) : fIx (.tup ds) (.int (k : Int)) st = .ok d st := by
  show (match atI ds k with | some x => R.ok x st | none => R.bad) = _
  rw [atI_nat, h]
def di (k : Nat) : D := .int (k : Int)
theorem rangeD0 {n : Nat} : rangeD 0 n = (List.range n).map di := by
  unfold rangeD
  refine List.map_congr_left fun k _ => ?_
  rw [Int.zero_add]
  rfl
theorem gLc_ok {c : Bool} {vs : List Nat} {gi : GA} {t : D → En → Option En} {gt : GT} {ge : G} {r : En} {st st1 st2 : S} {ds ys : List D} (h1 : gi r st = .ok ds st1) (h2 : lcLoop t gt ge (wipeD r vs) ds st1 = .ok ys st2) : gLc c vs gi t gt ge r st = nl c ys st2 := by
  unfold gLc
  rw [h1]
  dsimp only
  rw [h2]
  rfl
theorem gTupGe_ok {vs : List Nat} {gi : GA} {t : D → En → Option En} {gt : GT} {ge : G} {r : En} {st st1 st2 : S} {ds ys : List D} (h1 : gi r st = .ok ds st1) (h2 : lcLoop t gt ge (wipeD r vs) ds st1 = .ok ys st2) (hl : ys.length ≤ 100000) : gTupGe vs gi t gt ge r st = .ok (.tup ys) st2 := by
  unfold gTupGe
  rw [h1]
  dsimp only
  rw [h2]
  dsimp only
  rw [if_pos hl]
theorem nl_lv {ys : List D} {st : S} (h : ys.length ≤ 100000) : nl false ys st = .ok (.lv ys) st := by
  unfold nl
  rw [if_pos h, if_neg Bool.false_ne_true]
theorem nl_loc {ys : List D} {st : S} (h : ys.length ≤ 100000) : nl true ys st = .ok (.loc st.length) (st ++ [ys]) := by
  unfold nl
  rw [if_pos h, if_pos rfl]
theorem range1_ok {gr : GA} {r : En} {st : S} {n : Nat} (h : gr r st = .ok [di n] st) (hn : n ≤ 100000) : iOf iRange1 gr r st = .ok (rangeD 0 n) st := by
  have s : small (n : Int) = true := by
    unfold small
    simp only [Bool.and_eq_true, decide_eq_true_eq]
    omega
  unfold iOf
  rw [h]
  show (if small (n : Int) = true then R.ok (rangeD 0 (n : Int).toNat) st else R.bad) = _
  rw [if_pos s, Int.toNat_natCast]
theorem allBl_map' {α : Type} (f : α → Bool) : ∀ xs : List α, allBl (xs.map fun x => .bl (f x)) = some (xs.map f)
  | [] => rfl
  | x :: xs => by
    show (allBl (xs.map fun x => .bl (f x))).map _ = _
    rw [allBl_map' f xs]
    rfl
theorem fAll_ok {α : Type} (f : α → Bool) {xs : List α} {st : S} : fAll [.lv (xs.map fun x => .bl (f x))] st = .ok (.bl (xs.all f)) st := by
  unfold fAll
  dsimp only
  rw [show allBl (xs.map fun x => .bl (f x)) = some (xs.map f) from allBl_map' f xs]
  simp
namespace K00
variable {st : S}
/-! ### points -/
def dp (qs : List Qt) : D := .tup (qs.map dq)
def db (ps : List (Qt × Qt)) : D := .tup (ps.map ds)
def isPt (n : Int) : D → Bool
  | .tup ds => decide ((ds.length : Int) = n) && ds.all isQt
  | _ => false
theorem nts_mem : ∀ {ds : List D} {d : D}, nts ds = true → d ∈ ds → nt d = true
  | e :: ds, d, h, hd => by
    have h : (nt e && nts ds) = true := h
    obtain ⟨h1, h2⟩ := Bool.and_eq_true_iff.mp h
    rcases List.mem_cons.mp hd with z | z
    · rw [z]
      exact h1
    · exact nts_mem h2 z
theorem p_is_point {n : Int} {d : D} (h : nt d = true) (hl : ∀ ds, d = .tup ds → ds.length ≤ 100000) : F_is_point [.int n, d] st = .ok (.bl (isPt n d)) st := by
  cases d with
  | tup ds =>
    have hs : startD N_is_point [.int n, .tup ds] = [some (.int n), some (.tup ds), none] := rfl
    unfold F_is_point
    rw [ap_fnF, hs]
    unfold g_is_point
    have e0 : fLen [.tup ds] st = .ok (.int ds.length) st := rfl
    have e1 : gLc false [2] (iSq (gVar 1)) (tgV 2) gYes (gDef 1 F_is_quotient (gCons (gVar 2) gNil)) [some (.int n), some (.tup ds), none] st = .ok (.lv (ds.map fun d => .bl (isQt d))) st := by
      have l := lc_map (st := st) (t := tgV 2) (ge := gDef 1 F_is_quotient (gCons (gVar 2) gNil)) (r0 := [some (.int n), some (.tup ds), none]) (fun d => .bl (isQt d)) (ds := ds) fun d hd => ⟨[some (.int n), some (.tup ds), some d], rfl, by
        have q := p_is_quotient (st := st) (nts_mem h hd)
        simp -implicitDefEqProofs only [ap_fnF, ap_seq, ap_skip, ap_if, ap_ret, ap_asg, ap_asg2, ap_drop, ap_par, ap_par3, ap_unp, ap_for, ap_forL, ap_var, ap_c, ap_bin, ap_un, ap_nil, ap_cons, ap_call, ap_def, ap_tr, ap_not, ap_and, ap_or, ap_andv, ap_orv, ap_ife, ap_of, ap_mul, ap_div, ap_mod, ap_sub, ap_addi, ap_lt, ap_le, ap_gt, ap_ge, ap_eqi, ap_nei, ap_eqs, ap_neg, ap_tup, ap_truth, ap_bits, startD, List.map, List.length, List.replicate, Nat.reduceSub, Nat.reduceAdd, Nat.reduceLeDiff, List.nil_append, List.cons_append, List.append_nil, List.set, List.getElem?_cons_zero, List.getElem?_cons_succ, List.getElem?_nil, setAll, fIsi, isi, tyN, fNot, fLen, fGcd, fAbs, fInt, fMax2, eq_self, if_true, if_false, reduceIte, id_eq, decide_true, decide_false, Bool.false_eq_true, Bool.true_eq_false, Bool.not_true, Bool.not_false, Bool.true_or, Bool.false_or, Bool.or_true, Bool.or_false,q]⟩
      rw [gLc_ok (ds := ds) rfl l, nl_lv (by rw [List.length_map]; exact hl ds rfl)]
    have e2 := fAll_ok isQt (xs := ds) (st := st)
    have e3 : isPt n (.tup ds) = (decide ((ds.length : Int) = n) && ds.all isQt) := rfl
    rw [e3]
    have e4 := isi_tup (st := st) (xs := ds)
    generalize (ds.map fun d => D.bl (isQt d)) = bs at e1 e2
    cases k : decide ((ds.length : Int) = n) <;> simp -implicitDefEqProofs only [ap_fnF, ap_seq, ap_skip, ap_if, ap_ret, ap_asg, ap_asg2, ap_drop, ap_par, ap_par3, ap_unp, ap_for, ap_forL, ap_var, ap_c, ap_bin, ap_un, ap_nil, ap_cons, ap_call, ap_def, ap_tr, ap_not, ap_and, ap_or, ap_andv, ap_orv, ap_ife, ap_of, ap_mul, ap_div, ap_mod, ap_sub, ap_addi, ap_lt, ap_le, ap_gt, ap_ge, ap_eqi, ap_nei, ap_eqs, ap_neg, ap_truth, ap_bits, List.length, Nat.reduceSub, Nat.reduceAdd, Nat.reduceLeDiff, List.nil_append, List.cons_append, List.append_nil, List.set, List.getElem?_cons_zero, List.getElem?_cons_succ, List.getElem?_nil, setAll, fNot, eq_self, if_true, if_false, reduceIte, id_eq, decide_true, decide_false, Bool.false_eq_true, Bool.true_eq_false, Bool.not_true, Bool.not_false, Bool.true_or, Bool.false_or, Bool.or_true, Bool.or_false, Bool.true_and, Bool.false_and, Bool.and_true, Bool.and_false,e4, e0, k, e1, e2]
  | ty n => cases h
  | _ =>
    simp -implicitDefEqProofs only [ap_fnF, ap_seq, ap_skip, ap_if, ap_ret, ap_asg, ap_asg2, ap_drop, ap_par, ap_par3, ap_unp, ap_for, ap_forL, ap_var, ap_c, ap_bin, ap_un, ap_nil, ap_cons, ap_call, ap_def, ap_tr, ap_not, ap_and, ap_or, ap_andv, ap_orv, ap_ife, ap_of, ap_mul, ap_div, ap_mod, ap_sub, ap_addi, ap_lt, ap_le, ap_gt, ap_ge, ap_eqi, ap_nei, ap_eqs, ap_neg, ap_tup, ap_truth, ap_bits, startD, List.map, List.length, List.replicate, Nat.reduceSub, Nat.reduceAdd, Nat.reduceLeDiff, List.nil_append, List.cons_append, List.append_nil, List.set, List.getElem?_cons_zero, List.getElem?_cons_succ, List.getElem?_nil, setAll, fIsi, isi, tyN, fNot, fLen, fGcd, fAbs, fInt, fMax2, eq_self, if_true, if_false, reduceIte, id_eq, decide_true, decide_false, Bool.false_eq_true, Bool.true_eq_false, Bool.not_true, Bool.not_false, Bool.true_or, Bool.false_or, Bool.or_true, Bool.or_false,F_is_point, g_is_point, isPt] <;> simp
theorem isPt_dp {qs : List Qt} (h : ∀ q ∈ qs, Low q) : isPt (qs.length : Int) (dp qs) = true := by
  show (decide (((qs.map dq).length : Int) = qs.length) && (qs.map dq).all isQt) = true
  rw [List.length_map, decide_eq_true rfl, Bool.true_and, List.all_eq_true]
  intro d hd
  obtain ⟨q, hq, e⟩ := List.mem_map.mp hd
  rw [← e]
  exact isQt_of (h q hq)
theorem nts_map {α : Type} {f : α → D} (h : ∀ a, nt (f a) = true) : ∀ xs : List α, nts (xs.map f) = true
  | [] => rfl
  | x :: xs => by
    show (nt (f x) && nts (xs.map f)) = true
    rw [h x, nts_map h xs]
    rfl
theorem nt_dp {qs : List Qt} : nt (dp qs) = true := nts_map (fun _ => rfl) qs
theorem p_ask_point {n : Int} {d : D} (h : nt d = true) (hl : ∀ ds, d = .tup ds → ds.length ≤ 100000) (k : isPt n d = true) : F_ask_point [.int n, d] st = .ok .non st := by
  have q := p_is_point (st := st) (n := n) h hl
  rw [k] at q
  have a := p_ask_yes (st := st) (w := "point")
  have hs : startD N_ask_point [.int n, d] = [some (.int n), some d] := rfl
  unfold F_ask_point
  rw [ap_fnF, hs]
  unfold g_ask_point
  simp -implicitDefEqProofs only [ap_fnF, ap_seq, ap_skip, ap_if, ap_ret, ap_asg, ap_asg2, ap_drop, ap_par, ap_par3, ap_unp, ap_for, ap_forL, ap_var, ap_c, ap_bin, ap_un, ap_nil, ap_cons, ap_call, ap_def, ap_tr, ap_not, ap_and, ap_or, ap_andv, ap_orv, ap_ife, ap_of, ap_mul, ap_div, ap_mod, ap_sub, ap_addi, ap_lt, ap_le, ap_gt, ap_ge, ap_eqi, ap_nei, ap_eqs, ap_neg, ap_tup, ap_truth, ap_bits, startD, List.map, List.length, List.replicate, Nat.reduceSub, Nat.reduceAdd, Nat.reduceLeDiff, List.nil_append, List.cons_append, List.append_nil, List.set, List.getElem?_cons_zero, List.getElem?_cons_succ, List.getElem?_nil, setAll, fIsi, isi, tyN, fNot, fLen, fGcd, fAbs, fInt, fMax2, eq_self, if_true, if_false, reduceIte, id_eq, decide_true, decide_false, Bool.false_eq_true, Bool.true_eq_false, Bool.not_true, Bool.not_false, Bool.true_or, Bool.false_or, Bool.or_true, Bool.or_false,q, a]
theorem p_ask_point_no {n : Int} {d : D} (h : nt d = true) (hl : ∀ ds, d = .tup ds → ds.length ≤ 100000) (k : isPt n d = false) : F_ask_point [.int n, d] st = .err "NotUsable" [("at", .int (-1)), ("word", .str "point")] st := by
  have q := p_is_point (st := st) (n := n) h hl
  rw [k] at q
  have a := p_ask_no (st := st) (w := "point")
  have hs : startD N_ask_point [.int n, d] = [some (.int n), some d] := rfl
  unfold F_ask_point
  rw [ap_fnF, hs]
  unfold g_ask_point
  simp -implicitDefEqProofs only [ap_fnF, ap_seq, ap_skip, ap_if, ap_ret, ap_asg, ap_asg2, ap_drop, ap_par, ap_par3, ap_unp, ap_for, ap_forL, ap_var, ap_c, ap_bin, ap_un, ap_nil, ap_cons, ap_call, ap_def, ap_tr, ap_not, ap_and, ap_or, ap_andv, ap_orv, ap_ife, ap_of, ap_mul, ap_div, ap_mod, ap_sub, ap_addi, ap_lt, ap_le, ap_gt, ap_ge, ap_eqi, ap_nei, ap_eqs, ap_neg, ap_tup, ap_truth, ap_bits, startD, List.map, List.length, List.replicate, Nat.reduceSub, Nat.reduceAdd, Nat.reduceLeDiff, List.nil_append, List.cons_append, List.append_nil, List.set, List.getElem?_cons_zero, List.getElem?_cons_succ, List.getElem?_nil, setAll, fIsi, isi, tyN, fNot, fLen, fGcd, fAbs, fInt, fMax2, eq_self, if_true, if_false, reduceIte, id_eq, decide_true, decide_false, Bool.false_eq_true, Bool.true_eq_false, Bool.not_true, Bool.not_false, Bool.true_or, Bool.false_or, Bool.or_true, Bool.or_false,q, a]
/-! ### boxes -/
def Bok (ps : List (Qt × Qt)) : Prop := (∀ p ∈ ps, Spok p) ∧ ps.length ≤ 8
theorem len_db {ps : List (Qt × Qt)} : fLen [db ps] st = .ok (.int ps.length) st := by
  show R.ok (D.int ((ps.map ds).length : Nat)) st = _
  rw [List.length_map]
theorem small_n {n : Nat} (h : n ≤ 100000) : small (n : Int) = true := by
  unfold small
  simp only [Bool.and_eq_true, decide_eq_true_eq]
  omega
theorem dbix {ps : List (Qt × Qt)} {k : Nat} {p : Qt × Qt} (h : ps[k]? = some p) : fIx (db ps) (.int (k : Int)) st = .ok (ds p) st := tix (by rw [List.getElem?_map, h]; rfl)
theorem dpix {qs : List Qt} {k : Nat} {p : Qt} (h : qs[k]? = some p) : fIx (dp qs) (.int (k : Int)) st = .ok (dq p) st := tix (by rw [List.getElem?_map, h]; rfl)
theorem range_int {d : D} {n : Nat} (h : d ∈ rangeD 0 n) : ∃ k, k < n ∧ d = .int (k : Int) := by
  rw [rangeD0] at h
  obtain ⟨k, hk, e⟩ := List.mem_map.mp h
  exact ⟨k, List.mem_range.mp hk, e.symm⟩
def inB (ps : List (Qt × Qt)) (qs : List Qt) : Bool := (List.range ps.length).all fun k => heldQ (ps.getD k ((0, 1), (0, 1))) (qs.getD k (0, 1))
theorem p_in_box {ps : List (Qt × Qt)} {qs : List Qt} (hb : Bok ps) (hq : ∀ q ∈ qs, Qok q) (hl : qs.length = ps.length) : F_in_box [db ps, dp qs] st = .ok (.bl (inB ps qs)) st := by
  have a := p_ask_point (st := st) (n := (ps.length : Int)) (d := dp qs) nt_dp (fun _ e => by cases e; rw [List.length_map]; have := hb.2; omega) (by rw [← hl]; exact isPt_dp fun q h => (hq q h).1)
  have e0 := len_db (st := st) (ps := ps)
  have hs : startD N_in_box [db ps, dp qs] = [some (db ps), some (dp qs), none] := rfl
  have e1 : gLc false [2] (iOf iRange1 (gCons (gCall fLen (gCons (gVar 0) gNil)) gNil)) (tgV 2) gYes (gDef 2 F_holds (gCons (gBin fIx (gVar 0) (gVar 2)) (gCons (gBin fIx (gVar 1) (gVar 2)) gNil))) [some (db ps), some (dp qs), none] st =
      .ok (.lv ((List.range ps.length).map fun k => .bl (heldQ (ps.getD k ((0, 1), (0, 1))) (qs.getD k (0, 1))))) st := by
    have l := lc_map (st := st) (t := tgV 2) (ge := gDef 2 F_holds (gCons (gBin fIx (gVar 0) (gVar 2)) (gCons (gBin fIx (gVar 1) (gVar 2)) gNil))) (r0 := [some (db ps), some (dp qs), none])
      (fun d => match d with | D.int k => D.bl (heldQ (ps.getD k.toNat ((0, 1), (0, 1))) (qs.getD k.toNat (0, 1))) | _ => D.non) (ds := rangeD 0 ps.length) fun d hd => by
        obtain ⟨k, hk, rfl⟩ := range_int hd
        refine ⟨[some (db ps), some (dp qs), some (.int k)], rfl, ?_⟩
        have h1 : ps[k]? = some (ps[k]'hk) := List.getElem?_eq_getElem hk
        have h2 : qs[k]? = some (qs[k]'(by omega)) := List.getElem?_eq_getElem (by omega)
        have q := p_holds (st := st) (hb.1 _ (List.mem_of_getElem? h1)) (hq _ (List.mem_of_getElem? h2))
        simp -implicitDefEqProofs only [ap_fnF, ap_seq, ap_skip, ap_if, ap_ret, ap_asg, ap_asg2, ap_drop, ap_par, ap_par3, ap_unp, ap_for, ap_forL, ap_var, ap_c, ap_bin, ap_un, ap_nil, ap_cons, ap_call, ap_def, ap_tr, ap_not, ap_and, ap_or, ap_andv, ap_orv, ap_ife, ap_of, ap_mul, ap_div, ap_mod, ap_sub, ap_addi, ap_lt, ap_le, ap_gt, ap_ge, ap_eqi, ap_nei, ap_eqs, ap_neg, ap_tup, ap_truth, ap_bits, startD, List.map, List.length, List.replicate, Nat.reduceSub, Nat.reduceAdd, Nat.reduceLeDiff, List.nil_append, List.cons_append, List.append_nil, List.set, List.getElem?_cons_zero, List.getElem?_cons_succ, List.getElem?_nil, setAll, fIsi, isi, tyN, fNot, fLen, fGcd, fAbs, fInt, fMax2, eq_self, if_true, if_false, reduceIte, id_eq, decide_true, decide_false, Bool.false_eq_true, Bool.true_eq_false, Bool.not_true, Bool.not_false, Bool.true_or, Bool.false_or, Bool.or_true, Bool.or_false,dbix h1, dpix h2, q]
        simp only [Int.toNat_natCast, List.getD_eq_getElem?_getD, h1, h2, Option.getD_some]
    have g1 : iOf iRange1 (gCons (gCall fLen (gCons (gVar 0) gNil)) gNil) [some (db ps), some (dp qs), none] st = .ok (rangeD 0 ps.length) st := range1_ok (by simp -implicitDefEqProofs only [ap_fnF, ap_seq, ap_skip, ap_if, ap_ret, ap_asg, ap_asg2, ap_drop, ap_par, ap_par3, ap_unp, ap_for, ap_forL, ap_var, ap_c, ap_bin, ap_un, ap_nil, ap_cons, ap_call, ap_def, ap_tr, ap_not, ap_and, ap_or, ap_andv, ap_orv, ap_ife, ap_of, ap_mul, ap_div, ap_mod, ap_sub, ap_addi, ap_lt, ap_le, ap_gt, ap_ge, ap_eqi, ap_nei, ap_eqs, ap_neg, ap_truth, ap_bits, List.length, Nat.reduceSub, Nat.reduceAdd, Nat.reduceLeDiff, List.nil_append, List.cons_append, List.append_nil, List.set, List.getElem?_cons_zero, List.getElem?_cons_succ, List.getElem?_nil, setAll, fNot, eq_self, if_true, if_false, reduceIte, id_eq, decide_true, decide_false, Bool.false_eq_true, Bool.true_eq_false, Bool.not_true, Bool.not_false, Bool.true_or, Bool.false_or, Bool.or_true, Bool.or_false, Bool.true_and, Bool.false_and, Bool.and_true, Bool.and_false,e0]; rfl) (by have := hb.2; omega)
    have em : (rangeD 0 ps.length).map (fun d => match d with | D.int k => D.bl (heldQ (ps.getD k.toNat ((0, 1), (0, 1))) (qs.getD k.toNat (0, 1))) | _ => D.non) = (List.range ps.length).map fun k => .bl (heldQ (ps.getD k ((0, 1), (0, 1))) (qs.getD k (0, 1))) := by
      rw [rangeD0, List.map_map]
      rfl
    rw [em] at l
    rw [gLc_ok g1 l, nl_lv (by rw [List.length_map, List.length_range]; have := hb.2; omega)]
  have e2 : fAll [.lv ((List.range ps.length).map fun k => .bl (heldQ (ps.getD k ((0, 1), (0, 1))) (qs.getD k (0, 1))))] st = .ok (.bl (inB ps qs)) st := fAll_ok (fun k => heldQ (ps.getD k ((0, 1), (0, 1))) (qs.getD k (0, 1))) (xs := List.range ps.length) (st := st)
  generalize ((List.range ps.length).map fun k => D.bl (heldQ (ps.getD k ((0, 1), (0, 1))) (qs.getD k (0, 1)))) = bs at e1 e2
  unfold F_in_box
  rw [ap_fnF, hs]
  unfold g_in_box
  simp -implicitDefEqProofs only [ap_fnF, ap_seq, ap_skip, ap_if, ap_ret, ap_asg, ap_asg2, ap_drop, ap_par, ap_par3, ap_unp, ap_for, ap_forL, ap_var, ap_c, ap_bin, ap_un, ap_nil, ap_cons, ap_call, ap_def, ap_tr, ap_not, ap_and, ap_or, ap_andv, ap_orv, ap_ife, ap_of, ap_mul, ap_div, ap_mod, ap_sub, ap_addi, ap_lt, ap_le, ap_gt, ap_ge, ap_eqi, ap_nei, ap_eqs, ap_neg, ap_truth, ap_bits, List.length, Nat.reduceSub, Nat.reduceAdd, Nat.reduceLeDiff, List.nil_append, List.cons_append, List.append_nil, List.set, List.getElem?_cons_zero, List.getElem?_cons_succ, List.getElem?_nil, setAll, fNot, eq_self, if_true, if_false, reduceIte, id_eq, decide_true, decide_false, Bool.false_eq_true, Bool.true_eq_false, Bool.not_true, Bool.not_false, Bool.true_or, Bool.false_or, Bool.or_true, Bool.or_false, Bool.true_and, Bool.false_and, Bool.and_true, Bool.and_false,e0, a, e1, e2]
theorem p_in_box_no {ps : List (Qt × Qt)} {d : D} (h : nt d = true) (hl : ∀ ds, d = .tup ds → ds.length ≤ 100000) (k : isPt (ps.length : Int) d = false) : F_in_box [db ps, d] st = .err "NotUsable" [("at", .int (-1)), ("word", .str "point")] st := by
  have a := p_ask_point_no (st := st) (n := (ps.length : Int)) (d := d) h hl k
  have e0 := len_db (st := st) (ps := ps)
  have hs : startD N_in_box [db ps, d] = [some (db ps), some d, none] := rfl
  unfold F_in_box
  rw [ap_fnF, hs]
  unfold g_in_box
  simp -implicitDefEqProofs only [ap_fnF, ap_seq, ap_skip, ap_if, ap_ret, ap_asg, ap_asg2, ap_drop, ap_par, ap_par3, ap_unp, ap_for, ap_forL, ap_var, ap_c, ap_bin, ap_un, ap_nil, ap_cons, ap_call, ap_def, ap_tr, ap_not, ap_and, ap_or, ap_andv, ap_orv, ap_ife, ap_of, ap_mul, ap_div, ap_mod, ap_sub, ap_addi, ap_lt, ap_le, ap_gt, ap_ge, ap_eqi, ap_nei, ap_eqs, ap_neg, ap_truth, ap_bits, List.length, Nat.reduceSub, Nat.reduceAdd, Nat.reduceLeDiff, List.nil_append, List.cons_append, List.append_nil, List.set, List.getElem?_cons_zero, List.getElem?_cons_succ, List.getElem?_nil, setAll, fNot, eq_self, if_true, if_false, reduceIte, id_eq, decide_true, decide_false, Bool.false_eq_true, Bool.true_eq_false, Bool.not_true, Bool.not_false, Bool.true_or, Bool.false_or, Bool.or_true, Bool.or_false, Bool.true_and, Bool.false_and, Bool.and_true, Bool.and_false,e0, a]
/-! ### wide sides -/
theorem ne_q {x y : Qt} : fNe (dq x) (dq y) st = .ok (.bl (!decide (x = y))) st := by
  unfold fNe fEqB dq
  have h1 : scq (.tup [.int x.1, .int x.2]) (.tup [.int y.1, .int y.2]) = none := rfl
  rw [h1]
  have h2 : D.py (.tup [.int x.1, .int x.2]) = some (.tuple [.int x.1, .int x.2]) := rfl
  have h3 : D.py (.tup [.int y.1, .int y.2]) = some (.tuple [.int y.1, .int y.2]) := rfl
  rw [h2, h3]
  dsimp only
  have s1 : SeqAt.shaped (.tuple [.int x.1, .int x.2]) = true := by rfl
  have s2 : SeqAt.shaped (.tuple [.int y.1, .int y.2]) = true := by rfl
  rw [s1, s2]
  have e : PyData.eqv (.tuple [.int x.1, .int x.2]) (.tuple [.int y.1, .int y.2]) = decide (x = y) := by
    simp only [PyData.eqv, PyData.eqvAll]
    obtain ⟨a, b⟩ := x
    obtain ⟨c, d⟩ := y
    simp only [Prod.mk.injEq]
    rw [Bool.decide_and, Bool.and_true]
    simp only [BEq.beq]
  rw [e]
  rfl
def isW (p : Qt × Qt) : Bool := !decide (p.1 = p.2)
def wix : Nat → List (Qt × Qt) → List Nat
  | _, [] => []
  | o, p :: r => if isW p = true then o :: wix (o + 1) r else wix (o + 1) r
theorem wix_filter : ∀ (o : Nat) (ps pre : List (Qt × Qt)), pre.length = o → ((List.range ps.length).map (· + o)).filter (fun k => isW ((pre ++ ps).getD k ((0, 1), (0, 1)))) = wix o ps
  | o, [], pre, _ => rfl
  | o, p :: r, pre, e => by
    have ih := wix_filter (o + 1) r (pre ++ [p]) (by rw [List.length_append, e]; rfl)
    rw [List.append_assoc, List.singleton_append] at ih
    have e1 : (List.range (p :: r).length).map (· + o) = o :: (List.range r.length).map (· + (o + 1)) := by
      rw [List.length_cons, List.range_succ_eq_map, List.map_cons, List.map_map, Nat.zero_add]
      congr 1
      refine List.map_congr_left fun k _ => ?_
      simp only [Function.comp_apply]
      omega
    rw [e1]
    have e2 : (pre ++ p :: r).getD o ((0, 1), (0, 1)) = p := by
      rw [List.getD_eq_getElem?_getD, List.getElem?_append_right (by omega), e, Nat.sub_self]
      rfl
    unfold wix
    cases h : isW p with
    | true =>
      rw [List.filter_cons_of_pos (by rw [e2]; exact h), ih, if_pos rfl]
    | false =>
      rw [List.filter_cons_of_neg (by rw [e2, h]; exact Bool.false_ne_true), ih, if_neg Bool.false_ne_true]
theorem wix_len : ∀ (o : Nat) (ps : List (Qt × Qt)), (wix o ps).length ≤ ps.length
  | _, [] => Nat.le_refl _
  | o, p :: r => by
    have := wix_len (o + 1) r
    unfold wix
    split
    · simp only [List.length_cons]; omega
    · simp only [List.length_cons]; omega
def dn (ks : List Nat) : D := .tup (ks.map di)
def wfD (ps : List (Qt × Qt)) : D → Bool
  | .int k => isW (ps.getD k.toNat ((0, 1), (0, 1)))
  | _ => false
theorem wfD_di {ps : List (Qt × Qt)} {k : Nat} : wfD ps (di k) = isW (ps.getD k ((0, 1), (0, 1))) := by
  show isW (ps.getD (k : Int).toNat ((0, 1), (0, 1))) = _
  rw [Int.toNat_natCast]
theorem wide_filter {ps : List (Qt × Qt)} : (rangeD 0 ps.length).filter (wfD ps) = (wix 0 ps).map di := by
  rw [rangeD0, List.filter_map]
  have z := wix_filter 0 ps [] rfl
  rw [List.nil_append] at z
  rw [← z]
  have e : (List.range ps.length).map (· + 0) = List.range ps.length := by
    conv => rhs; rw [← List.map_id (List.range ps.length)]
    rfl
  rw [e]
  rfl
theorem wide_walk {ps : List (Qt × Qt)} : lcLoop (tgV 1) (gTr (gBin fNe (gBin fIx (gBin fIx (gVar 0) (gVar 1)) (gC (.int 0))) (gBin fIx (gBin fIx (gVar 0) (gVar 1)) (gC (.int 1))))) (gVar 1) [some (db ps), none] (rangeD 0 ps.length) st = .ok ((wix 0 ps).map di) st := by
  have l := lc_filter (st := st) (t := tgV 1) (gt := gTr (gBin fNe (gBin fIx (gBin fIx (gVar 0) (gVar 1)) (gC (.int 0))) (gBin fIx (gBin fIx (gVar 0) (gVar 1)) (gC (.int 1))))) (ge := gVar 1) (r0 := [some (db ps), none])
    (wfD ps) id (ds := rangeD 0 ps.length) fun d hd => by
      obtain ⟨k, hk, rfl⟩ := range_int hd
      have h1 : ps[k]? = some (ps[k]'hk) := List.getElem?_eq_getElem hk
      refine ⟨[some (db ps), some (.int k)], rfl, ?_, rfl⟩
      have e : wfD ps (.int k) = !decide ((ps[k]'hk).1 = (ps[k]'hk).2) := by
        show isW (ps.getD (k : Int).toNat ((0, 1), (0, 1))) = _
        rw [Int.toNat_natCast, List.getD_eq_getElem?_getD, h1]
        rfl
      rw [e]
      generalize ps[k]'hk = p at h1
      simp -implicitDefEqProofs only [ap_fnF, ap_seq, ap_skip, ap_if, ap_ret, ap_asg, ap_asg2, ap_drop, ap_par, ap_par3, ap_unp, ap_for, ap_forL, ap_var, ap_c, ap_bin, ap_un, ap_nil, ap_cons, ap_call, ap_def, ap_tr, ap_not, ap_and, ap_or, ap_andv, ap_orv, ap_ife, ap_of, ap_mul, ap_div, ap_mod, ap_sub, ap_addi, ap_lt, ap_le, ap_gt, ap_ge, ap_eqi, ap_nei, ap_eqs, ap_neg, ap_truth, ap_bits, List.length, Nat.reduceSub, Nat.reduceAdd, Nat.reduceLeDiff, List.nil_append, List.cons_append, List.append_nil, List.set, List.getElem?_cons_zero, List.getElem?_cons_succ, List.getElem?_nil, setAll, fNot, eq_self, if_true, if_false, reduceIte, id_eq, decide_true, decide_false, Bool.false_eq_true, Bool.true_eq_false, Bool.not_true, Bool.not_false, Bool.true_or, Bool.false_or, Bool.or_true, Bool.or_false, Bool.true_and, Bool.false_and, Bool.and_true, Bool.and_false,dbix h1, dsx0, dsx1, ne_q]
  rw [l, List.map_id, wide_filter]
theorem w1 {ps : List (Qt × Qt)} (hb : Bok ps) : iOf iRange1 (gCons (gCall fLen (gCons (gVar 0) gNil)) gNil) [some (db ps), none] st = .ok (rangeD 0 ps.length) st := by
  have e0 := len_db (st := st) (ps := ps)
  exact range1_ok (by simp -implicitDefEqProofs only [ap_fnF, ap_seq, ap_skip, ap_if, ap_ret, ap_asg, ap_asg2, ap_drop, ap_par, ap_par3, ap_unp, ap_for, ap_forL, ap_var, ap_c, ap_bin, ap_un, ap_nil, ap_cons, ap_call, ap_def, ap_tr, ap_not, ap_and, ap_or, ap_andv, ap_orv, ap_ife, ap_of, ap_mul, ap_div, ap_mod, ap_sub, ap_addi, ap_lt, ap_le, ap_gt, ap_ge, ap_eqi, ap_nei, ap_eqs, ap_neg, ap_truth, ap_bits, List.length, Nat.reduceSub, Nat.reduceAdd, Nat.reduceLeDiff, List.nil_append, List.cons_append, List.append_nil, List.set, List.getElem?_cons_zero, List.getElem?_cons_succ, List.getElem?_nil, setAll, fNot, eq_self, if_true, if_false, reduceIte, id_eq, decide_true, decide_false, Bool.false_eq_true, Bool.true_eq_false, Bool.not_true, Bool.not_false, Bool.true_or, Bool.false_or, Bool.or_true, Bool.or_false, Bool.true_and, Bool.false_and, Bool.and_true, Bool.and_false,e0]; rfl) (by have := hb.2; omega)
theorem w2 {ps : List (Qt × Qt)} (hb : Bok ps) : gTupGe [1] (iOf iRange1 (gCons (gCall fLen (gCons (gVar 0) gNil)) gNil)) (tgV 1) (gTr (gBin fNe (gBin fIx (gBin fIx (gVar 0) (gVar 1)) (gC (.int 0))) (gBin fIx (gBin fIx (gVar 0) (gVar 1)) (gC (.int 1))))) (gVar 1) [some (db ps), none] st = .ok (dn (wix 0 ps)) st := 
  gTupGe_ok (w1 hb) wide_walk (by rw [List.length_map]; have := wix_len 0 ps; have := hb.2; omega)
theorem w3 {B : D} {d : D} (e4 : gTupGe [1] (iOf iRange1 (gCons (gCall fLen (gCons (gVar 0) gNil)) gNil)) (tgV 1) (gTr (gBin fNe (gBin fIx (gBin fIx (gVar 0) (gVar 1)) (gC (.int 0))) (gBin fIx (gBin fIx (gVar 0) (gVar 1)) (gC (.int 1))))) (gVar 1) [some B, none] st = .ok d st) : F_wide_sides [B] st = .ok d st := by
  have hs : startD N_wide_sides [B] = [some B, none] := rfl
  unfold F_wide_sides
  rw [ap_fnF, hs]
  unfold g_wide_sides
  simp -implicitDefEqProofs only [ap_fnF, ap_seq, ap_skip, ap_if, ap_ret, ap_asg, ap_asg2, ap_drop, ap_par, ap_par3, ap_unp, ap_for, ap_forL, ap_var, ap_c, ap_bin, ap_un, ap_nil, ap_cons, ap_call, ap_def, ap_tr, ap_not, ap_and, ap_or, ap_andv, ap_orv, ap_ife, ap_of, ap_mul, ap_div, ap_mod, ap_sub, ap_addi, ap_lt, ap_le, ap_gt, ap_ge, ap_eqi, ap_nei, ap_eqs, ap_neg, ap_truth, ap_bits, List.length, Nat.reduceSub, Nat.reduceAdd, Nat.reduceLeDiff, List.nil_append, List.cons_append, List.append_nil, List.set, List.getElem?_cons_zero, List.getElem?_cons_succ, List.getElem?_nil, setAll, fNot, eq_self, if_true, if_false, reduceIte, id_eq, decide_true, decide_false, Bool.false_eq_true, Bool.true_eq_false, Bool.not_true, Bool.not_false, Bool.true_or, Bool.false_or, Bool.or_true, Bool.or_false, Bool.true_and, Bool.false_and, Bool.and_true, Bool.and_false,e4]
theorem p_wide_sides {ps : List (Qt × Qt)} (hb : Bok ps) : F_wide_sides [db ps] st = .ok (dn (wix 0 ps)) st := w3 (w2 hb)
/-! ### a side put -/
theorem six_nat {n k d : Nat} (h : k ≤ n) : HT.sIx n d (some (k : Int)) = k := by
  unfold HT.sIx
  dsimp only
  split <;> omega
theorem cut_take {xs : List D} {k : Nat} (h : k ≤ xs.length) : cutD xs none (some (k : Int)) = xs.take k := by
  unfold cutD
  rw [six_nat h]
  rfl
end K00
end Sv
set_option Elab.async false
set_option linter.all false
set_option maxRecDepth 100000
set_option maxHeartbeats 4000000
set_option exponentiation.threshold 10000
namespace Sv
open PySem PySem.Spec PyProof.Rows L2
namespace K00
variable {st : S}
/-! ### with_side -/
def isIn (n : Int) : D → Bool
  | .int i => decide (0 ≤ i) && decide (i < n)
  | _ => false
theorem p_is_number {d : D} (h : ∀ n, d ≠ .ty n) : F_is_number [d] st = .ok (.bl (match d with | .int i => decide (0 ≤ i) | _ => false)) st := by
  have e := p_is_integer (st := st) h
  have hs : startD N_is_number [d] = [some d] := rfl
  unfold F_is_number
  rw [ap_fnF, hs]
  unfold g_is_number
  cases d <;> simp only [isInt] at e <;> simp -implicitDefEqProofs only [ap_fnF, ap_seq, ap_skip, ap_if, ap_ret, ap_asg, ap_asg2, ap_drop, ap_par, ap_par3, ap_unp, ap_for, ap_forL, ap_var, ap_c, ap_bin, ap_un, ap_nil, ap_cons, ap_call, ap_def, ap_tr, ap_not, ap_and, ap_or, ap_andv, ap_orv, ap_ife, ap_of, ap_mul, ap_div, ap_mod, ap_sub, ap_addi, ap_lt, ap_le, ap_gt, ap_ge, ap_eqi, ap_nei, ap_eqs, ap_neg, ap_truth, ap_bits, List.length, Nat.reduceSub, Nat.reduceAdd, Nat.reduceLeDiff, List.nil_append, List.cons_append, List.append_nil, List.set, List.getElem?_cons_zero, List.getElem?_cons_succ, List.getElem?_nil, setAll, fNot, eq_self, if_true, if_false, reduceIte, id_eq, decide_true, decide_false, Bool.false_eq_true, Bool.true_eq_false, Bool.not_true, Bool.not_false, Bool.true_or, Bool.false_or, Bool.or_true, Bool.or_false, Bool.true_and, Bool.false_and, Bool.and_true, Bool.and_false,e]
theorem p_is_input {n : Int} {d : D} (h : ∀ n, d ≠ .ty n) : F_is_input [.int n, d] st = .ok (.bl (isIn n d)) st := by
  have e := p_is_number (st := st) h
  have hs : startD N_is_input [.int n, d] = [some (.int n), some d] := rfl
  unfold F_is_input
  rw [ap_fnF, hs]
  unfold g_is_input isIn
  cases d with
  | int i =>
    dsimp only at e ⊢
    cases k : decide (0 ≤ i) <;> rw [k] at e <;> simp -implicitDefEqProofs only [ap_fnF, ap_seq, ap_skip, ap_if, ap_ret, ap_asg, ap_asg2, ap_drop, ap_par, ap_par3, ap_unp, ap_for, ap_forL, ap_var, ap_c, ap_bin, ap_un, ap_nil, ap_cons, ap_call, ap_def, ap_tr, ap_not, ap_and, ap_or, ap_andv, ap_orv, ap_ife, ap_of, ap_mul, ap_div, ap_mod, ap_sub, ap_addi, ap_lt, ap_le, ap_gt, ap_ge, ap_eqi, ap_nei, ap_eqs, ap_neg, ap_truth, ap_bits, List.length, Nat.reduceSub, Nat.reduceAdd, Nat.reduceLeDiff, List.nil_append, List.cons_append, List.append_nil, List.set, List.getElem?_cons_zero, List.getElem?_cons_succ, List.getElem?_nil, setAll, fNot, eq_self, if_true, if_false, reduceIte, id_eq, decide_true, decide_false, Bool.false_eq_true, Bool.true_eq_false, Bool.not_true, Bool.not_false, Bool.true_or, Bool.false_or, Bool.or_true, Bool.or_false, Bool.true_and, Bool.false_and, Bool.and_true, Bool.and_false,e]
  | _ => dsimp only at e ⊢ <;> simp -implicitDefEqProofs only [ap_fnF, ap_seq, ap_skip, ap_if, ap_ret, ap_asg, ap_asg2, ap_drop, ap_par, ap_par3, ap_unp, ap_for, ap_forL, ap_var, ap_c, ap_bin, ap_un, ap_nil, ap_cons, ap_call, ap_def, ap_tr, ap_not, ap_and, ap_or, ap_andv, ap_orv, ap_ife, ap_of, ap_mul, ap_div, ap_mod, ap_sub, ap_addi, ap_lt, ap_le, ap_gt, ap_ge, ap_eqi, ap_nei, ap_eqs, ap_neg, ap_truth, ap_bits, List.length, Nat.reduceSub, Nat.reduceAdd, Nat.reduceLeDiff, List.nil_append, List.cons_append, List.append_nil, List.set, List.getElem?_cons_zero, List.getElem?_cons_succ, List.getElem?_nil, setAll, fNot, eq_self, if_true, if_false, reduceIte, id_eq, decide_true, decide_false, Bool.false_eq_true, Bool.true_eq_false, Bool.not_true, Bool.not_false, Bool.true_or, Bool.false_or, Bool.or_true, Bool.or_false, Bool.true_and, Bool.false_and, Bool.and_true, Bool.and_false,e]
theorem p_ask_input {n : Int} {d : D} (h : ∀ n, d ≠ .ty n) (k : isIn n d = true) : F_ask_input [.int n, d] st = .ok .non st := by
  have q := p_is_input (st := st) (n := n) h
  rw [k] at q
  have a := p_ask_yes (st := st) (w := "which")
  have hs : startD N_ask_input [.int n, d] = [some (.int n), some d] := rfl
  unfold F_ask_input
  rw [ap_fnF, hs]
  unfold g_ask_input
  simp -implicitDefEqProofs only [ap_fnF, ap_seq, ap_skip, ap_if, ap_ret, ap_asg, ap_asg2, ap_drop, ap_par, ap_par3, ap_unp, ap_for, ap_forL, ap_var, ap_c, ap_bin, ap_un, ap_nil, ap_cons, ap_call, ap_def, ap_tr, ap_not, ap_and, ap_or, ap_andv, ap_orv, ap_ife, ap_of, ap_mul, ap_div, ap_mod, ap_sub, ap_addi, ap_lt, ap_le, ap_gt, ap_ge, ap_eqi, ap_nei, ap_eqs, ap_neg, ap_truth, ap_bits, List.length, Nat.reduceSub, Nat.reduceAdd, Nat.reduceLeDiff, List.nil_append, List.cons_append, List.append_nil, List.set, List.getElem?_cons_zero, List.getElem?_cons_succ, List.getElem?_nil, setAll, fNot, eq_self, if_true, if_false, reduceIte, id_eq, decide_true, decide_false, Bool.false_eq_true, Bool.true_eq_false, Bool.not_true, Bool.not_false, Bool.true_or, Bool.false_or, Bool.or_true, Bool.or_false, Bool.true_and, Bool.false_and, Bool.and_true, Bool.and_false,q, a]
theorem p_ask_input_no {n : Int} {d : D} (h : ∀ n, d ≠ .ty n) (k : isIn n d = false) : F_ask_input [.int n, d] st = .err "NotUsable" [("at", .int (-1)), ("word", .str "which")] st := by
  have q := p_is_input (st := st) (n := n) h
  rw [k] at q
  have a := p_ask_no (st := st) (w := "which")
  have hs : startD N_ask_input [.int n, d] = [some (.int n), some d] := rfl
  unfold F_ask_input
  rw [ap_fnF, hs]
  unfold g_ask_input
  simp -implicitDefEqProofs only [ap_fnF, ap_seq, ap_skip, ap_if, ap_ret, ap_asg, ap_asg2, ap_drop, ap_par, ap_par3, ap_unp, ap_for, ap_forL, ap_var, ap_c, ap_bin, ap_un, ap_nil, ap_cons, ap_call, ap_def, ap_tr, ap_not, ap_and, ap_or, ap_andv, ap_orv, ap_ife, ap_of, ap_mul, ap_div, ap_mod, ap_sub, ap_addi, ap_lt, ap_le, ap_gt, ap_ge, ap_eqi, ap_nei, ap_eqs, ap_neg, ap_truth, ap_bits, List.length, Nat.reduceSub, Nat.reduceAdd, Nat.reduceLeDiff, List.nil_append, List.cons_append, List.append_nil, List.set, List.getElem?_cons_zero, List.getElem?_cons_succ, List.getElem?_nil, setAll, fNot, eq_self, if_true, if_false, reduceIte, id_eq, decide_true, decide_false, Bool.false_eq_true, Bool.true_eq_false, Bool.not_true, Bool.not_false, Bool.true_or, Bool.false_or, Bool.or_true, Bool.or_false, Bool.true_and, Bool.false_and, Bool.and_true, Bool.and_false,q, a]
theorem cut_drop {xs : List D} {k : Nat} (h : k ≤ xs.length) : cutD xs (some (k : Int)) none = xs.drop k := by
  unfold cutD
  rw [six_nat h]
  have e1 : HT.sIx xs.length xs.length none = xs.length := rfl
  rw [e1, List.take_of_length_le (by rw [List.length_drop]; exact Nat.le_refl _)]
theorem p_side_put {xs : List D} {k : Nat} {d : D} (h : k < xs.length) (hl : xs.length ≤ 1000) : F_side_put [.tup xs, .int k, d] st = .ok (.tup (xs.take k ++ [d] ++ xs.drop (k + 1))) st := by
  have hs : startD N_side_put [.tup xs, .int k, d] = [some (.tup xs), some (.int k), some d] := rfl
  have e1 : gSl false (gVar 0) goNone (goSome (gVar 1)) [some (.tup xs), some (.int k), some d] st = .ok (.tup (xs.take k)) st := by
    rw [← cut_take (by omega)]
    rfl
  have e2 : gSl false (gVar 0) (goSome (gBin (fAdd false) (gVar 1) (gC (.int 1)))) goNone [some (.tup xs), some (.int k), some d] st = .ok (.tup (xs.drop (k + 1))) st := by
    rw [← cut_drop (by omega)]
    rfl
  have e3 : fTup [d] st = .ok (.tup [d]) st := rfl
  have e4 : fAdd false (.tup (xs.take k)) (.tup [d]) st = .ok (.tup (xs.take k ++ [d])) st := by
    show (if (xs.take k).length + 1 ≤ 100000 then R.ok (D.tup (xs.take k ++ [d])) st else R.bad) = _
    rw [if_pos (by rw [List.length_take]; omega)]
  have e5 : fAdd false (.tup (xs.take k ++ [d])) (.tup (xs.drop (k + 1))) st = .ok (.tup (xs.take k ++ [d] ++ xs.drop (k + 1))) st := by
    show (if (xs.take k ++ [d]).length + (xs.drop (k + 1)).length ≤ 100000 then R.ok (D.tup (xs.take k ++ [d] ++ xs.drop (k + 1))) st else R.bad) = _
    rw [if_pos (by rw [List.length_append, List.length_take, List.length_drop]; simp only [List.length_singleton]; omega)]
  unfold F_side_put
  rw [ap_fnF, hs]
  unfold g_side_put
  generalize xs.take k ++ [d] = ys at e4 e5
  simp -implicitDefEqProofs only [ap_fnF, ap_seq, ap_skip, ap_if, ap_ret, ap_asg, ap_asg2, ap_drop, ap_par, ap_par3, ap_unp, ap_for, ap_forL, ap_var, ap_c, ap_bin, ap_un, ap_nil, ap_cons, ap_call, ap_def, ap_tr, ap_not, ap_and, ap_or, ap_andv, ap_orv, ap_ife, ap_of, ap_mul, ap_div, ap_mod, ap_sub, ap_addi, ap_lt, ap_le, ap_gt, ap_ge, ap_eqi, ap_nei, ap_eqs, ap_neg, ap_truth, ap_bits, List.length, Nat.reduceSub, Nat.reduceAdd, Nat.reduceLeDiff, List.nil_append, List.cons_append, List.append_nil, List.set, List.getElem?_cons_zero, List.getElem?_cons_succ, List.getElem?_nil, setAll, fNot, eq_self, if_true, if_false, reduceIte, id_eq, decide_true, decide_false, Bool.false_eq_true, Bool.true_eq_false, Bool.not_true, Bool.not_false, Bool.true_or, Bool.false_or, Bool.or_true, Bool.or_false, Bool.true_and, Bool.false_and, Bool.and_true, Bool.and_false,e1, e2, e3, e4, e5]
theorem ev_with_side {B w s d : D} {n : Int} (e0 : fLen [B] st = .ok (.int n) st) (a : F_ask_input [.int n, w] st = .ok .non st) (q : F_is_span [s] st = .ok (.bl true) st) (c : F_side_put [B, w, s] st = .ok d st) : F_with_side [B, w, s] st = .ok d st := by
  have b := p_ask_yes (st := st) (w := "span")
  have hs : startD N_with_side [B, w, s] = [some B, some w, some s] := rfl
  unfold F_with_side
  rw [ap_fnF, hs]
  unfold g_with_side
  simp -implicitDefEqProofs only [ap_fnF, ap_seq, ap_skip, ap_if, ap_ret, ap_asg, ap_asg2, ap_drop, ap_par, ap_par3, ap_unp, ap_for, ap_forL, ap_var, ap_c, ap_bin, ap_un, ap_nil, ap_cons, ap_call, ap_def, ap_tr, ap_not, ap_and, ap_or, ap_andv, ap_orv, ap_ife, ap_of, ap_mul, ap_div, ap_mod, ap_sub, ap_addi, ap_lt, ap_le, ap_gt, ap_ge, ap_eqi, ap_nei, ap_eqs, ap_neg, ap_truth, ap_bits, List.length, Nat.reduceSub, Nat.reduceAdd, Nat.reduceLeDiff, List.nil_append, List.cons_append, List.append_nil, List.set, List.getElem?_cons_zero, List.getElem?_cons_succ, List.getElem?_nil, setAll, fNot, eq_self, if_true, if_false, reduceIte, id_eq, decide_true, decide_false, Bool.false_eq_true, Bool.true_eq_false, Bool.not_true, Bool.not_false, Bool.true_or, Bool.false_or, Bool.or_true, Bool.or_false, Bool.true_and, Bool.false_and, Bool.and_true, Bool.and_false,e0, a, q, b, c]
theorem ev_with_side_w {B w s : D} {n : Int} (e0 : fLen [B] st = .ok (.int n) st) (a : F_ask_input [.int n, w] st = .err "NotUsable" [("at", .int (-1)), ("word", .str "which")] st) : F_with_side [B, w, s] st = .err "NotUsable" [("at", .int (-1)), ("word", .str "which")] st := by
  have hs : startD N_with_side [B, w, s] = [some B, some w, some s] := rfl
  unfold F_with_side
  rw [ap_fnF, hs]
  unfold g_with_side
  simp -implicitDefEqProofs only [ap_fnF, ap_seq, ap_skip, ap_if, ap_ret, ap_asg, ap_asg2, ap_drop, ap_par, ap_par3, ap_unp, ap_for, ap_forL, ap_var, ap_c, ap_bin, ap_un, ap_nil, ap_cons, ap_call, ap_def, ap_tr, ap_not, ap_and, ap_or, ap_andv, ap_orv, ap_ife, ap_of, ap_mul, ap_div, ap_mod, ap_sub, ap_addi, ap_lt, ap_le, ap_gt, ap_ge, ap_eqi, ap_nei, ap_eqs, ap_neg, ap_truth, ap_bits, List.length, Nat.reduceSub, Nat.reduceAdd, Nat.reduceLeDiff, List.nil_append, List.cons_append, List.append_nil, List.set, List.getElem?_cons_zero, List.getElem?_cons_succ, List.getElem?_nil, setAll, fNot, eq_self, if_true, if_false, reduceIte, id_eq, decide_true, decide_false, Bool.false_eq_true, Bool.true_eq_false, Bool.not_true, Bool.not_false, Bool.true_or, Bool.false_or, Bool.or_true, Bool.or_false, Bool.true_and, Bool.false_and, Bool.and_true, Bool.and_false,e0, a]
theorem ev_with_side_s {B w s : D} {n : Int} (e0 : fLen [B] st = .ok (.int n) st) (a : F_ask_input [.int n, w] st = .ok .non st) (q : F_is_span [s] st = .ok (.bl false) st) : F_with_side [B, w, s] st = .err "NotUsable" [("at", .int (-1)), ("word", .str "span")] st := by
  have b := p_ask_no (st := st) (w := "span")
  have hs : startD N_with_side [B, w, s] = [some B, some w, some s] := rfl
  unfold F_with_side
  rw [ap_fnF, hs]
  unfold g_with_side
  simp -implicitDefEqProofs only [ap_fnF, ap_seq, ap_skip, ap_if, ap_ret, ap_asg, ap_asg2, ap_drop, ap_par, ap_par3, ap_unp, ap_for, ap_forL, ap_var, ap_c, ap_bin, ap_un, ap_nil, ap_cons, ap_call, ap_def, ap_tr, ap_not, ap_and, ap_or, ap_andv, ap_orv, ap_ife, ap_of, ap_mul, ap_div, ap_mod, ap_sub, ap_addi, ap_lt, ap_le, ap_gt, ap_ge, ap_eqi, ap_nei, ap_eqs, ap_neg, ap_truth, ap_bits, List.length, Nat.reduceSub, Nat.reduceAdd, Nat.reduceLeDiff, List.nil_append, List.cons_append, List.append_nil, List.set, List.getElem?_cons_zero, List.getElem?_cons_succ, List.getElem?_nil, setAll, fNot, eq_self, if_true, if_false, reduceIte, id_eq, decide_true, decide_false, Bool.false_eq_true, Bool.true_eq_false, Bool.not_true, Bool.not_false, Bool.true_or, Bool.false_or, Bool.or_true, Bool.or_false, Bool.true_and, Bool.false_and, Bool.and_true, Bool.and_false,e0, a, q, b]
def putS (ps : List (Qt × Qt)) (k : Nat) (p : Qt × Qt) : List (Qt × Qt) := ps.take k ++ [p] ++ ps.drop (k + 1)
theorem db_putS {ps : List (Qt × Qt)} {k : Nat} {p : Qt × Qt} : D.tup ((ps.map ds).take k ++ [ds p] ++ (ps.map ds).drop (k + 1)) = db (putS ps k p) := by
  unfold db putS
  rw [List.map_append, List.map_append, List.map_take, List.map_drop]
  rfl
theorem p_with_side {ps : List (Qt × Qt)} {k : Nat} {p : Qt × Qt} (hb : Bok ps) (hk : k < ps.length) (hp : Spok p) : F_with_side [db ps, .int k, ds p] st = .ok (db (putS ps k p)) st := by
  refine ev_with_side len_db (p_ask_input (fun n z => by cases z) ?_) (p_ask_span hp) ?_
  · show (decide (0 ≤ (k : Int)) && decide ((k : Int) < (ps.length : Int))) = true
    rw [decide_eq_true (by omega), decide_eq_true (by omega)]
    rfl
  · rw [← db_putS]
    exact p_side_put (by rw [List.length_map]; exact hk) (by rw [List.length_map]; have := hb.2; omega)
/-! ### point_box -/
theorem ev_point_box {xs : List D} {d : D} {n : Int} (e0 : fLen [.tup xs] st = .ok (.int n) st) (h1 : decide (1 ≤ n) = true) (q : F_is_point [.int n, .tup xs] st = .ok (.bl true) st)
    (c : gTupGe [1] (iSq (gVar 0)) (tgV 1) gYes (gCall fTup (gCons (gVar 1) (gCons (gVar 1) gNil))) [some (.tup xs), none] st = .ok d st) : F_point_box [.tup xs] st = .ok d st := by
  have b := p_ask_yes (st := st) (w := "point")
  have hs : startD N_point_box [.tup xs] = [some (.tup xs), none] := rfl
  have e4 := isi_tup (st := st) (xs := xs)
  unfold F_point_box
  rw [ap_fnF, hs]
  unfold g_point_box
  simp -implicitDefEqProofs only [ap_fnF, ap_seq, ap_skip, ap_if, ap_ret, ap_asg, ap_asg2, ap_drop, ap_par, ap_par3, ap_unp, ap_for, ap_forL, ap_var, ap_c, ap_bin, ap_un, ap_nil, ap_cons, ap_call, ap_def, ap_tr, ap_not, ap_and, ap_or, ap_andv, ap_orv, ap_ife, ap_of, ap_mul, ap_div, ap_mod, ap_sub, ap_addi, ap_lt, ap_le, ap_gt, ap_ge, ap_eqi, ap_nei, ap_eqs, ap_neg, ap_truth, ap_bits, List.length, Nat.reduceSub, Nat.reduceAdd, Nat.reduceLeDiff, List.nil_append, List.cons_append, List.append_nil, List.set, List.getElem?_cons_zero, List.getElem?_cons_succ, List.getElem?_nil, setAll, fNot, eq_self, if_true, if_false, reduceIte, id_eq, decide_true, decide_false, Bool.false_eq_true, Bool.true_eq_false, Bool.not_true, Bool.not_false, Bool.true_or, Bool.false_or, Bool.or_true, Bool.or_false, Bool.true_and, Bool.false_and, Bool.and_true, Bool.and_false,e0, e4, h1, q, b, c]
def spP (qs : List Qt) : List (Qt × Qt) := qs.map fun q => (q, q)
theorem p_point_box {qs : List Qt} (h0 : 1 ≤ qs.length) (hl : qs.length ≤ 1000) (hq : ∀ q ∈ qs, Qok q) : F_point_box [dp qs] st = .ok (db (spP qs)) st := by
  have hle : ∀ xs, dp qs = .tup xs → xs.length ≤ 100000 := fun _ e => by cases e; rw [List.length_map]; omega
  have e1 := p_is_point (st := st) (n := (qs.length : Int)) (d := dp qs) nt_dp hle
  rw [isPt_dp fun q h => (hq q h).1] at e1
  refine ev_point_box (n := (qs.length : Int)) ?_ (decide_eq_true (by omega)) e1 ?_
  · show R.ok (D.int ((qs.map dq).length : Nat)) st = _
    rw [List.length_map]
  · have l := lc_map (st := st) (t := tgV 1) (ge := gCall fTup (gCons (gVar 1) (gCons (gVar 1) gNil))) (r0 := [some (dp qs), none]) (fun d => .tup [d, d]) (ds := qs.map dq) fun d hd => ⟨[some (dp qs), some d], rfl, rfl⟩
    have e : db (spP qs) = .tup ((qs.map dq).map fun d => .tup [d, d]) := by
      unfold db spP
      rw [List.map_map, List.map_map]
      rfl
    rw [e]
    exact gTupGe_ok (ds := qs.map dq) rfl l (by rw [List.length_map, List.length_map]; omega)
theorem ev_point_box_no {d : D} {b : Bool} (e1 : fIsi [d, .ty "tuple"] st = .ok (.bl false) st) : F_point_box [d] st = .err "NotUsable" [("at", .int (-1)), ("word", .str "point")] st := by
  have b := p_ask_no (st := st) (w := "point")
  have hs : startD N_point_box [d] = [some d, none] := rfl
  unfold F_point_box
  rw [ap_fnF, hs]
  unfold g_point_box
  simp -implicitDefEqProofs only [ap_fnF, ap_seq, ap_skip, ap_if, ap_ret, ap_asg, ap_asg2, ap_drop, ap_par, ap_par3, ap_unp, ap_for, ap_forL, ap_var, ap_c, ap_bin, ap_un, ap_nil, ap_cons, ap_call, ap_def, ap_tr, ap_not, ap_and, ap_or, ap_andv, ap_orv, ap_ife, ap_of, ap_mul, ap_div, ap_mod, ap_sub, ap_addi, ap_lt, ap_le, ap_gt, ap_ge, ap_eqi, ap_nei, ap_eqs, ap_neg, ap_truth, ap_bits, List.length, Nat.reduceSub, Nat.reduceAdd, Nat.reduceLeDiff, List.nil_append, List.cons_append, List.append_nil, List.set, List.getElem?_cons_zero, List.getElem?_cons_succ, List.getElem?_nil, setAll, fNot, eq_self, if_true, if_false, reduceIte, id_eq, decide_true, decide_false, Bool.false_eq_true, Bool.true_eq_false, Bool.not_true, Bool.not_false, Bool.true_or, Bool.false_or, Bool.or_true, Bool.or_false, Bool.true_and, Bool.false_and, Bool.and_true, Bool.and_false,e1, b]
theorem ev_point_box_no2 {xs : List D} {n : Int} (e0 : fLen [.tup xs] st = .ok (.int n) st) (h1 : decide (1 ≤ n) = false) : F_point_box [.tup xs] st = .err "NotUsable" [("at", .int (-1)), ("word", .str "point")] st := by
  have b := p_ask_no (st := st) (w := "point")
  have hs : startD N_point_box [.tup xs] = [some (.tup xs), none] := rfl
  have e4 := isi_tup (st := st) (xs := xs)
  unfold F_point_box
  rw [ap_fnF, hs]
  unfold g_point_box
  simp -implicitDefEqProofs only [ap_fnF, ap_seq, ap_skip, ap_if, ap_ret, ap_asg, ap_asg2, ap_drop, ap_par, ap_par3, ap_unp, ap_for, ap_forL, ap_var, ap_c, ap_bin, ap_un, ap_nil, ap_cons, ap_call, ap_def, ap_tr, ap_not, ap_and, ap_or, ap_andv, ap_orv, ap_ife, ap_of, ap_mul, ap_div, ap_mod, ap_sub, ap_addi, ap_lt, ap_le, ap_gt, ap_ge, ap_eqi, ap_nei, ap_eqs, ap_neg, ap_truth, ap_bits, List.length, Nat.reduceSub, Nat.reduceAdd, Nat.reduceLeDiff, List.nil_append, List.cons_append, List.append_nil, List.set, List.getElem?_cons_zero, List.getElem?_cons_succ, List.getElem?_nil, setAll, fNot, eq_self, if_true, if_false, reduceIte, id_eq, decide_true, decide_false, Bool.false_eq_true, Bool.true_eq_false, Bool.not_true, Bool.not_false, Bool.true_or, Bool.false_or, Bool.or_true, Bool.or_false, Bool.true_and, Bool.false_and, Bool.and_true, Bool.and_false,e0, e4, h1, b]
theorem ev_point_box_no3 {xs : List D} {n : Int} (e0 : fLen [.tup xs] st = .ok (.int n) st) (h1 : decide (1 ≤ n) = true) (q : F_is_point [.int n, .tup xs] st = .ok (.bl false) st) : F_point_box [.tup xs] st = .err "NotUsable" [("at", .int (-1)), ("word", .str "point")] st := by
  have b := p_ask_no (st := st) (w := "point")
  have hs : startD N_point_box [.tup xs] = [some (.tup xs), none] := rfl
  have e4 := isi_tup (st := st) (xs := xs)
  unfold F_point_box
  rw [ap_fnF, hs]
  unfold g_point_box
  simp -implicitDefEqProofs only [ap_fnF, ap_seq, ap_skip, ap_if, ap_ret, ap_asg, ap_asg2, ap_drop, ap_par, ap_par3, ap_unp, ap_for, ap_forL, ap_var, ap_c, ap_bin, ap_un, ap_nil, ap_cons, ap_call, ap_def, ap_tr, ap_not, ap_and, ap_or, ap_andv, ap_orv, ap_ife, ap_of, ap_mul, ap_div, ap_mod, ap_sub, ap_addi, ap_lt, ap_le, ap_gt, ap_ge, ap_eqi, ap_nei, ap_eqs, ap_neg, ap_truth, ap_bits, List.length, Nat.reduceSub, Nat.reduceAdd, Nat.reduceLeDiff, List.nil_append, List.cons_append, List.append_nil, List.set, List.getElem?_cons_zero, List.getElem?_cons_succ, List.getElem?_nil, setAll, fNot, eq_self, if_true, if_false, reduceIte, id_eq, decide_true, decide_false, Bool.false_eq_true, Bool.true_eq_false, Bool.not_true, Bool.not_false, Bool.true_or, Bool.false_or, Bool.or_true, Bool.or_false, Bool.true_and, Bool.false_and, Bool.and_true, Bool.and_false,e0, e4, h1, q, b]
end K00
end Sv
set_option Elab.async false
set_option linter.all false
set_option maxRecDepth 100000
set_option maxHeartbeats 4000000
set_option exponentiation.threshold 10000
namespace Sv
open PySem PySem.Spec PyProof.Rows L2
theorem rangeD_cons {lo : Int} {n : Nat} : rangeD lo (n + 1) = .int lo :: rangeD (lo + 1) n := by
  unfold rangeD
  rw [List.range_succ_eq_map, List.map_cons, List.map_map]
  congr 1
  · simp
  · refine List.map_congr_left fun k _ => ?_
    simp only [Function.comp_apply]
    congr 1
    omega
theorem di_cons {k n : Nat} : rangeD (k : Int) (n + 1) = di k :: rangeD ((k + 1 : Nat) : Int) n := by
  rw [rangeD_cons]
  rfl
theorem fShr_nat {st : S} {N m : Nat} : fShr (di N) (di m) st = .ok (di (N / 2 ^ m)) st := by
  show (if 0 ≤ (m : Int) then R.ok (D.int ((N : Int) / 2 ^ (m : Int).toNat)) st else R.bad) = _
  rw [if_pos (by omega), Int.toNat_natCast]
  have e : (N : Int) / 2 ^ m = ((N / 2 ^ m : Nat) : Int) := by
    rw [Int.natCast_ediv, Int.natCast_pow]
    rfl
  rw [e]
  rfl
theorem fAnd_one {st : S} {N : Nat} : fAnd (di N) (.int 1) st = .ok (di (N % 2)) st := by
  show (if True then R.ok (D.int (Builtin.bitAnd (N : Int) 1)) st else R.bad) = _
  rw [if_pos trivial]
  have e : Builtin.bitAnd (N : Int) 1 = ((N % 2 : Nat) : Int) := by
    unfold Builtin.bitAnd
    rw [decide_eq_true (by omega), decide_eq_true (by omega)]
    show ((N &&& 1 : Nat) : Int) = _
    rw [Nat.and_one_is_mod]
  rw [e]
  rfl
theorem fSub_nat {st : S} {a b c : Nat} (h : a = b + c) : fSub (di a) (di b) st = .ok (di c) st := by
  show R.ok (D.int ((a : Int) - (b : Int))) st = _
  rw [h]
  show _ = R.ok (D.int (c : Int)) st
  congr 2
  omega
theorem ixN_nat {n k : Nat} (h : k < n) : ixN n (k : Int) = some k := by
  unfold ixN
  simp [h]
theorem ap_set {ge go gi : G} {r : En} {st : S} : sSet ge go gi r st = (match ge r st with
  | .ok d st0 => (match go r st0 with
    | .ok (.loc l) st1 => (match gi r st1 with
      | .ok (.int k) st2 => (match st2[l]? with
        | some ds => (match ixN ds.length k with
          | some j => .nx r (st2.set l (ds.set j d))
          | none => .bad)
        | none => .bad)
      | .ok _ _ => .bad
      | .err c fs s => .err c fs r s
      | .bad => .bad)
    | .ok _ _ => .bad
    | .err c fs s => .err c fs r s
    | .bad => .bad)
  | .err c fs s => .err c fs r s
  | .bad => .bad) := by
  unfold sSet sE
  cases ge r st <;> rfl
namespace K00
variable {st : S}
/-! ### corners -/
abbrev Sp := Qt × Qt
def wc (ps : List Sp) : Nat := (wix 0 ps).length
theorem wix_shift : ∀ (o : Nat) (ps : List Sp), (wix o ps).length = wc ps
  | o, [] => rfl
  | o, p :: r => by
    have h1 := wix_shift (o + 1) r
    have h2 := wix_shift 1 r
    unfold wc
    unfold wix
    split
    · rw [List.length_cons, List.length_cons, h1, h2]
    · rw [h1, h2]
theorem wc_cons {p : Sp} {r : List Sp} : wc (p :: r) = if isW p = true then wc r + 1 else wc r := by
  show (wix 0 (p :: r)).length = _
  unfold wix
  split
  · rw [List.length_cons, wix_shift]
  · rw [wix_shift]
def pick2 (p : Sp) (b : Nat) : Qt := if b = 1 then p.2 else p.1
def cor : List Sp → Nat → List Qt
  | [], _ => []
  | p :: r, n => (if isW p = true then pick2 p (n / 2 ^ wc r % 2) else p.1) :: cor r n
theorem cor_cons {p : Sp} {r : List Sp} {n : Nat} : cor (p :: r) n = (if isW p = true then pick2 p (n / 2 ^ wc r % 2) else p.1) :: cor r n := rfl
theorem cor_len : ∀ (ps : List Sp) (n : Nat), (cor ps n).length = ps.length
  | [], _ => rfl
  | p :: r, n => by
    unfold cor
    rw [List.length_cons, List.length_cons, cor_len r n]
theorem c_turn {B W : D} {o4 : Option D} {N k w m off l : Nat} {p : Sp} {xs : List D} (h0 : fIx W (di k) st = .ok (di off) st) (h1 : fLen [W] st = .ok (di w) st) (h2 : fIx B (di off) st = .ok (ds p) st) (hw : w = k + 1 + m) (hl : st[l]? = some xs) (ho : off < xs.length) :
    b_corners_of_1 [some B, some W, some (di N), some (.loc l), o4, some (di k)] st = .nx [some B, some W, some (di N), some (.loc l), o4, some (di k)] (st.set l (xs.set off (dq (pick2 p (N / 2 ^ m % 2))))) := by
  have e1 : fSub (di w) (.int 1) st = .ok (di (k + m)) st := fSub_nat (b := 1) (by omega)
  have e2 : fSub (di (k + m)) (di k) st = .ok (di m) st := fSub_nat rfl
  have e3 := fShr_nat (st := st) (N := N) (m := m)
  have e4 := fAnd_one (st := st) (N := N / 2 ^ m)
  have e5 : fIx (ds p) (di (N / 2 ^ m % 2)) st = .ok (dq (pick2 p (N / 2 ^ m % 2))) st := by
    have hb : N / 2 ^ m % 2 = 0 ∨ N / 2 ^ m % 2 = 1 := by omega
    rcases hb with z | z <;> rw [z] <;> rfl
  have e6 := ixN_nat ho
  generalize pick2 p (N / 2 ^ m % 2) = q at *
  generalize N / 2 ^ m % 2 = b at *
  generalize N / 2 ^ m = c at *
  unfold b_corners_of_1
  rw [ap_set]
  simp -implicitDefEqProofs only [ap_fnF, ap_seq, ap_skip, ap_if, ap_ret, ap_asg, ap_asg2, ap_drop, ap_par, ap_par3, ap_unp, ap_for, ap_forL, ap_var, ap_c, ap_bin, ap_un, ap_nil, ap_cons, ap_call, ap_def, ap_tr, ap_not, ap_and, ap_or, ap_andv, ap_orv, ap_ife, ap_of, ap_mul, ap_div, ap_mod, ap_sub, ap_addi, ap_lt, ap_le, ap_gt, ap_ge, ap_eqi, ap_nei, ap_eqs, ap_neg, ap_truth, ap_bits, List.length, Nat.reduceSub, Nat.reduceAdd, Nat.reduceLeDiff, List.nil_append, List.cons_append, List.append_nil, List.set, List.getElem?_cons_zero, List.getElem?_cons_succ, List.getElem?_nil, setAll, fNot, eq_self, if_true, if_false, reduceIte, id_eq, decide_true, decide_false, Bool.false_eq_true, Bool.true_eq_false, Bool.not_true, Bool.not_false, Bool.true_or, Bool.false_or, Bool.or_true, Bool.or_false, Bool.true_and, Bool.false_and, Bool.and_true, Bool.and_false,h0, h1, h2, e1, e2, e3, e4, e5]
  simp only [hl, di, e6]
theorem c_loop {B W : D} {o4 : Option D} {N w l : Nat} (hLen : ∀ st, fLen [W] st = .ok (di w) st) : ∀ (suf pre : List Sp) (fin : List Qt) (kk : Nat) (o5 : Option D) (st : S),
    (∀ j p st, (pre ++ suf)[j]? = some p → fIx B (di j) st = .ok (ds p) st) → (∀ i off st, (wix pre.length suf)[i]? = some off → fIx W (di (kk + i)) st = .ok (di off) st) → w = kk + wc suf → fin.length = pre.length → st[l]? = some ((fin ++ suf.map (·.1)).map dq) →
    ∃ o5', loopV (tgV 5) b_corners_of_1 (rangeD (kk : Int) (wc suf)) [some B, some W, some (di N), some (.loc l), o4, o5] st = .nx [some B, some W, some (di N), some (.loc l), o4, o5'] (st.set l ((fin ++ cor suf N).map dq))
  | [], pre, fin, kk, o5, st, _, _, _, _, hl => by
    refine ⟨o5, ?_⟩
    have e : st.set l ((fin ++ cor [] N).map dq) = st := by
      refine List.ext_getElem? fun j => ?_
      by_cases z : l = j
      · subst z
        rw [List.getElem?_set_self (List.getElem?_eq_some_iff.mp hl).1, hl]
        rfl
      · rw [List.getElem?_set_ne z]
    rw [e]
    rfl
  | p :: r, pre, fin, kk, o5, st, hB, hW, hw, hf, hl => by
    have ep : pre ++ p :: r = (pre ++ [p]) ++ r := by simp
    have el : (pre ++ [p]).length = pre.length + 1 := by simp
    cases hp : isW p with
    | false =>
      have e1 : wc (p :: r) = wc r := by rw [wc_cons, if_neg (by rw [hp]; exact Bool.false_ne_true)]
      have e2 : wix pre.length (p :: r) = wix (pre ++ [p]).length r := by
        rw [el]
        conv => lhs; unfold wix
        rw [if_neg (by rw [hp]; exact Bool.false_ne_true)]
      obtain ⟨o5', ih⟩ := c_loop hLen r (pre ++ [p]) (fin ++ [p.1]) kk o5 st (by rw [← ep]; exact hB) (by rw [← e2]; exact hW) (by rw [← e1]; exact hw) (by rw [List.length_append, el, hf]; rfl) (by rw [hl]; simp)
      refine ⟨o5', ?_⟩
      rw [e1, ih]
      congr 2
      rw [cor_cons, if_neg (by rw [hp]; exact Bool.false_ne_true)]
      simp
    | true =>
      have e1 : wc (p :: r) = wc r + 1 := by rw [wc_cons, if_pos hp]
      have e2 : wix pre.length (p :: r) = pre.length :: wix (pre ++ [p]).length r := by
        rw [el]
        conv => lhs; unfold wix
        rw [if_pos hp]
      have hll : l < st.length := (List.getElem?_eq_some_iff.mp hl).1
      have t := c_turn (st := st) (o4 := o4) (N := N) (k := kk) (m := wc r) (off := pre.length) (p := p) (hW 0 pre.length st (by rw [e2]; rfl)) (hLen st) (hB pre.length p st (by rw [List.getElem?_append_right (Nat.le_refl _), Nat.sub_self]; rfl)) (by omega) hl (by
        rw [List.length_map, List.length_append, List.length_map, hf]
        simp)
      have e3 : ((fin ++ (p :: r).map (·.1)).map dq).set pre.length (dq (pick2 p (N / 2 ^ wc r % 2))) = ((fin ++ [pick2 p (N / 2 ^ wc r % 2)]) ++ r.map (·.1)).map dq := by
        rw [← List.map_set, List.set_append_right _ _ (by omega), hf, Nat.sub_self]
        simp
      rw [e3] at t
      obtain ⟨o5', ih⟩ := c_loop hLen r (pre ++ [p]) (fin ++ [pick2 p (N / 2 ^ wc r % 2)]) (kk + 1) (some (di kk)) (st.set l (((fin ++ [pick2 p (N / 2 ^ wc r % 2)]) ++ r.map (·.1)).map dq)) (by rw [← ep]; exact hB)
        (fun i off st h => by
          have z := hW (i + 1) off st (by rw [e2]; exact h)
          rw [show kk + (i + 1) = kk + 1 + i by omega] at z
          exact z) (by omega) (by rw [List.length_append, el, hf]; rfl) (by rw [List.getElem?_set_self hll])
      refine ⟨o5', ?_⟩
      rw [e1, di_cons]
      unfold loopV
      show (match b_corners_of_1 [some B, some W, some (di N), some (.loc l), o4, some (di kk)] st with
        | .nx r2 st2 => loopV (tgV 5) b_corners_of_1 (rangeD ((kk + 1 : Nat) : Int) (wc r)) r2 st2
        | .ct r2 st2 => loopV (tgV 5) b_corners_of_1 (rangeD ((kk + 1 : Nat) : Int) (wc r)) r2 st2
        | .bk r2 st2 => .nx r2 st2
        | o => o) = _
      rw [t]
      dsimp only
      rw [ih, List.set_set]
      congr 2
      rw [cor_cons, if_pos hp]
      simp
theorem dn_ix {ks : List Nat} {i k : Nat} (h : ks[i]? = some k) : fIx (dn ks) (di i) st = .ok (di k) st := tix (by rw [List.getElem?_map, h]; rfl)
theorem dn_len {ks : List Nat} : fLen [dn ks] st = .ok (di ks.length) st := by
  show R.ok (D.int ((ks.map di).length : Nat)) st = _
  rw [List.length_map]
  rfl
theorem ev_body {B W q : D} {o3 o4 o5 o5' : Option D} {N l : Nat} {st1 st2 : S} {dys : List D} (h1 : gLc true [4] (iSq (gVar 0)) (tgV 4) gYes (gBin fIx (gVar 4) (gC (.int 0))) [some B, some W, some (di N), o3, o4, o5] st = .ok (.loc l) st1)
    (h2 : sFor (iOf iRange1 (gCons (gCall fLen (gCons (gVar 1) gNil)) gNil)) (tgV 5) b_corners_of_1 [some B, some W, some (di N), some (.loc l), o4, o5] st1 = .nx [some B, some W, some (di N), some (.loc l), o4, o5'] st2)
    (h3 : fTuple [.loc l] st2 = .ok q st2) (hd : dys.length < 100000) : b_corners_of_2 dys [some B, some W, some (di N), o3, o4, o5] st = .nx (dys ++ [q]) [some B, some W, some (di N), some (.loc l), o4, o5'] st2 := by
  unfold b_corners_of_2 ggSeq ggPl ggYi ggSkip
  simp only [ap_asg, h1, List.set, h2, ap_call, ap_cons, ap_nil, ap_var, List.getElem?_cons_zero, List.getElem?_cons_succ, h3, hd, if_true]
theorem c_body {ps : List Sp} (hb : Bok ps) {N : Nat} {o3 o4 o5 : Option D} {dys : List D} (hd : dys.length < 100000) :
    ∃ o5', b_corners_of_2 dys [some (db ps), some (dn (wix 0 ps)), some (di N), o3, o4, o5] st = .nx (dys ++ [dp (cor ps N)]) [some (db ps), some (dn (wix 0 ps)), some (di N), some (.loc st.length), o4, o5'] (st ++ [(cor ps N).map dq]) := by
  have l := lc_map (st := st) (t := tgV 4) (ge := gBin fIx (gVar 4) (gC (.int 0))) (r0 := [some (db ps), some (dn (wix 0 ps)), some (di N), o3, none, o5]) (fun d => match d with | .tup (a :: _) => a | _ => .non) (ds := ps.map ds) fun d hd => by
    obtain ⟨p, _, rfl⟩ := List.mem_map.mp hd
    exact ⟨[some (db ps), some (dn (wix 0 ps)), some (di N), o3, some (ds p), o5], rfl, rfl⟩
  have e : (ps.map ds).map (fun d => match d with | .tup (a :: _) => a | _ => D.non) = (ps.map (·.1)).map dq := by
    rw [List.map_map, List.map_map]
    rfl
  rw [e] at l
  have h1 := gLc_ok (c := true) (vs := [4]) (gi := iSq (gVar 0)) (r := [some (db ps), some (dn (wix 0 ps)), some (di N), o3, o4, o5]) (ds := ps.map ds) (st := st) rfl l
  have h8 := hb.2
  rw [nl_loc (by rw [List.length_map, List.length_map]; omega)] at h1
  have wl : wc ps ≤ 8 := Nat.le_trans (wix_len 0 ps) h8
  obtain ⟨o5', lp⟩ := c_loop (B := db ps) (W := dn (wix 0 ps)) (o4 := o4) (N := N) (w := wc ps) (l := st.length) (fun st => dn_len) ps [] [] 0 o5 (st ++ [(ps.map (·.1)).map dq]) (fun j p st h => dbix h) (fun i off st h => by
    rw [Nat.zero_add]
    exact dn_ix h) (by omega) rfl (by rw [List.getElem?_append_right (Nat.le_refl _), Nat.sub_self]; rfl)
  have e2 : (st ++ [(ps.map (·.1)).map dq]).set st.length (([] ++ cor ps N).map dq) = st ++ [(cor ps N).map dq] := by
    rw [List.set_append_right _ _ (Nat.le_refl _), Nat.sub_self]
    rfl
  rw [e2] at lp
  refine ⟨o5', ev_body h1 ?_ ?_ hd⟩
  · have g1 : iOf iRange1 (gCons (gCall fLen (gCons (gVar 1) gNil)) gNil) [some (db ps), some (dn (wix 0 ps)), some (di N), some (.loc st.length), o4, o5] (st ++ [(ps.map (·.1)).map dq]) = .ok (rangeD 0 (wc ps)) (st ++ [(ps.map (·.1)).map dq]) := by
      refine range1_ok ?_ (by omega)
      have q := dn_len (st := st ++ [(ps.map (·.1)).map dq]) (ks := wix 0 ps)
      simp -implicitDefEqProofs only [ap_fnF, ap_seq, ap_skip, ap_if, ap_ret, ap_asg, ap_asg2, ap_drop, ap_par, ap_par3, ap_unp, ap_for, ap_forL, ap_var, ap_c, ap_bin, ap_un, ap_nil, ap_cons, ap_call, ap_def, ap_tr, ap_not, ap_and, ap_or, ap_andv, ap_orv, ap_ife, ap_of, ap_mul, ap_div, ap_mod, ap_sub, ap_addi, ap_lt, ap_le, ap_gt, ap_ge, ap_eqi, ap_nei, ap_eqs, ap_neg, ap_truth, ap_bits, List.length, Nat.reduceSub, Nat.reduceAdd, Nat.reduceLeDiff, List.nil_append, List.cons_append, List.append_nil, List.set, List.getElem?_cons_zero, List.getElem?_cons_succ, List.getElem?_nil, setAll, fNot, eq_self, if_true, if_false, reduceIte, id_eq, decide_true, decide_false, Bool.false_eq_true, Bool.true_eq_false, Bool.not_true, Bool.not_false, Bool.true_or, Bool.false_or, Bool.or_true, Bool.or_false, Bool.true_and, Bool.false_and, Bool.and_true, Bool.and_false,q]
      rfl
    rw [ap_for, g1]
    exact lp
  · show (match (st ++ [(cor ps N).map dq])[st.length]? with
      | some ds => R.ok (D.tup ds) (st ++ [(cor ps N).map dq])
      | none => R.bad) = _
    rw [List.getElem?_append_right (Nat.le_refl _), Nat.sub_self]
    rfl
theorem c_gloop {ps : List Sp} (hb : Bok ps) : ∀ (n N0 : Nat) (dys : List D) (o2 o3 o4 o5 : Option D) (st : S), dys.length + n ≤ 100000 →
    ∃ r' ex, ggLoop (tgV 2) b_corners_of_2 (rangeD (N0 : Int) n) dys [some (db ps), some (dn (wix 0 ps)), o2, o3, o4, o5] st = .nx (dys ++ (List.range' N0 n).map fun N => dp (cor ps N)) r' (st ++ ex)
  | 0, N0, dys, o2, o3, o4, o5, st, _ => ⟨_, [], by rw [List.append_nil]; show OG.nx dys _ st = _; rw [show (List.range' N0 0).map (fun N => dp (cor ps N)) = [] from rfl, List.append_nil]⟩
  | n + 1, N0, dys, o2, o3, o4, o5, st, h => by
    obtain ⟨o5', e1⟩ := c_body (st := st) hb (N := N0) (o3 := o3) (o4 := o4) (o5 := o5) (dys := dys) (by omega)
    obtain ⟨r', ex, ih⟩ := c_gloop hb n (N0 + 1) (dys ++ [dp (cor ps N0)]) (some (di N0)) (some (.loc st.length)) o4 o5' (st ++ [(cor ps N0).map dq]) (by rw [List.length_append, List.length_singleton]; omega)
    refine ⟨r', [(cor ps N0).map dq] ++ ex, ?_⟩
    rw [di_cons]
    unfold ggLoop
    show (match b_corners_of_2 dys [some (db ps), some (dn (wix 0 ps)), some (di N0), o3, o4, o5] st with
      | .nx dys2 r2 st2 => ggLoop (tgV 2) b_corners_of_2 (rangeD ((N0 + 1 : Nat) : Int) n) dys2 r2 st2
      | .ct dys2 r2 st2 => ggLoop (tgV 2) b_corners_of_2 (rangeD ((N0 + 1 : Nat) : Int) n) dys2 r2 st2
      | .bk dys2 r2 st2 => .nx dys2 r2 st2
      | o => o) = _
    rw [e1]
    dsimp only
    rw [ih, List.append_assoc, List.append_assoc]
    rfl
def cors (ps : List Sp) : List (List Qt) := (List.range (2 ^ wc ps)).map (cor ps)
theorem ev_corners {B W : D} {n : Nat} {ys : List D} {r' : En} {st2 : S} (h1 : F_wide_sides [B] st = .ok W st) (h2 : fLen [W] st = .ok (di n) st) (hn : n ≤ 8)
    (h3 : ggLoop (tgV 2) b_corners_of_2 (rangeD 0 (2 ^ n)) [] [some B, some W, none, none, none, none] st = .nx ys r' st2) : F_corners_of [B] st = .ok ys st2 := by
  have hs : startD N_corners_of [B] = [some B, none, none, none, none, none] := rfl
  have e1 : fShl (.int 1) (di n) st = .ok (di (2 ^ n)) st := by
    have hc : ShC 1 (n : Int) := ⟨⟨by omega, by omega⟩, by decide⟩
    show (if ShC 1 (n : Int) then R.ok (D.int (1 * 2 ^ (n : Int).toNat)) st else R.bad) = _
    rw [if_pos hc, Int.one_mul, Int.toNat_natCast]
    show R.ok (D.int ((2 : Int) ^ n)) st = R.ok (D.int ((2 ^ n : Nat) : Int)) st
    rw [Int.natCast_pow]
    rfl
  have p8 : 2 ^ n ≤ 100000 := Nat.le_trans (Nat.pow_le_pow_right (by decide) hn) (by decide)
  have e2 : iOf iRange1 (gCons (gBin fShl (gC (.int 1)) (gCall fLen (gCons (gVar 1) gNil))) gNil) [some B, some W, none, none, none, none] st = .ok (rangeD 0 (2 ^ n)) st := by
    refine range1_ok ?_ p8
    simp -implicitDefEqProofs only [ap_fnF, ap_seq, ap_skip, ap_if, ap_ret, ap_asg, ap_asg2, ap_drop, ap_par, ap_par3, ap_unp, ap_for, ap_forL, ap_var, ap_c, ap_bin, ap_un, ap_nil, ap_cons, ap_call, ap_def, ap_tr, ap_not, ap_and, ap_or, ap_andv, ap_orv, ap_ife, ap_of, ap_mul, ap_div, ap_mod, ap_sub, ap_addi, ap_lt, ap_le, ap_gt, ap_ge, ap_eqi, ap_nei, ap_eqs, ap_neg, ap_truth, ap_bits, List.length, Nat.reduceSub, Nat.reduceAdd, Nat.reduceLeDiff, List.nil_append, List.cons_append, List.append_nil, List.set, List.getElem?_cons_zero, List.getElem?_cons_succ, List.getElem?_nil, setAll, fNot, eq_self, if_true, if_false, reduceIte, id_eq, decide_true, decide_false, Bool.false_eq_true, Bool.true_eq_false, Bool.not_true, Bool.not_false, Bool.true_or, Bool.false_or, Bool.or_true, Bool.or_false, Bool.true_and, Bool.false_and, Bool.and_true, Bool.and_false,h2, e1]
  unfold F_corners_of fnG
  rw [hs]
  unfold g_corners_of ggSeq ggPl ggFor ggSkip
  simp only [ap_asg, ap_def, ap_cons, ap_nil, ap_var, List.getElem?_cons_zero, List.length, Nat.reduceAdd, if_true, h1, List.set, e2, h3]
theorem p_corners {ps : List Sp} (hb : Bok ps) : ∃ ex, F_corners_of [db ps] st = .ok ((cors ps).map dp) (st ++ ex) := by
  have wl : wc ps ≤ 8 := Nat.le_trans (wix_len 0 ps) hb.2
  have p8 : 2 ^ wc ps ≤ 100000 := Nat.le_trans (Nat.pow_le_pow_right (by decide) wl) (by decide)
  obtain ⟨r', ex, lp⟩ := c_gloop hb (2 ^ wc ps) 0 [] none none none none st (by simpa using p8)
  refine ⟨ex, ?_⟩
  have e : [] ++ (List.range' 0 (2 ^ wc ps)).map (fun N => dp (cor ps N)) = (cors ps).map dp := by
    unfold cors
    rw [List.nil_append, List.map_map, ← List.range_eq_range']
    rfl
  rw [e] at lp
  exact ev_corners (p_wide_sides hb) dn_len wl lp
/-! ### corners side by side -/
theorem cor_more : ∀ (r : List Sp) (n c : Nat), cor r (n + 2 ^ wc r * c) = cor r n
  | [], _, _ => rfl
  | p :: r, n, c => by
    rw [cor_cons, cor_cons, wc_cons]
    by_cases hp : isW p = true
    · rw [if_pos hp, if_pos hp, if_pos hp, Nat.pow_succ, Nat.mul_assoc, cor_more r n (2 * c)]
      have e : (n + 2 ^ wc r * (2 * c)) / 2 ^ wc r % 2 = n / 2 ^ wc r % 2 := by
        rw [Nat.add_mul_div_left _ _ (Nat.two_pow_pos _)]
        omega
      rw [e]
    · rw [if_neg hp, if_neg hp, if_neg hp, cor_more r n c]
theorem cors_nil : cors [] = [[]] := rfl
theorem cors_flat {p : Sp} {r : List Sp} (hp : isW p = false) : cors (p :: r) = (cors r).map (p.1 :: ·) := by
  unfold cors
  rw [wc_cons, if_neg (by rw [hp]; exact Bool.false_ne_true), List.map_map]
  refine List.map_congr_left fun n _ => ?_
  show cor (p :: r) n = p.1 :: cor r n
  rw [cor_cons, if_neg (by rw [hp]; exact Bool.false_ne_true)]
theorem cors_wide {p : Sp} {r : List Sp} (hp : isW p = true) : cors (p :: r) = (cors r).map (p.1 :: ·) ++ (cors r).map (p.2 :: ·) := by
  unfold cors
  rw [wc_cons, if_pos hp, Nat.pow_succ, Nat.mul_two, List.range_add, List.map_append, List.map_map, List.map_map, List.map_map]
  congr 1
  · refine List.map_congr_left fun n hn => ?_
    have hn := List.mem_range.mp hn
    show cor (p :: r) n = p.1 :: cor r n
    rw [cor_cons, if_pos hp, Nat.div_eq_of_lt hn]
    rfl
  · refine List.map_congr_left fun n hn => ?_
    have hn := List.mem_range.mp hn
    show cor (p :: r) (2 ^ wc r + n) = p.2 :: cor r n
    have e := cor_more r n 1
    rw [Nat.mul_one, Nat.add_comm] at e
    rw [cor_cons, if_pos hp, e, Nat.add_div_left _ (Nat.two_pow_pos _), Nat.div_eq_of_lt hn]
    rfl
end K00
end Sv
set_option Elab.async false
set_option linter.all false
set_option maxRecDepth 100000
set_option maxHeartbeats 4000000
set_option exponentiation.threshold 10000
namespace Sv
open PySem PySem.Spec PyProof.Rows L2
namespace K00
variable {st : S}
/-! ### draws -/
def Row (st : S) (l : Nat) : Prop := ∃ vs : List Int, st[l]? = some (vs.map D.int)
theorem Row.set {l : Nat} {ys : List Int} (h : Row st l) : Row (st.set l (ys.map D.int)) l := by
  obtain ⟨vs, e⟩ := h
  exact ⟨ys, List.getElem?_set_self (List.getElem?_eq_some_iff.mp e).1⟩
theorem Row.more {l : Nat} {ex : S} (h : Row st l) : Row (st ++ ex) l := by
  obtain ⟨vs, e⟩ := h
  exact ⟨vs, by rw [List.getElem?_append_left (List.getElem?_eq_some_iff.mp e).1]; exact e⟩
theorem p_draw {l : Nat} (m : Int) (h : Row st l) (hm : 0 < m) : ∃ v st', F__law_take [.loc l, .int m] st = .ok (.int v) st' ∧ 0 ≤ v ∧ v < m ∧ Row st' l := by
  obtain ⟨vs, e⟩ := h
  rcases List.eq_nil_or_concat vs with z | ⟨ws, v, z⟩
  · subst z
    exact ⟨0, st, p_take_none e, by omega, hm, [], e⟩
  · subst z
    refine ⟨v.fmod m, st.set l (ws.map D.int), p_take (by rw [e]; simp) (by omega), Int.fmod_nonneg_of_pos v hm, Int.fmod_lt_of_pos v hm, Row.set ⟨_, e⟩⟩
theorem mulc64 {i j : Int} (h : i.natAbs < 2 ^ 64) (k : j.natAbs < 2 ^ 64) : MulC i j := mulc h k (by decide) (by decide)
theorem ev_whole1 {l : Nat} {k s v : Int} {st1 st2 st3 : S} (e1 : F__law_take [.loc l, .int 6] st = .ok (.int k) st1) (e2 : F__law_take [.loc l, .int 2] st1 = .ok (.int s) st2) (h : decide (k < 4) = true) (e3 : F__law_take [.loc l, .int 7] st2 = .ok (.int v) st3) (m1 : MulC 2 s) (m2 : MulC (1 - 2 * s) v) :
    F__law_whole [.loc l] st = .ok (.int ((1 - 2 * s) * v)) st3 := by
  have hs : startD N__law_whole [.loc l] = [some (.loc l), none, none, none] := rfl
  unfold F__law_whole
  rw [ap_fnF, hs]
  unfold g__law_whole
  simp -implicitDefEqProofs only [ap_fnF, ap_seq, ap_skip, ap_if, ap_ret, ap_asg, ap_asg2, ap_drop, ap_par, ap_par3, ap_unp, ap_for, ap_forL, ap_var, ap_c, ap_bin, ap_un, ap_nil, ap_cons, ap_call, ap_def, ap_tr, ap_not, ap_and, ap_or, ap_andv, ap_orv, ap_ife, ap_of, ap_mul, ap_div, ap_mod, ap_sub, ap_addi, ap_lt, ap_le, ap_gt, ap_ge, ap_eqi, ap_nei, ap_eqs, ap_neg, ap_truth, ap_bits, List.length, Nat.reduceSub, Nat.reduceAdd, Nat.reduceLeDiff, List.nil_append, List.cons_append, List.append_nil, List.set, List.getElem?_cons_zero, List.getElem?_cons_succ, List.getElem?_nil, setAll, fNot, eq_self, if_true, if_false, reduceIte, id_eq, decide_true, decide_false, Bool.false_eq_true, Bool.true_eq_false, Bool.not_true, Bool.not_false, Bool.true_or, Bool.false_or, Bool.or_true, Bool.or_false, Bool.true_and, Bool.false_and, Bool.and_true, Bool.and_false,e1, e2, e3, h, m1, m2]
theorem ev_whole2 {l : Nat} {k s v : Int} {st1 st2 st3 : S} (e1 : F__law_take [.loc l, .int 6] st = .ok (.int k) st1) (e2 : F__law_take [.loc l, .int 2] st1 = .ok (.int s) st2) (h : decide (k < 4) = false) (h2 : decide (k = 4) = true) (e3 : F__law_take [.loc l, .int 2000] st2 = .ok (.int v) st3) (m1 : MulC 2 s) (m2 : MulC (1 - 2 * s) v) :
    F__law_whole [.loc l] st = .ok (.int ((1 - 2 * s) * v)) st3 := by
  have hs : startD N__law_whole [.loc l] = [some (.loc l), none, none, none] := rfl
  unfold F__law_whole
  rw [ap_fnF, hs]
  unfold g__law_whole
  simp -implicitDefEqProofs only [ap_fnF, ap_seq, ap_skip, ap_if, ap_ret, ap_asg, ap_asg2, ap_drop, ap_par, ap_par3, ap_unp, ap_for, ap_forL, ap_var, ap_c, ap_bin, ap_un, ap_nil, ap_cons, ap_call, ap_def, ap_tr, ap_not, ap_and, ap_or, ap_andv, ap_orv, ap_ife, ap_of, ap_mul, ap_div, ap_mod, ap_sub, ap_addi, ap_lt, ap_le, ap_gt, ap_ge, ap_eqi, ap_nei, ap_eqs, ap_neg, ap_truth, ap_bits, List.length, Nat.reduceSub, Nat.reduceAdd, Nat.reduceLeDiff, List.nil_append, List.cons_append, List.append_nil, List.set, List.getElem?_cons_zero, List.getElem?_cons_succ, List.getElem?_nil, setAll, fNot, eq_self, if_true, if_false, reduceIte, id_eq, decide_true, decide_false, Bool.false_eq_true, Bool.true_eq_false, Bool.not_true, Bool.not_false, Bool.true_or, Bool.false_or, Bool.or_true, Bool.or_false, Bool.true_and, Bool.false_and, Bool.and_true, Bool.and_false,e1, e2, e3, h, h2, m1, m2]
theorem ev_whole3 {l : Nat} {k s v u w : Int} {st1 st2 st3 st4 st5 : S} (e1 : F__law_take [.loc l, .int 6] st = .ok (.int k) st1) (e2 : F__law_take [.loc l, .int 2] st1 = .ok (.int s) st2) (h : decide (k < 4) = false) (h2 : decide (k = 4) = false) (e3 : F__law_take [.loc l, .int 10000] st2 = .ok (.int v) st3)
    (e4 : F__law_take [.loc l, .int 10000] st3 = .ok (.int u) st4) (e5 : F__law_take [.loc l, .int 10000] st4 = .ok (.int w) st5) (m1 : MulC 2 s) (m3 : MulC v 100000000) (m4 : MulC u 10000) (m2 : MulC (1 - 2 * s) (v * 100000000 + u * 10000 + w + 1)) :
    F__law_whole [.loc l] st = .ok (.int ((1 - 2 * s) * (v * 100000000 + u * 10000 + w + 1))) st5 := by
  have hs : startD N__law_whole [.loc l] = [some (.loc l), none, none, none] := rfl
  unfold F__law_whole
  rw [ap_fnF, hs]
  unfold g__law_whole
  simp -implicitDefEqProofs only [ap_fnF, ap_seq, ap_skip, ap_if, ap_ret, ap_asg, ap_asg2, ap_drop, ap_par, ap_par3, ap_unp, ap_for, ap_forL, ap_var, ap_c, ap_bin, ap_un, ap_nil, ap_cons, ap_call, ap_def, ap_tr, ap_not, ap_and, ap_or, ap_andv, ap_orv, ap_ife, ap_of, ap_mul, ap_div, ap_mod, ap_sub, ap_addi, ap_lt, ap_le, ap_gt, ap_ge, ap_eqi, ap_nei, ap_eqs, ap_neg, ap_truth, ap_bits, List.length, Nat.reduceSub, Nat.reduceAdd, Nat.reduceLeDiff, List.nil_append, List.cons_append, List.append_nil, List.set, List.getElem?_cons_zero, List.getElem?_cons_succ, List.getElem?_nil, setAll, fNot, eq_self, if_true, if_false, reduceIte, id_eq, decide_true, decide_false, Bool.false_eq_true, Bool.true_eq_false, Bool.not_true, Bool.not_false, Bool.true_or, Bool.false_or, Bool.or_true, Bool.or_false, Bool.true_and, Bool.false_and, Bool.and_true, Bool.and_false,e1, e2, e3, e4, e5, h, h2, m1, m2, m3, m4]
theorem sg {s v : Int} (h0 : 0 ≤ s) (h1 : s < 2) : ((1 - 2 * s) * v).natAbs = v.natAbs := by
  have : s = 0 ∨ s = 1 := by omega
  rcases this with rfl | rfl
  · simp
  · have : (1 - 2 * 1 : Int) = -1 := rfl
    rw [this]
    omega
theorem p_whole {l : Nat} (h : Row st l) : ∃ v st', F__law_whole [.loc l] st = .ok (.int v) st' ∧ v.natAbs ≤ 1000000000000 ∧ Row st' l := by
  obtain ⟨k, st1, e1, k0, k1, r1⟩ := p_draw 6 h (by decide)
  obtain ⟨s, st2, e2, s0, s1, r2⟩ := p_draw 2 r1 (by decide)
  have m1 : MulC 2 s := mulc64 (by decide) (by omega)
  by_cases c1 : k < 4
  · obtain ⟨v, st3, e3, v0, v1, r3⟩ := p_draw 7 r2 (by decide)
    exact ⟨_, st3, ev_whole1 e1 e2 (decide_eq_true c1) e3 m1 (mulc64 (by omega) (by omega)), by rw [sg s0 s1]; omega, r3⟩
  · by_cases c2 : k = 4
    · obtain ⟨v, st3, e3, v0, v1, r3⟩ := p_draw 2000 r2 (by decide)
      exact ⟨_, st3, ev_whole2 e1 e2 (decide_eq_false c1) (decide_eq_true c2) e3 m1 (mulc64 (by omega) (by omega)), by rw [sg s0 s1]; omega, r3⟩
    · obtain ⟨v, st3, e3, v0, v1, r3⟩ := p_draw 10000 r2 (by decide)
      obtain ⟨u, st4, e4, u0, u1, r4⟩ := p_draw 10000 r3 (by decide)
      obtain ⟨w, st5, e5, w0, w1, r5⟩ := p_draw 10000 r4 (by decide)
      exact ⟨_, st5, ev_whole3 e1 e2 (decide_eq_false c1) (decide_eq_false c2) e3 e4 e5 m1 (mulc64 (by omega) (by decide)) (mulc64 (by omega) (by decide)) (mulc64 (by omega) (by omega)), by rw [sg s0 s1]; omega, r5⟩
/-! ### lowest terms -/
theorem gcd_pos {a b : Int} (h : b ≠ 0) : 0 < Nat.gcd a.natAbs b.natAbs := Nat.gcd_pos_of_pos_right _ (by omega)
def lowQ (a b : Int) : Qt := (a.fdiv (Nat.gcd a.natAbs b.natAbs : Nat), b.fdiv (Nat.gcd a.natAbs b.natAbs : Nat))
theorem lowQ_red {a b : Int} (h : 0 < b) : lowQ a b = redQ a b := by
  unfold lowQ redQ sgn
  rw [if_neg (by omega)]
  rfl
theorem fn_rt {N : List Str} {g : GS} {ds : List D} {r : En} {st st' : S} {d : D} (h : startD N ds = r) (e : g r st = .rt d st') : fnF N g ds st = .ok d st' := by
  rw [ap_fnF, h, e]
theorem seq_nx {g h : GS} {r r' : En} {st st' : S} {o : O} (e : g r st = .nx r' st') (k : h r' st' = o) : gSeq g h r st = o := by
  rw [ap_seq, e]
  exact k
theorem seq_rt {g h : GS} {r : En} {st st' : S} {d : D} (e : g r st = .rt d st') : gSeq g h r st = .rt d st' := by
  rw [ap_seq, e]
theorem lw1 {a b g : Int} (e : F__law_common [.int a, .int b] st = .ok (.int g) st) : sAsg 2 (gDef 2 F__law_common (gCons (gVar 0) (gCons (gVar 1) gNil))) [some (.int a), some (.int b), none] st = .nx [some (.int a), some (.int b), some (.int g)] st := by
  simp -implicitDefEqProofs only [ap_fnF, ap_seq, ap_skip, ap_if, ap_ret, ap_asg, ap_asg2, ap_drop, ap_par, ap_par3, ap_unp, ap_for, ap_forL, ap_var, ap_c, ap_bin, ap_un, ap_nil, ap_cons, ap_call, ap_def, ap_tr, ap_not, ap_and, ap_or, ap_andv, ap_orv, ap_ife, ap_of, ap_mul, ap_div, ap_mod, ap_sub, ap_addi, ap_lt, ap_le, ap_gt, ap_ge, ap_eqi, ap_nei, ap_eqs, ap_neg, ap_truth, ap_bits, List.length, Nat.reduceSub, Nat.reduceAdd, Nat.reduceLeDiff, List.nil_append, List.cons_append, List.append_nil, List.set, List.getElem?_cons_zero, List.getElem?_cons_succ, List.getElem?_nil, setAll, fNot, eq_self, if_true, if_false, reduceIte, id_eq, decide_true, decide_false, Bool.false_eq_true, Bool.true_eq_false, Bool.not_true, Bool.not_false, Bool.true_or, Bool.false_or, Bool.or_true, Bool.or_false, Bool.true_and, Bool.false_and, Bool.and_true, Bool.and_false,e]
theorem lw2 {a b g : Int} (d1 : DivC a g) (d2 : DivC b g) : sRet (gCall fTup (gCons (gBin fDiv (gVar 0) (gVar 2)) (gCons (gBin fDiv (gVar 1) (gVar 2)) gNil))) [some (.int a), some (.int b), some (.int g)] st = .rt (.tup [.int (a.fdiv g), .int (b.fdiv g)]) st := by
  have e2 : ∀ x y : D, fTup [x, y] st = .ok (.tup [x, y]) st := fun _ _ => rfl
  simp -implicitDefEqProofs only [ap_fnF, ap_seq, ap_skip, ap_if, ap_ret, ap_asg, ap_asg2, ap_drop, ap_par, ap_par3, ap_unp, ap_for, ap_forL, ap_var, ap_c, ap_bin, ap_un, ap_nil, ap_cons, ap_call, ap_def, ap_tr, ap_not, ap_and, ap_or, ap_andv, ap_orv, ap_ife, ap_of, ap_mul, ap_div, ap_mod, ap_sub, ap_addi, ap_lt, ap_le, ap_gt, ap_ge, ap_eqi, ap_nei, ap_eqs, ap_neg, ap_truth, ap_bits, List.length, Nat.reduceSub, Nat.reduceAdd, Nat.reduceLeDiff, List.nil_append, List.cons_append, List.append_nil, List.set, List.getElem?_cons_zero, List.getElem?_cons_succ, List.getElem?_nil, setAll, fNot, eq_self, if_true, if_false, reduceIte, id_eq, decide_true, decide_false, Bool.false_eq_true, Bool.true_eq_false, Bool.not_true, Bool.not_false, Bool.true_or, Bool.false_or, Bool.or_true, Bool.or_false, Bool.true_and, Bool.false_and, Bool.and_true, Bool.and_false,d1, d2, e2]
theorem ev_lowest {a b g : Int} (e : F__law_common [.int a, .int b] st = .ok (.int g) st) (d1 : DivC a g) (d2 : DivC b g) : F__law_lowest [.int a, .int b] st = .ok (.tup [.int (a.fdiv g), .int (b.fdiv g)]) st :=
  fn_rt (N := N__law_lowest) (g := g__law_lowest) (r := [some (.int a), some (.int b), none]) rfl (seq_nx (lw1 e) (lw2 d1 d2))
theorem p_lowest {a b : Int} {n : Nat} (ha : a.natAbs < 2 ^ n) (hb : b.natAbs < 2 ^ n) (hn : n ≤ 8000) (hp : 0 < b) : F__law_lowest [.int a, .int b] st = .ok (dq (redQ a b)) st := by
  have e := p_common (st := st) ha hb hn
  have g0 : ((Nat.gcd a.natAbs b.natAbs : Nat) : Int) ≠ 0 := by have := gcd_pos (a := a) (b := b) (by omega); omega
  have gB : ((Nat.gcd a.natAbs b.natAbs : Nat) : Int).natAbs < BIG := by
    rw [Int.natAbs_natCast]
    exact Nat.lt_of_le_of_lt (Nat.gcd_le_right _ (by omega)) (lt_big hb hn)
  rw [← lowQ_red hp]
  unfold lowQ dq
  generalize ((Nat.gcd a.natAbs b.natAbs : Nat) : Int) = g at *
  exact ev_lowest e ⟨g0, gB⟩ ⟨g0, gB⟩
theorem ev_quotient {l : Nat} {t b : Int} {q : D} {st1 st2 st3 : S} (e1 : F__law_whole [.loc l] st = .ok (.int t) st1) (e2 : F__law_whole [.loc l] st1 = .ok (.int b) st2) (c : Int) (hc : absI b = c) (hz : decide (c = 0) = false) (e3 : F__law_lowest [.int t, .int c] st2 = .ok q st3) : F__law_quotient [.loc l] st = .ok q st3 := by
  have hs : startD N__law_quotient [.loc l] = [some (.loc l), none, none] := rfl
  have e4 : fAbs [.int b] st2 = .ok (.int c) st2 := by rw [← hc]; rfl
  unfold F__law_quotient
  rw [ap_fnF, hs]
  unfold g__law_quotient
  simp -implicitDefEqProofs only [ap_fnF, ap_seq, ap_skip, ap_if, ap_ret, ap_asg, ap_asg2, ap_drop, ap_par, ap_par3, ap_unp, ap_for, ap_forL, ap_var, ap_c, ap_bin, ap_un, ap_nil, ap_cons, ap_call, ap_def, ap_tr, ap_not, ap_and, ap_or, ap_andv, ap_orv, ap_ife, ap_of, ap_mul, ap_div, ap_mod, ap_sub, ap_addi, ap_lt, ap_le, ap_gt, ap_ge, ap_eqi, ap_nei, ap_eqs, ap_neg, ap_truth, ap_bits, List.length, Nat.reduceSub, Nat.reduceAdd, Nat.reduceLeDiff, List.nil_append, List.cons_append, List.append_nil, List.set, List.getElem?_cons_zero, List.getElem?_cons_succ, List.getElem?_nil, setAll, fNot, eq_self, if_true, if_false, reduceIte, id_eq, decide_true, decide_false, Bool.false_eq_true, Bool.true_eq_false, Bool.not_true, Bool.not_false, Bool.true_or, Bool.false_or, Bool.or_true, Bool.or_false, Bool.true_and, Bool.false_and, Bool.and_true, Bool.and_false,e1, e2, e3, e4, hz]
theorem ev_quotient0 {l : Nat} {t b : Int} {q : D} {st1 st2 st3 : S} (e1 : F__law_whole [.loc l] st = .ok (.int t) st1) (e2 : F__law_whole [.loc l] st1 = .ok (.int b) st2) (c : Int) (hc : absI b = c) (hz : decide (c = 0) = true) (e3 : F__law_lowest [.int t, .int 1] st2 = .ok q st3) : F__law_quotient [.loc l] st = .ok q st3 := by
  have hs : startD N__law_quotient [.loc l] = [some (.loc l), none, none] := rfl
  have e4 : fAbs [.int b] st2 = .ok (.int c) st2 := by rw [← hc]; rfl
  unfold F__law_quotient
  rw [ap_fnF, hs]
  unfold g__law_quotient
  simp -implicitDefEqProofs only [ap_fnF, ap_seq, ap_skip, ap_if, ap_ret, ap_asg, ap_asg2, ap_drop, ap_par, ap_par3, ap_unp, ap_for, ap_forL, ap_var, ap_c, ap_bin, ap_un, ap_nil, ap_cons, ap_call, ap_def, ap_tr, ap_not, ap_and, ap_or, ap_andv, ap_orv, ap_ife, ap_of, ap_mul, ap_div, ap_mod, ap_sub, ap_addi, ap_lt, ap_le, ap_gt, ap_ge, ap_eqi, ap_nei, ap_eqs, ap_neg, ap_truth, ap_bits, List.length, Nat.reduceSub, Nat.reduceAdd, Nat.reduceLeDiff, List.nil_append, List.cons_append, List.append_nil, List.set, List.getElem?_cons_zero, List.getElem?_cons_succ, List.getElem?_nil, setAll, fNot, eq_self, if_true, if_false, reduceIte, id_eq, decide_true, decide_false, Bool.false_eq_true, Bool.true_eq_false, Bool.not_true, Bool.not_false, Bool.true_or, Bool.false_or, Bool.or_true, Bool.or_false, Bool.true_and, Bool.false_and, Bool.and_true, Bool.and_false,e1, e2, e3, e4, hz]
theorem p40 {n : Nat} (h : n ≤ 1000000000000) : n < 2 ^ 40 := Nat.lt_of_le_of_lt h (by decide)
theorem p_quotient {l : Nat} (h : Row st l) : ∃ q st', F__law_quotient [.loc l] st = .ok (dq q) st' ∧ Qok q ∧ Row st' l := by
  obtain ⟨t, st1, e1, t1, r1⟩ := p_whole h
  obtain ⟨b, st2, e2, b1, r2⟩ := p_whole r1
  have ea := absI_nat b
  by_cases z : b = 0
  · subst z
    refine ⟨redQ t 1, st2, ev_quotient0 e1 e2 0 rfl rfl (p_lowest (n := 40) (p40 t1) (by decide) (by decide) (by decide)), ⟨(redQ_low (by decide)).1, red_W (by decide) (p40 t1) (by decide)⟩, r2⟩
  · refine ⟨redQ t (absI b), st2, ev_quotient e1 e2 _ rfl (decide_eq_false (by omega)) (p_lowest (n := 40) (p40 t1) (by rw [ea]; exact p40 (by omega)) (by decide) (by omega)), ⟨(redQ_low (by omega)).1, red_W (by omega) (p40 t1) (by rw [ea]; exact p40 (by omega))⟩, r2⟩
/-! ### the law's own comparisons -/
theorem p_below {x y : Qt} (hx : W 3000 x) (hy : W 3000 y) : F__law_below [dq x, dq y] st = .ok (.bl (ltQ x y)) st := by
  have m1 := mulc hx.1 hy.2 (by decide) (by decide)
  have m3 := mulc hy.1 hx.2 (by decide) (by decide)
  have hs : startD N__law_below [dq x, dq y] = [some (dq x), some (dq y)] := rfl
  unfold F__law_below
  rw [ap_fnF, hs]
  unfold g__law_below
  simp -implicitDefEqProofs only [ap_fnF, ap_seq, ap_skip, ap_if, ap_ret, ap_asg, ap_asg2, ap_drop, ap_par, ap_par3, ap_unp, ap_for, ap_forL, ap_var, ap_c, ap_bin, ap_un, ap_nil, ap_cons, ap_call, ap_def, ap_tr, ap_not, ap_and, ap_or, ap_andv, ap_orv, ap_ife, ap_of, ap_mul, ap_div, ap_mod, ap_sub, ap_addi, ap_lt, ap_le, ap_gt, ap_ge, ap_eqi, ap_nei, ap_eqs, ap_neg, ap_truth, ap_bits, List.length, Nat.reduceSub, Nat.reduceAdd, Nat.reduceLeDiff, List.nil_append, List.cons_append, List.append_nil, List.set, List.getElem?_cons_zero, List.getElem?_cons_succ, List.getElem?_nil, setAll, fNot, eq_self, if_true, if_false, reduceIte, id_eq, decide_true, decide_false, Bool.false_eq_true, Bool.true_eq_false, Bool.not_true, Bool.not_false, Bool.true_or, Bool.false_or, Bool.or_true, Bool.or_false, Bool.true_and, Bool.false_and, Bool.and_true, Bool.and_false,ix0, ix1, m1, m3]
  rfl
theorem ev_span {l : Nat} {a b : D} {v : Int} {c1 c2 : Bool} {st1 st2 st3 : S} (e1 : F__law_quotient [.loc l] st = .ok a st1) (e2 : F__law_quotient [.loc l] st1 = .ok b st2) (e3 : F__law_take [.loc l, .int 4] st2 = .ok (.int v) st3) (h1 : decide (v = 0) = c1) (e4 : F__law_below [b, a] st3 = .ok (.bl c2) st3) :
    F__law_span [.loc l] st = .ok (.tup (if c1 = true then [a, a] else if c2 = true then [b, a] else [a, b])) st3 := by
  have hs : startD N__law_span [.loc l] = [some (.loc l), none, none] := rfl
  have e2' : ∀ (x y : D) (st : S), fTup [x, y] st = .ok (.tup [x, y]) st := fun _ _ _ => rfl
  unfold F__law_span
  rw [ap_fnF, hs]
  unfold g__law_span
  cases c1 <;> cases c2 <;> simp -implicitDefEqProofs only [ap_fnF, ap_seq, ap_skip, ap_if, ap_ret, ap_asg, ap_asg2, ap_drop, ap_par, ap_par3, ap_unp, ap_for, ap_forL, ap_var, ap_c, ap_bin, ap_un, ap_nil, ap_cons, ap_call, ap_def, ap_tr, ap_not, ap_and, ap_or, ap_andv, ap_orv, ap_ife, ap_of, ap_mul, ap_div, ap_mod, ap_sub, ap_addi, ap_lt, ap_le, ap_gt, ap_ge, ap_eqi, ap_nei, ap_eqs, ap_neg, ap_truth, ap_bits, List.length, Nat.reduceSub, Nat.reduceAdd, Nat.reduceLeDiff, List.nil_append, List.cons_append, List.append_nil, List.set, List.getElem?_cons_zero, List.getElem?_cons_succ, List.getElem?_nil, setAll, fNot, eq_self, if_true, if_false, reduceIte, id_eq, decide_true, decide_false, Bool.false_eq_true, Bool.true_eq_false, Bool.not_true, Bool.not_false, Bool.true_or, Bool.false_or, Bool.or_true, Bool.or_false, Bool.true_and, Bool.false_and, Bool.and_true, Bool.and_false,e1, e2, e3, e4, h1, e2']
theorem p_span {l : Nat} (h : Row st l) : ∃ p st', F__law_span [.loc l] st = .ok (ds p) st' ∧ Spok p ∧ Row st' l := by
  obtain ⟨a, st1, e1, qa, r1⟩ := p_quotient h
  obtain ⟨b, st2, e2, qb, r2⟩ := p_quotient r1
  obtain ⟨v, st3, e3, v0, v1, r3⟩ := p_draw 4 r2 (by decide)
  have e := ev_span e1 e2 e3 rfl (p_below (st := st3) qb.w qa.w)
  by_cases c1 : v = 0
  · rw [if_pos (decide_eq_true c1)] at e
    exact ⟨(a, a), st3, e, ⟨qa, qa, by grind⟩, r3⟩
  · rw [if_neg (by simpa using c1)] at e
    by_cases c2 : ltQ b a = true
    · rw [if_pos c2] at e
      have := (qv_ltT qb.p qa.p).mp c2
      exact ⟨(b, a), st3, e, ⟨qb, qa, by grind⟩, r3⟩
    · rw [if_neg c2] at e
      have := fun z => c2 ((qv_ltT qb.p qa.p).mpr z)
      exact ⟨(a, b), st3, e, ⟨qa, qb, by grind⟩, r3⟩
theorem ev_held {p : Qt × Qt} {q : Qt} {c1 c2 : Bool} (e1 : F__law_below [dq q, dq p.1] st = .ok (.bl c1) st) (e2 : F__law_below [dq p.2, dq q] st = .ok (.bl c2) st) : F__law_held [ds p, dq q] st = .ok (.bl (!c1 && !c2)) st := by
  have hs : startD N__law_held [ds p, dq q] = [some (ds p), some (dq q)] := rfl
  unfold F__law_held
  rw [ap_fnF, hs]
  unfold g__law_held
  cases c1 <;> simp -implicitDefEqProofs only [ap_fnF, ap_seq, ap_skip, ap_if, ap_ret, ap_asg, ap_asg2, ap_drop, ap_par, ap_par3, ap_unp, ap_for, ap_forL, ap_var, ap_c, ap_bin, ap_un, ap_nil, ap_cons, ap_call, ap_def, ap_tr, ap_not, ap_and, ap_or, ap_andv, ap_orv, ap_ife, ap_of, ap_mul, ap_div, ap_mod, ap_sub, ap_addi, ap_lt, ap_le, ap_gt, ap_ge, ap_eqi, ap_nei, ap_eqs, ap_neg, ap_truth, ap_bits, List.length, Nat.reduceSub, Nat.reduceAdd, Nat.reduceLeDiff, List.nil_append, List.cons_append, List.append_nil, List.set, List.getElem?_cons_zero, List.getElem?_cons_succ, List.getElem?_nil, setAll, fNot, eq_self, if_true, if_false, reduceIte, id_eq, decide_true, decide_false, Bool.false_eq_true, Bool.true_eq_false, Bool.not_true, Bool.not_false, Bool.true_or, Bool.false_or, Bool.or_true, Bool.or_false, Bool.true_and, Bool.false_and, Bool.and_true, Bool.and_false,dsx0, dsx1, e1, e2]
theorem p_held {p : Qt × Qt} {q : Qt} (hp : Spok p) (hq : Qok q) : F__law_held [ds p, dq q] st = .ok (.bl (heldQ p q)) st := ev_held (p_below hq.w hp.a.w) (p_below hp.b.w hq.w)
theorem p_law_int {i : Int} : F__law_integer [.int i] st = .ok (.bl true) st := rfl
theorem ev_rq {a b : Int} {c : Bool} {g : Int} (h1 : decide (1 ≤ b) = c) (e : F__law_common [.int a, .int b] st = .ok (.int g) st) : F__law_right_quotient [.tup [.int a, .int b]] st = .ok (.bl (c && decide (g = 1))) st := by
  have hs : startD N__law_right_quotient [.tup [.int a, .int b]] = [some (.tup [.int a, .int b])] := rfl
  have e1 := isi_tup (st := st) (xs := [.int a, .int b])
  have e2 : fLen [.tup [.int a, .int b]] st = .ok (.int 2) st := rfl
  have e3 := p_law_int (st := st) (i := a)
  have e4 := p_law_int (st := st) (i := b)
  have e5 : fIx (.tup [.int a, .int b]) (.int 0) st = .ok (.int a) st := rfl
  have e6 : fIx (.tup [.int a, .int b]) (.int 1) st = .ok (.int b) st := rfl
  unfold F__law_right_quotient
  rw [ap_fnF, hs]
  unfold g__law_right_quotient
  cases c <;> simp -implicitDefEqProofs only [ap_fnF, ap_seq, ap_skip, ap_if, ap_ret, ap_asg, ap_asg2, ap_drop, ap_par, ap_par3, ap_unp, ap_for, ap_forL, ap_var, ap_c, ap_bin, ap_un, ap_nil, ap_cons, ap_call, ap_def, ap_tr, ap_not, ap_and, ap_or, ap_andv, ap_orv, ap_ife, ap_of, ap_mul, ap_div, ap_mod, ap_sub, ap_addi, ap_lt, ap_le, ap_gt, ap_ge, ap_eqi, ap_nei, ap_eqs, ap_neg, ap_truth, ap_bits, List.length, Nat.reduceSub, Nat.reduceAdd, Nat.reduceLeDiff, List.nil_append, List.cons_append, List.append_nil, List.set, List.getElem?_cons_zero, List.getElem?_cons_succ, List.getElem?_nil, setAll, fNot, eq_self, if_true, if_false, reduceIte, id_eq, decide_true, decide_false, Bool.false_eq_true, Bool.true_eq_false, Bool.not_true, Bool.not_false, Bool.true_or, Bool.false_or, Bool.or_true, Bool.or_false, Bool.true_and, Bool.false_and, Bool.and_true, Bool.and_false,e1, e2, e3, e4, e5, e6, e, h1]
theorem p_rq {q : Qt} (h : Low q) (w : W 3000 q) : F__law_right_quotient [dq q] st = .ok (.bl true) st := by
  have e := p_common (st := st) w.1 w.2 (by decide)
  have z : Int.gcd q.1 q.2 = 1 := h.2
  have z2 : Nat.gcd q.1.natAbs q.2.natAbs = 1 := z
  rw [z2] at e
  exact ev_rq (decide_eq_true h.1) e
theorem ev_rs {a b : D} {c : Bool} (e1 : F__law_right_quotient [a] st = .ok (.bl true) st) (e2 : F__law_right_quotient [b] st = .ok (.bl true) st) (e3 : F__law_below [b, a] st = .ok (.bl c) st) : F__law_right_span [.tup [a, b]] st = .ok (.bl (!c)) st := by
  have hs : startD N__law_right_span [.tup [a, b]] = [some (.tup [a, b])] := rfl
  have i1 := isi_tup (st := st) (xs := [a, b])
  have i2 : fLen [.tup [a, b]] st = .ok (.int 2) st := rfl
  have e5 : fIx (.tup [a, b]) (.int 0) st = .ok a st := rfl
  have e6 : fIx (.tup [a, b]) (.int 1) st = .ok b st := rfl
  unfold F__law_right_span
  rw [ap_fnF, hs]
  unfold g__law_right_span
  simp -implicitDefEqProofs only [ap_fnF, ap_seq, ap_skip, ap_if, ap_ret, ap_asg, ap_asg2, ap_drop, ap_par, ap_par3, ap_unp, ap_for, ap_forL, ap_var, ap_c, ap_bin, ap_un, ap_nil, ap_cons, ap_call, ap_def, ap_tr, ap_not, ap_and, ap_or, ap_andv, ap_orv, ap_ife, ap_of, ap_mul, ap_div, ap_mod, ap_sub, ap_addi, ap_lt, ap_le, ap_gt, ap_ge, ap_eqi, ap_nei, ap_eqs, ap_neg, ap_truth, ap_bits, List.length, Nat.reduceSub, Nat.reduceAdd, Nat.reduceLeDiff, List.nil_append, List.cons_append, List.append_nil, List.set, List.getElem?_cons_zero, List.getElem?_cons_succ, List.getElem?_nil, setAll, fNot, eq_self, if_true, if_false, reduceIte, id_eq, decide_true, decide_false, Bool.false_eq_true, Bool.true_eq_false, Bool.not_true, Bool.not_false, Bool.true_or, Bool.false_or, Bool.or_true, Bool.or_false, Bool.true_and, Bool.false_and, Bool.and_true, Bool.and_false,i1, i2, e1, e2, e3, e5, e6]
theorem p_rs {p : Qt × Qt} (a : Low p.1) (b : Low p.2) (wa : W 3000 p.1) (wb : W 3000 p.2) (h : qv p.1 ≤ qv p.2) : F__law_right_span [ds p] st = .ok (.bl true) st := by
  have z : ltQ p.2 p.1 = false := by
    rw [qv_lt b.1 a.1]
    exact decide_eq_false (by grind)
  have e := p_below (st := st) wb wa
  rw [z] at e
  exact ev_rs (p_rq a wa) (p_rq b wb) e
theorem p_truth {b : Bool} : F__law_truth [.bl b, .bl b] st = .ok (.bl true) st := by cases b <;> rfl
theorem ev_is {q : Qt} {t b : Int} (e : F__law_right_quotient [dq q] st = .ok (.bl true) st) (m1 : MulC q.1 b) (m2 : MulC t q.2) : F__law_is [dq q, .int t, .int b] st = .ok (.bl (decide (q.1 * b = t * q.2))) st := by
  have hs : startD N__law_is [dq q, .int t, .int b] = [some (dq q), some (.int t), some (.int b)] := rfl
  unfold F__law_is
  rw [ap_fnF, hs]
  unfold g__law_is
  simp -implicitDefEqProofs only [ap_fnF, ap_seq, ap_skip, ap_if, ap_ret, ap_asg, ap_asg2, ap_drop, ap_par, ap_par3, ap_unp, ap_for, ap_forL, ap_var, ap_c, ap_bin, ap_un, ap_nil, ap_cons, ap_call, ap_def, ap_tr, ap_not, ap_and, ap_or, ap_andv, ap_orv, ap_ife, ap_of, ap_mul, ap_div, ap_mod, ap_sub, ap_addi, ap_lt, ap_le, ap_gt, ap_ge, ap_eqi, ap_nei, ap_eqs, ap_neg, ap_truth, ap_bits, List.length, Nat.reduceSub, Nat.reduceAdd, Nat.reduceLeDiff, List.nil_append, List.cons_append, List.append_nil, List.set, List.getElem?_cons_zero, List.getElem?_cons_succ, List.getElem?_nil, setAll, fNot, eq_self, if_true, if_false, reduceIte, id_eq, decide_true, decide_false, Bool.false_eq_true, Bool.true_eq_false, Bool.not_true, Bool.not_false, Bool.true_or, Bool.false_or, Bool.or_true, Bool.or_false, Bool.true_and, Bool.false_and, Bool.and_true, Bool.and_false,e, ix0, ix1, m1, m2]
theorem p_is {q r : Qt} (h : Low q) (w : W 3000 q) (wr : W 3000 r) (e : q.1 * r.2 = r.1 * q.2) : F__law_is [dq q, .int r.1, .int r.2] st = .ok (.bl true) st := by
  rw [ev_is (p_rq h w) (mulc w.1 wr.2 (by decide) (by decide)) (mulc wr.1 w.2 (by decide) (by decide)), decide_eq_true e]
end K00
end Sv
set_option Elab.async false
set_option linter.all false
set_option maxRecDepth 100000
set_option maxHeartbeats 4000000
set_option exponentiation.threshold 10000
namespace Sv
open PySem PySem.Spec PyProof.Rows L2
namespace K00
variable {st : S}
theorem ap_kw {n nk : Nat} {ix : List Nat} {F : List D → S → R D} {gr : GA} {r : En} : gKw n nk ix F gr r st = (match gr r st with | .ok ds st1 => if ds.length = nk ∧ (pick ix ds).length = n then F (pick ix ds) st1 else .bad | .err c fs s => .err c fs s | .bad => .bad) := by
  first
    | rfl
    | (unfold gKw; cases gr r st <;> rfl)
theorem kw2 {F : List D → S → R D} {ga gb : G} {r : En} {a b : D} {x : R D} (h1 : ga r st = .ok a st) (h2 : gb r st = .ok b st) (h : F [b, a] st = x) : gKw 2 2 [1, 0] F (gCons ga (gCons gb gNil)) r st = x := by
  rw [ap_kw, ap_cons, h1]
  dsimp only
  rw [ap_cons, h2]
  dsimp only
  rw [ap_nil]
  dsimp only
  rw [if_pos (by exact ⟨rfl, rfl⟩)]
  exact h
/-! ### the same data -/
def SM : Nat → D → Prop
  | 0, _ => False
  | n + 1, .tup ds => ∀ x ∈ ds, SM n x
  | _ + 1, .int _ => True
  | _ + 1, .str x => x.length ≤ 100000
  | _ + 1, _ => False
theorem same_loop {F : List D → S → R D} {a b : Option D} : ∀ (xs : List D) (o2 o3 : Option D), (∀ x ∈ xs, F [x, x] st = .ok (.bl true) st) →
    ∃ o2' o3', loopV (tgT [2, 3]) (sIf (gNot (gTr (gDef 2 F (gCons (gVar 2) (gCons (gVar 3) gNil))))) (sRet (gC (.bl false))) gSkip) (zipD xs xs) [a, b, o2, o3] st = .nx [a, b, o2', o3'] st
  | [], o2, o3, _ => ⟨o2, o3, rfl⟩
  | x :: xs, o2, o3, h => by
    obtain ⟨o2', o3', ih⟩ := same_loop xs (some x) (some x) fun y hy => h y (List.mem_cons_of_mem _ hy)
    refine ⟨o2', o3', ?_⟩
    have e := h x (List.mem_cons_self ..)
    have t : (sIf (gNot (gTr (gDef 2 F (gCons (gVar 2) (gCons (gVar 3) gNil))))) (sRet (gC (.bl false))) gSkip) [a, b, some x, some x] st = .nx [a, b, some x, some x] st := by
      simp -implicitDefEqProofs only [ap_fnF, ap_seq, ap_skip, ap_if, ap_ret, ap_asg, ap_asg2, ap_drop, ap_par, ap_par3, ap_unp, ap_for, ap_forL, ap_var, ap_c, ap_bin, ap_un, ap_nil, ap_cons, ap_call, ap_def, ap_tr, ap_not, ap_and, ap_or, ap_andv, ap_orv, ap_ife, ap_of, ap_mul, ap_div, ap_mod, ap_sub, ap_addi, ap_lt, ap_le, ap_gt, ap_ge, ap_eqi, ap_nei, ap_eqs, ap_neg, ap_truth, ap_bits, List.length, Nat.reduceSub, Nat.reduceAdd, Nat.reduceLeDiff, List.nil_append, List.cons_append, List.append_nil, List.set, List.getElem?_cons_zero, List.getElem?_cons_succ, List.getElem?_nil, setAll, fNot, eq_self, if_true, if_false, reduceIte, id_eq, decide_true, decide_false, Bool.false_eq_true, Bool.true_eq_false, Bool.not_true, Bool.not_false, Bool.true_or, Bool.false_or, Bool.or_true, Bool.or_false, Bool.true_and, Bool.false_and, Bool.and_true, Bool.and_false,e]
    show (match (sIf (gNot (gTr (gDef 2 F (gCons (gVar 2) (gCons (gVar 3) gNil))))) (sRet (gC (.bl false))) gSkip) [a, b, some x, some x] st with
      | .nx r2 st2 => loopV (tgT [2, 3]) (sIf (gNot (gTr (gDef 2 F (gCons (gVar 2) (gCons (gVar 3) gNil))))) (sRet (gC (.bl false))) gSkip) (zipD xs xs) r2 st2
      | .ct r2 st2 => loopV (tgT [2, 3]) (sIf (gNot (gTr (gDef 2 F (gCons (gVar 2) (gCons (gVar 3) gNil))))) (sRet (gC (.bl false))) gSkip) (zipD xs xs) r2 st2
      | .bk r2 st2 => .nx r2 st2
      | o => o) = _
    rw [t]
    exact ih
theorem same_tup {F : List D → S → R D} {xs : List D} {r' : En} (lp : loopV (tgT [2, 3]) (sIf (gNot (gTr (gDef 2 F (gCons (gVar 2) (gCons (gVar 3) gNil))))) (sRet (gC (.bl false))) gSkip) (zipD xs xs) [some (.tup xs), some (.tup xs), none, none] st = .nx r' st) :
    fnF N__law_same (g__law_same F) [.tup xs, .tup xs] st = .ok (.bl true) st := by
  have e1 := isi_tup (st := st) (xs := xs)
  have e2 : fLen [.tup xs] st = .ok (.int xs.length) st := rfl
  have e3 : decide ((xs.length : Int) = (xs.length : Int)) = true := decide_eq_true rfl
  have e4 : iZipD [.tup xs, .tup xs] st = .ok (zipD xs xs) st := rfl
  refine fn_rt (r := [some (.tup xs), some (.tup xs), none, none]) rfl ?_
  unfold g__law_same
  refine seq_rt ?_
  generalize (sIf (gNot (gTr (gDef 2 F (gCons (gVar 2) (gCons (gVar 3) gNil))))) (sRet (gC (.bl false))) gSkip) = body at lp ⊢
  simp -implicitDefEqProofs only [ap_fnF, ap_seq, ap_skip, ap_if, ap_ret, ap_asg, ap_asg2, ap_drop, ap_par, ap_par3, ap_unp, ap_for, ap_forL, ap_var, ap_c, ap_bin, ap_un, ap_nil, ap_cons, ap_call, ap_def, ap_tr, ap_not, ap_and, ap_or, ap_andv, ap_orv, ap_ife, ap_of, ap_mul, ap_div, ap_mod, ap_sub, ap_addi, ap_lt, ap_le, ap_gt, ap_ge, ap_eqi, ap_nei, ap_eqs, ap_neg, ap_truth, ap_bits, List.length, Nat.reduceSub, Nat.reduceAdd, Nat.reduceLeDiff, List.nil_append, List.cons_append, List.append_nil, List.set, List.getElem?_cons_zero, List.getElem?_cons_succ, List.getElem?_nil, setAll, fNot, eq_self, if_true, if_false, reduceIte, id_eq, decide_true, decide_false, Bool.false_eq_true, Bool.true_eq_false, Bool.not_true, Bool.not_false, Bool.true_or, Bool.false_or, Bool.or_true, Bool.or_false, Bool.true_and, Bool.false_and, Bool.and_true, Bool.and_false,e1, e2, e3, e4, lp]
theorem same_int {F : List D → S → R D} {i : Int} : fnF N__law_same (g__law_same F) [.int i, .int i] st = .ok (.bl true) st := by
  have e1 : fIsi [.int i, .ty "tuple"] st = .ok (.bl false) st := rfl
  have e2 : fIsi [.int i, .ty "int"] st = .ok (.bl true) st := rfl
  have e3 := p_law_int (st := st) (i := i)
  refine fn_rt (r := [some (.int i), some (.int i), none, none]) rfl ?_
  unfold g__law_same
  simp -implicitDefEqProofs only [ap_fnF, ap_seq, ap_skip, ap_if, ap_ret, ap_asg, ap_asg2, ap_drop, ap_par, ap_par3, ap_unp, ap_for, ap_forL, ap_var, ap_c, ap_bin, ap_un, ap_nil, ap_cons, ap_call, ap_def, ap_tr, ap_not, ap_and, ap_or, ap_andv, ap_orv, ap_ife, ap_of, ap_mul, ap_div, ap_mod, ap_sub, ap_addi, ap_lt, ap_le, ap_gt, ap_ge, ap_eqi, ap_nei, ap_eqs, ap_neg, ap_truth, ap_bits, List.length, Nat.reduceSub, Nat.reduceAdd, Nat.reduceLeDiff, List.nil_append, List.cons_append, List.append_nil, List.set, List.getElem?_cons_zero, List.getElem?_cons_succ, List.getElem?_nil, setAll, fNot, eq_self, if_true, if_false, reduceIte, id_eq, decide_true, decide_false, Bool.false_eq_true, Bool.true_eq_false, Bool.not_true, Bool.not_false, Bool.true_or, Bool.false_or, Bool.or_true, Bool.or_false, Bool.true_and, Bool.false_and, Bool.and_true, Bool.and_false,e1, e2, e3]
theorem same_str {F : List D → S → R D} {x : Str} : fnF N__law_same (g__law_same F) [.str x, .str x] st = .ok (.bl true) st := by
  have e1 : fIsi [.str x, .ty "tuple"] st = .ok (.bl false) st := rfl
  have e2 : fIsi [.str x, .ty "int"] st = .ok (.bl false) st := rfl
  have e3 : fIsi [.str x, .ty "str"] st = .ok (.bl true) st := rfl
  refine fn_rt (r := [some (.str x), some (.str x), none, none]) rfl ?_
  unfold g__law_same
  simp -implicitDefEqProofs only [ap_fnF, ap_seq, ap_skip, ap_if, ap_ret, ap_asg, ap_asg2, ap_drop, ap_par, ap_par3, ap_unp, ap_for, ap_forL, ap_var, ap_c, ap_bin, ap_un, ap_nil, ap_cons, ap_call, ap_def, ap_tr, ap_not, ap_and, ap_or, ap_andv, ap_orv, ap_ife, ap_of, ap_mul, ap_div, ap_mod, ap_sub, ap_addi, ap_lt, ap_le, ap_gt, ap_ge, ap_eqi, ap_nei, ap_eqs, ap_neg, ap_truth, ap_bits, List.length, Nat.reduceSub, Nat.reduceAdd, Nat.reduceLeDiff, List.nil_append, List.cons_append, List.append_nil, List.set, List.getElem?_cons_zero, List.getElem?_cons_succ, List.getElem?_nil, setAll, fNot, eq_self, if_true, if_false, reduceIte, id_eq, decide_true, decide_false, Bool.false_eq_true, Bool.true_eq_false, Bool.not_true, Bool.not_false, Bool.true_or, Bool.false_or, Bool.or_true, Bool.or_false, Bool.true_and, Bool.false_and, Bool.and_true, Bool.and_false,e1, e2, e3]
theorem same_ok : ∀ (n : Nat) (d : D), SM n d → Ff__law_same n [d, d] st = .ok (.bl true) st
  | 0, _, h => h.elim
  | n + 1, .tup xs, h => by
    obtain ⟨o2, o3, lp⟩ := same_loop (st := st) (F := Ff__law_same n) (a := some (.tup xs)) (b := some (.tup xs)) xs none none fun x hx => same_ok n x (h x hx)
    exact same_tup lp
  | n + 1, .int i, _ => same_int
  | n + 1, .str x, _ => same_str
  | n + 1, .non, h => h.elim
  | n + 1, .bl _, h => h.elim
  | n + 1, .lv _, h => h.elim
  | n + 1, .fz _, h => h.elim
  | n + 1, .loc _, h => h.elim
  | n + 1, .ty _, h => h.elim
theorem p_same {d : D} (h : SM 6 d) : F__law_same [d, d] st = .ok (.bl true) st := same_ok 6 d h
theorem sm_dq {q : Qt} {n : Nat} : SM (n + 2) (dq q) := by
  intro x hx
  rcases List.mem_cons.mp hx with rfl | hx
  · trivial
  · rcases List.mem_cons.mp hx with rfl | hx
    · trivial
    · cases hx
theorem sm_pair {a b : D} {n : Nat} (ha : SM n a) (hb : SM n b) : SM (n + 1) (.tup [a, b]) := by
  intro x hx
  rcases List.mem_cons.mp hx with rfl | hx
  · exact ha
  · rcases List.mem_cons.mp hx with rfl | hx
    · exact hb
    · cases hx
theorem sm_ds {p : Qt × Qt} {n : Nat} : SM (n + 3) (ds p) := sm_pair sm_dq sm_dq
theorem sm_map {α : Type} {f : α → D} {n : Nat} (h : ∀ a, SM n (f a)) (xs : List α) : SM (n + 1) (.tup (xs.map f)) := by
  intro x hx
  obtain ⟨a, _, rfl⟩ := List.mem_map.mp hx
  exact h a
def refd (w : Str) : D := .tup [.str w, .int (-1), .str "refused"]
theorem sm_refd {w : Str} (h : w.length ≤ 100000) : SM 6 (refd w) := by
  intro x hx
  rcases List.mem_cons.mp hx with rfl | hx
  · exact h
  · rcases List.mem_cons.mp hx with rfl | hx
    · trivial
    · rcases List.mem_cons.mp hx with rfl | hx
      · show (Str.length _) ≤ 100000
        decide
      · cases hx
/-! ### the ends -/
theorem e_turn {o0 o1 : Option D} {lo hi q : Qt} (wl : W 3000 lo) (wh : W 3000 hi) (wq : W 3000 q) : b__law_ends_1 [o0, o1, some (dq lo), some (dq hi), some (dq q)] st = .nx [o0, o1, some (dq (spStep (lo, hi) q).1), some (dq (spStep (lo, hi) q).2), some (dq q)] st := by
  have e1 := p_below (st := st) wq wl
  have e2 := p_below (st := st) wh wq
  unfold b__law_ends_1 spStep
  cases h1 : ltQ q lo <;> cases h2 : ltQ hi q <;> rw [h1] at e1 <;> rw [h2] at e2 <;> simp -implicitDefEqProofs only [ap_fnF, ap_seq, ap_skip, ap_if, ap_ret, ap_asg, ap_asg2, ap_drop, ap_par, ap_par3, ap_unp, ap_for, ap_forL, ap_var, ap_c, ap_bin, ap_un, ap_nil, ap_cons, ap_call, ap_def, ap_tr, ap_not, ap_and, ap_or, ap_andv, ap_orv, ap_ife, ap_of, ap_mul, ap_div, ap_mod, ap_sub, ap_addi, ap_lt, ap_le, ap_gt, ap_ge, ap_eqi, ap_nei, ap_eqs, ap_neg, ap_truth, ap_bits, List.length, Nat.reduceSub, Nat.reduceAdd, Nat.reduceLeDiff, List.nil_append, List.cons_append, List.append_nil, List.set, List.getElem?_cons_zero, List.getElem?_cons_succ, List.getElem?_nil, setAll, fNot, eq_self, if_true, if_false, reduceIte, id_eq, decide_true, decide_false, Bool.false_eq_true, Bool.true_eq_false, Bool.not_true, Bool.not_false, Bool.true_or, Bool.false_or, Bool.or_true, Bool.or_false, Bool.true_and, Bool.false_and, Bool.and_true, Bool.and_false,e1, e2]
theorem spStep_W {lo hi q : Qt} (wl : W 3000 lo) (wh : W 3000 hi) (wq : W 3000 q) : W 3000 (spStep (lo, hi) q).1 ∧ W 3000 (spStep (lo, hi) q).2 := by
  unfold spStep
  dsimp only
  refine ⟨?_, ?_⟩
  · split
    · exact wq
    · exact wl
  · split
    · exact wq
    · exact wh
theorem e_loop {o0 o1 : Option D} {l : Nat} {all : List Qt} (hl : st[l]? = some (all.map dq)) : ∀ (qs pre : List Qt) (lo hi : Qt) (o4 : Option D), all = pre ++ qs → W 3000 lo → W 3000 hi → (∀ q ∈ qs, W 3000 q) →
    ∃ o4', loopL (tgV 4) b__law_ends_1 l all.length qs.length [o0, o1, some (dq lo), some (dq hi), o4] st = .nx [o0, o1, some (dq (qs.foldl spStep (lo, hi)).1), some (dq (qs.foldl spStep (lo, hi)).2), o4'] st
  | [], pre, lo, hi, o4, _, _, _, _ => by
    refine ⟨o4, ?_⟩
    show (match st[l]? with
      | some ds => if ds.length = all.length then O.nx [o0, o1, some (dq lo), some (dq hi), o4] st else .bad
      | none => .bad) = _
    rw [hl]
    dsimp only
    rw [if_pos (by rw [List.length_map])]
    rfl
  | q :: qs, pre, lo, hi, o4, ea, wl, wh, wq => by
    have w1 := wq q (List.mem_cons_self ..)
    obtain ⟨a1, a2⟩ := spStep_W wl wh w1
    obtain ⟨o4', ih⟩ := e_loop hl qs (pre ++ [q]) _ _ (some (dq q)) (by rw [ea]; simp) a1 a2 fun z hz => wq z (List.mem_cons_of_mem _ hz)
    refine ⟨o4', ?_⟩
    rw [List.length_cons]
    unfold loopL
    have e : (all.map dq)[all.length - (qs.length + 1)]? = some (dq q) := by
      rw [ea, List.map_append, List.getElem?_append_right (by rw [List.length_map, List.length_append, List.length_cons]; omega), List.length_map, List.length_append, List.length_cons]
      rw [show pre.length + (qs.length + 1) - (qs.length + 1) - pre.length = 0 by omega]
      rfl
    rw [hl]
    dsimp only
    rw [if_pos (by rw [List.length_map]), e]
    dsimp only [tgV, List.set]
    rw [e_turn wl wh w1]
    dsimp only
    rw [ih]
    rfl
theorem ev_ends {a b lo hi : Qt} {l : Nat} {f : D} {n : Nat} {o4 : Option D} (e1 : F__law_right_span [.tup [dq a, dq b]] st = .ok (.bl true) st) (e2 : fIx (.loc l) (.int 0) st = .ok f st) (e3 : sForL (iLoc (gVar 1)) (tgV 4) b__law_ends_1 [some (.tup [dq a, dq b]), some (.loc l), some f, some f, none] st = .nx [some (.tup [dq a, dq b]), some (.loc l), some (dq lo), some (dq hi), o4] st)
    (e4 : F__law_is [dq a, .int lo.1, .int lo.2] st = .ok (.bl true) st) (e5 : F__law_is [dq b, .int hi.1, .int hi.2] st = .ok (.bl true) st) : F__law_ends [.tup [dq a, dq b], .loc l] st = .ok (.bl true) st := by
  refine fn_rt (r := [some (.tup [dq a, dq b]), some (.loc l), none, none, none]) rfl ?_
  have i0 : fIx (.tup [dq a, dq b]) (.int 0) st = .ok (dq a) st := rfl
  have i1 : fIx (.tup [dq a, dq b]) (.int 1) st = .ok (dq b) st := rfl
  unfold g__law_ends
  generalize (sForL (iLoc (gVar 1)) (tgV 4) b__law_ends_1) = lp at e3 ⊢
  simp -implicitDefEqProofs only [ap_fnF, ap_seq, ap_skip, ap_if, ap_ret, ap_asg, ap_asg2, ap_drop, ap_par, ap_par3, ap_unp, ap_for, ap_forL, ap_var, ap_c, ap_bin, ap_un, ap_nil, ap_cons, ap_call, ap_def, ap_tr, ap_not, ap_and, ap_or, ap_andv, ap_orv, ap_ife, ap_of, ap_mul, ap_div, ap_mod, ap_sub, ap_addi, ap_lt, ap_le, ap_gt, ap_ge, ap_eqi, ap_nei, ap_eqs, ap_neg, ap_truth, ap_bits, List.length, Nat.reduceSub, Nat.reduceAdd, Nat.reduceLeDiff, List.nil_append, List.cons_append, List.append_nil, List.set, List.getElem?_cons_zero, List.getElem?_cons_succ, List.getElem?_nil, setAll, fNot, eq_self, if_true, if_false, reduceIte, id_eq, decide_true, decide_false, Bool.false_eq_true, Bool.true_eq_false, Bool.not_true, Bool.not_false, Bool.true_or, Bool.false_or, Bool.or_true, Bool.or_false, Bool.true_and, Bool.false_and, Bool.and_true, Bool.and_false,e1, e2, e3, e4, e5, i0, i1, ix0, ix1]
theorem loc_ix {l k : Nat} {xs : List D} {d : D} (hl : st[l]? = some xs) (h : xs[k]? = some d) : fIx (.loc l) (di k) st = .ok d st := by
  show (match st[l]? with
      | some ds => (match atI ds (k : Int) with
        | some x => R.ok x st
        | none => .bad)
      | none => .bad) = _
  rw [hl]
  dsimp only
  rw [atI_nat, h]
/-- the least and the greatest of a list -/
theorem sp_fold : ∀ (qs : List Qt) (lo hi : Qt), 1 ≤ lo.2 → 1 ≤ hi.2 → (∀ q ∈ qs, 1 ≤ q.2) →
    ((qs.foldl spStep (lo, hi)).1 ∈ lo :: qs ∧ ∀ z ∈ lo :: qs, qv (qs.foldl spStep (lo, hi)).1 ≤ qv z) ∧ ((qs.foldl spStep (lo, hi)).2 ∈ hi :: qs ∧ ∀ z ∈ hi :: qs, qv z ≤ qv (qs.foldl spStep (lo, hi)).2)
  | [], lo, hi, _, _, _ => ⟨⟨List.mem_cons_self .., fun z hz => by
      have e : z = lo := by simpa using hz
      subst e
      show qv z ≤ qv z
      grind⟩, ⟨List.mem_cons_self .., fun z hz => by
      have e : z = hi := by simpa using hz
      subst e
      show qv z ≤ qv z
      grind⟩⟩
  | q :: qs, lo, hi, hl, hh, h => by
    have hq := h q (List.mem_cons_self ..)
    have b1 : 1 ≤ (spStep (lo, hi) q).1.2 ∧ qv (spStep (lo, hi) q).1 ≤ qv lo ∧ qv (spStep (lo, hi) q).1 ≤ qv q ∧ ((spStep (lo, hi) q).1 = lo ∨ (spStep (lo, hi) q).1 = q) := by
      unfold spStep
      dsimp only
      by_cases c : ltQ q lo = true
      · rw [if_pos c]
        have := (qv_ltT hq hl).mp c
        exact ⟨hq, by grind, by grind, .inr rfl⟩
      · rw [if_neg c]
        have := fun z => c ((qv_ltT hq hl).mpr z)
        exact ⟨hl, by grind, by grind, .inl rfl⟩
    have b2 : 1 ≤ (spStep (lo, hi) q).2.2 ∧ qv hi ≤ qv (spStep (lo, hi) q).2 ∧ qv q ≤ qv (spStep (lo, hi) q).2 ∧ ((spStep (lo, hi) q).2 = hi ∨ (spStep (lo, hi) q).2 = q) := by
      unfold spStep
      dsimp only
      by_cases c : ltQ hi q = true
      · rw [if_pos c]
        have := (qv_ltT hh hq).mp c
        exact ⟨hq, by grind, by grind, .inr rfl⟩
      · rw [if_neg c]
        have := fun z => c ((qv_ltT hh hq).mpr z)
        exact ⟨hh, by grind, by grind, .inl rfl⟩
    obtain ⟨⟨m1, l1⟩, ⟨m2, l2⟩⟩ := sp_fold qs (spStep (lo, hi) q).1 (spStep (lo, hi) q).2 b1.1 b2.1 fun z hz => h z (List.mem_cons_of_mem _ hz)
    have e : (q :: qs).foldl spStep (lo, hi) = qs.foldl spStep ((spStep (lo, hi) q).1, (spStep (lo, hi) q).2) := rfl
    rw [e]
    refine ⟨⟨?_, fun z hz => ?_⟩, ⟨?_, fun z hz => ?_⟩⟩
    · rcases List.mem_cons.mp m1 with k | k
      · rw [k]
        rcases b1.2.2.2 with k | k <;> rw [k] <;> simp
      · simp [k]
    · have t1 := l1 _ (List.mem_cons_self ..)
      rcases List.mem_cons.mp hz with k | k
      · rw [k]
        have := b1.2.1
        grind
      · rcases List.mem_cons.mp k with k | k
        · rw [k]
          have := b1.2.2.1
          grind
        · exact l1 z (List.mem_cons_of_mem _ k)
    · rcases List.mem_cons.mp m2 with k | k
      · rw [k]
        rcases b2.2.2.2 with k | k <;> rw [k] <;> simp
      · simp [k]
    · have t1 := l2 _ (List.mem_cons_self ..)
      rcases List.mem_cons.mp hz with k | k
      · rw [k]
        have := b2.2.1
        grind
      · rcases List.mem_cons.mp k with k | k
        · rw [k]
          have := b2.2.2.1
          grind
        · exact l2 z (List.mem_cons_of_mem _ k)
theorem fold_W : ∀ (qs : List Qt) (lo hi : Qt), W 3000 lo → W 3000 hi → (∀ q ∈ qs, W 3000 q) → W 3000 (qs.foldl spStep (lo, hi)).1 ∧ W 3000 (qs.foldl spStep (lo, hi)).2
  | [], lo, hi, a, b, _ => ⟨a, b⟩
  | q :: qs, lo, hi, a, b, h => by
    obtain ⟨c, d⟩ := spStep_W a b (h q (List.mem_cons_self ..))
    exact fold_W qs _ _ c d fun z hz => h z (List.mem_cons_of_mem _ hz)
theorem p_ends {a b : Qt} {l : Nat} {rs : List Qt} (hl : st[l]? = some (rs.map dq)) (h0 : rs ≠ []) (la : Low a) (lb : Low b) (wa : W 3000 a) (wb : W 3000 b) (hr : ∀ r ∈ rs, 1 ≤ r.2 ∧ W 3000 r) (h1 : ∀ r ∈ rs, qv a ≤ qv r) (h2 : ∃ r ∈ rs, qv r = qv a) (h3 : ∀ r ∈ rs, qv r ≤ qv b) (h4 : ∃ r ∈ rs, qv r = qv b) :
    F__law_ends [ds (a, b), .loc l] st = .ok (.bl true) st := by
  obtain ⟨f, fs, rfl⟩ : ∃ f fs, rs = f :: fs := by
    cases rs with
    | nil => exact absurd rfl h0
    | cons f fs => exact ⟨f, fs, rfl⟩
  have hf := hr f (List.mem_cons_self ..)
  have hW : ∀ q ∈ f :: fs, W 3000 q := fun q hq => (hr q hq).2
  obtain ⟨⟨m1, l1⟩, ⟨m2, l2⟩⟩ := sp_fold (f :: fs) f f hf.1 hf.1 fun q hq => (hr q hq).1
  obtain ⟨w1, w2⟩ := fold_W (f :: fs) f f hf.2 hf.2 hW
  obtain ⟨o4, lp⟩ := e_loop (st := st) (o0 := some (ds (a, b))) (o1 := some (.loc l)) hl (f :: fs) [] f f none rfl hf.2 hf.2 hW
  generalize (f :: fs).foldl spStep (f, f) = lh at *
  have mem : ∀ z, z ∈ f :: f :: fs → z ∈ f :: fs := fun z hz => by
    rcases List.mem_cons.mp hz with k | k
    · rw [k]
      exact List.mem_cons_self ..
    · exact k
  have p1 : 1 ≤ lh.1.2 := (hr _ (mem _ m1)).1
  have p2 : 1 ≤ lh.2.2 := (hr _ (mem _ m2)).1
  have q1 : qv a = qv lh.1 := by
    obtain ⟨r, hr1, er⟩ := h2
    have t1 := l1 r (List.mem_cons_of_mem _ hr1)
    have t2 := h1 _ (mem _ m1)
    grind
  have q2 : qv b = qv lh.2 := by
    obtain ⟨r, hr1, er⟩ := h4
    have t1 := l2 r (List.mem_cons_of_mem _ hr1)
    have t2 := h3 _ (mem _ m2)
    grind
  have ab : qv a ≤ qv b := by
    obtain ⟨r, hr1, er⟩ := h2
    have t2 := h3 _ hr1
    grind
  have e2 : fIx (.loc l) (.int 0) st = .ok (dq f) st := by
    exact loc_ix (k := 0) hl rfl
  refine ev_ends (lo := lh.1) (hi := lh.2) (f := dq f) (n := 0) (o4 := o4) (p_rs (p := (a, b)) la lb wa wb ab) e2 ?_ (p_is la wa w1 ((qv_eq la.1 p1).mp q1)) (p_is lb wb w2 ((qv_eq lb.1 p2).mp q2))
  have gi : iLoc (gVar 1) [some (ds (a, b)), some (.loc l), some (dq f), some (dq f), none] st = .ok (l, (f :: fs).length) st := by
    show (match st[l]? with
      | some ds => R.ok (l, ds.length) st
      | none => .bad) = _
    rw [hl]
    dsimp only
    rw [List.length_map]
  rw [ap_forL]
  have gi' : iLoc (gVar 1) [some (.tup [dq a, dq b]), some (.loc l), some (dq f), some (dq f), none] st = .ok (l, (f :: fs).length) st := gi
  rw [gi']
  exact lp
end K00
end Sv
set_option Elab.async false
set_option linter.all false
set_option maxRecDepth 100000
set_option maxHeartbeats 4000000
set_option exponentiation.threshold 10000
namespace Sv
open PySem PySem.Spec PyProof.Rows L2
namespace K00
variable {st : S}
/-! ### a quotient near a span -/
theorem fabs {i : Int} : fAbs [.int i] st = .ok (.int (absI i)) st := rfl
theorem ev_near1 {l : Nat} {p : Qt × Qt} {st1 : S} (e1 : F__law_take [.loc l, .int 7] st = .ok (.int 1) st1) (m1 : MulC p.1.1 p.2.2) (m2 : MulC p.2.1 p.1.2) (m3 : MulC 2 p.1.2) (m4 : MulC (2 * p.1.2) p.2.2) : F__law_near [.loc l, ds p] st = .ok (dq p.2) st1 := by
  refine fn_rt (r := [some (.loc l), some (ds p), none, none, none, none, none, none]) rfl ?_
  unfold g__law_near
  simp -implicitDefEqProofs only [ap_fnF, ap_seq, ap_skip, ap_if, ap_ret, ap_asg, ap_asg2, ap_drop, ap_par, ap_par3, ap_unp, ap_for, ap_forL, ap_var, ap_c, ap_bin, ap_un, ap_nil, ap_cons, ap_call, ap_def, ap_tr, ap_not, ap_and, ap_or, ap_andv, ap_orv, ap_ife, ap_of, ap_mul, ap_div, ap_mod, ap_sub, ap_addi, ap_lt, ap_le, ap_gt, ap_ge, ap_eqi, ap_nei, ap_eqs, ap_neg, ap_truth, ap_bits, List.length, Nat.reduceSub, Nat.reduceAdd, Nat.reduceLeDiff, List.nil_append, List.cons_append, List.append_nil, List.set, List.getElem?_cons_zero, List.getElem?_cons_succ, List.getElem?_nil, setAll, fNot, eq_self, if_true, if_false, reduceIte, id_eq, decide_true, decide_false, Bool.false_eq_true, Bool.true_eq_false, Bool.not_true, Bool.not_false, Bool.true_or, Bool.false_or, Bool.or_true, Bool.or_false, Bool.true_and, Bool.false_and, Bool.and_true, Bool.and_false,e1, dsx0, dsx1, ix0, ix1, m1, m2, m3, m4]
theorem ev_near4 {l : Nat} {p : Qt × Qt} {q : D} {st1 st2 : S} (e1 : F__law_take [.loc l, .int 7] st = .ok (.int 4) st1) (m1 : MulC p.1.1 p.2.2) (m2 : MulC p.2.1 p.1.2) (m3 : MulC 2 p.1.2) (m4 : MulC (2 * p.1.2) p.2.2) (e2 : F__law_quotient [.loc l] st1 = .ok q st2) : F__law_near [.loc l, ds p] st = .ok q st2 := by
  have n1 : decide ((4 : Int) = 1) = false := rfl
  have n2 : decide ((4 : Int) = 2) = false := rfl
  have n3 : decide ((4 : Int) = 3) = false := rfl
  refine fn_rt (r := [some (.loc l), some (ds p), none, none, none, none, none, none]) rfl ?_
  unfold g__law_near
  simp -implicitDefEqProofs only [ap_fnF, ap_seq, ap_skip, ap_if, ap_ret, ap_asg, ap_asg2, ap_drop, ap_par, ap_par3, ap_unp, ap_for, ap_forL, ap_var, ap_c, ap_bin, ap_un, ap_nil, ap_cons, ap_call, ap_def, ap_tr, ap_not, ap_and, ap_or, ap_andv, ap_orv, ap_ife, ap_of, ap_mul, ap_div, ap_mod, ap_sub, ap_addi, ap_lt, ap_le, ap_gt, ap_ge, ap_eqi, ap_nei, ap_eqs, ap_neg, ap_truth, ap_bits, List.length, Nat.reduceSub, Nat.reduceAdd, Nat.reduceLeDiff, List.nil_append, List.cons_append, List.append_nil, List.set, List.getElem?_cons_zero, List.getElem?_cons_succ, List.getElem?_nil, setAll, fNot, eq_self, if_true, if_false, reduceIte, id_eq, decide_true, decide_false, Bool.false_eq_true, Bool.true_eq_false, Bool.not_true, Bool.not_false, Bool.true_or, Bool.false_or, Bool.or_true, Bool.or_false, Bool.true_and, Bool.false_and, Bool.and_true, Bool.and_false,e1, dsx0, dsx1, ix0, ix1, m1, m2, m3, m4, n1, n2, n3, e2]
theorem ev_near2 {l : Nat} {p : Qt × Qt} {q : Qt} {st1 : S} {c1 c2 : Bool} (e1 : F__law_take [.loc l, .int 7] st = .ok (.int 2) st1) (m1 : MulC p.1.1 p.2.2) (m2 : MulC p.2.1 p.1.2) (m3 : MulC 2 p.1.2) (m4 : MulC (2 * p.1.2) p.2.2) (m5 : MulC p.1.1 1000) (m6 : MulC p.1.2 1000)
    (e2 : F__law_lowest [.int (p.1.1 * 1000 - p.1.2), .int (p.1.2 * 1000)] st1 = .ok (dq q) st1) (h1 : decide (1000000000000 < absI q.1) = c1) (h2 : decide (1000000000000 < q.2) = c2) : F__law_near [.loc l, ds p] st = .ok (if (c1 || c2) = true then dq p.1 else dq q) st1 := by
  have n1 : decide ((2 : Int) = 1) = false := rfl
  have n3 : decide ((2 : Int) = 3) = false := rfl
  have n4 : decide ((2 : Int) = 4) = false := rfl
  have n0 : decide ((2 : Int) = 0) = false := rfl
  have fa := fabs (st := st1) (i := q.1)
  refine fn_rt (r := [some (.loc l), some (ds p), none, none, none, none, none, none]) rfl ?_
  unfold g__law_near
  cases c1 <;> cases c2 <;> simp -implicitDefEqProofs only [ap_fnF, ap_seq, ap_skip, ap_if, ap_ret, ap_asg, ap_asg2, ap_drop, ap_par, ap_par3, ap_unp, ap_for, ap_forL, ap_var, ap_c, ap_bin, ap_un, ap_nil, ap_cons, ap_call, ap_def, ap_tr, ap_not, ap_and, ap_or, ap_andv, ap_orv, ap_ife, ap_of, ap_mul, ap_div, ap_mod, ap_sub, ap_addi, ap_lt, ap_le, ap_gt, ap_ge, ap_eqi, ap_nei, ap_eqs, ap_neg, ap_truth, ap_bits, List.length, Nat.reduceSub, Nat.reduceAdd, Nat.reduceLeDiff, List.nil_append, List.cons_append, List.append_nil, List.set, List.getElem?_cons_zero, List.getElem?_cons_succ, List.getElem?_nil, setAll, fNot, eq_self, if_true, if_false, reduceIte, id_eq, decide_true, decide_false, Bool.false_eq_true, Bool.true_eq_false, Bool.not_true, Bool.not_false, Bool.true_or, Bool.false_or, Bool.or_true, Bool.or_false, Bool.true_and, Bool.false_and, Bool.and_true, Bool.and_false,e1, dsx0, dsx1, ix0, ix1, m1, m2, m3, m4, m5, m6, n0, n1, n3, n4, e2, fa, h1, h2]
theorem ev_near3 {l : Nat} {p : Qt × Qt} {q : Qt} {st1 : S} {c1 c2 : Bool} (e1 : F__law_take [.loc l, .int 7] st = .ok (.int 3) st1) (m1 : MulC p.1.1 p.2.2) (m2 : MulC p.2.1 p.1.2) (m3 : MulC 2 p.1.2) (m4 : MulC (2 * p.1.2) p.2.2) (m5 : MulC p.2.1 1000) (m6 : MulC p.2.2 1000)
    (e2 : F__law_lowest [.int (p.2.1 * 1000 + p.2.2), .int (p.2.2 * 1000)] st1 = .ok (dq q) st1) (h1 : decide (1000000000000 < absI q.1) = c1) (h2 : decide (1000000000000 < q.2) = c2) : F__law_near [.loc l, ds p] st = .ok (if (c1 || c2) = true then dq p.1 else dq q) st1 := by
  have n1 : decide ((3 : Int) = 1) = false := rfl
  have n2 : decide ((3 : Int) = 2) = false := rfl
  have n4 : decide ((3 : Int) = 4) = false := rfl
  have n0 : decide ((3 : Int) = 0) = false := rfl
  have fa := fabs (st := st1) (i := q.1)
  refine fn_rt (r := [some (.loc l), some (ds p), none, none, none, none, none, none]) rfl ?_
  unfold g__law_near
  cases c1 <;> cases c2 <;> simp -implicitDefEqProofs only [ap_fnF, ap_seq, ap_skip, ap_if, ap_ret, ap_asg, ap_asg2, ap_drop, ap_par, ap_par3, ap_unp, ap_for, ap_forL, ap_var, ap_c, ap_bin, ap_un, ap_nil, ap_cons, ap_call, ap_def, ap_tr, ap_not, ap_and, ap_or, ap_andv, ap_orv, ap_ife, ap_of, ap_mul, ap_div, ap_mod, ap_sub, ap_addi, ap_lt, ap_le, ap_gt, ap_ge, ap_eqi, ap_nei, ap_eqs, ap_neg, ap_truth, ap_bits, List.length, Nat.reduceSub, Nat.reduceAdd, Nat.reduceLeDiff, List.nil_append, List.cons_append, List.append_nil, List.set, List.getElem?_cons_zero, List.getElem?_cons_succ, List.getElem?_nil, setAll, fNot, eq_self, if_true, if_false, reduceIte, id_eq, decide_true, decide_false, Bool.false_eq_true, Bool.true_eq_false, Bool.not_true, Bool.not_false, Bool.true_or, Bool.false_or, Bool.or_true, Bool.or_false, Bool.true_and, Bool.false_and, Bool.and_true, Bool.and_false,e1, dsx0, dsx1, ix0, ix1, m1, m2, m3, m4, m5, m6, n0, n1, n2, n4, e2, fa, h1, h2]
theorem ev_near0 {l : Nat} {k : Int} {p : Qt × Qt} {q : Qt} {st1 : S} {c0 c1 c2 : Bool} (e1 : F__law_take [.loc l, .int 7] st = .ok (.int k) st1) (n1 : decide (k = 1) = false) (n2 : decide (k = 2) = false) (n3 : decide (k = 3) = false) (n4 : decide (k = 4) = false) (h0 : decide (k = 0) = c0) (m1 : MulC p.1.1 p.2.2) (m2 : MulC p.2.1 p.1.2) (m3 : MulC 2 p.1.2) (m4 : MulC (2 * p.1.2) p.2.2)
    (e2 : F__law_lowest [.int (p.1.1 * p.2.2 + p.2.1 * p.1.2), .int (2 * p.1.2 * p.2.2)] st1 = .ok (dq q) st1) (h1 : decide (1000000000000 < absI q.1) = c1) (h2 : decide (1000000000000 < q.2) = c2) : F__law_near [.loc l, ds p] st = .ok (if (c0 || (c1 || c2)) = true then dq p.1 else dq q) st1 := by
  have fa := fabs (st := st1) (i := q.1)
  refine fn_rt (r := [some (.loc l), some (ds p), none, none, none, none, none, none]) rfl ?_
  unfold g__law_near
  cases c0 <;> cases c1 <;> cases c2 <;> simp -implicitDefEqProofs only [ap_fnF, ap_seq, ap_skip, ap_if, ap_ret, ap_asg, ap_asg2, ap_drop, ap_par, ap_par3, ap_unp, ap_for, ap_forL, ap_var, ap_c, ap_bin, ap_un, ap_nil, ap_cons, ap_call, ap_def, ap_tr, ap_not, ap_and, ap_or, ap_andv, ap_orv, ap_ife, ap_of, ap_mul, ap_div, ap_mod, ap_sub, ap_addi, ap_lt, ap_le, ap_gt, ap_ge, ap_eqi, ap_nei, ap_eqs, ap_neg, ap_truth, ap_bits, List.length, Nat.reduceSub, Nat.reduceAdd, Nat.reduceLeDiff, List.nil_append, List.cons_append, List.append_nil, List.set, List.getElem?_cons_zero, List.getElem?_cons_succ, List.getElem?_nil, setAll, fNot, eq_self, if_true, if_false, reduceIte, id_eq, decide_true, decide_false, Bool.false_eq_true, Bool.true_eq_false, Bool.not_true, Bool.not_false, Bool.true_or, Bool.false_or, Bool.or_true, Bool.or_false, Bool.true_and, Bool.false_and, Bool.and_true, Bool.and_false,e1, dsx0, dsx1, ix0, ix1, m1, m2, m3, m4, n1, n2, n3, n4, e2, fa, h0, h1, h2]
theorem near_ok {q : Qt} (h : Low q) (h1 : decide (1000000000000 < absI q.1) = false) (h2 : decide (1000000000000 < q.2) = false) : Qok q := by
  have a := of_decide_eq_false h1
  have b := of_decide_eq_false h2
  rw [absI_nat] at a
  exact ⟨h, p40 (by omega), p40 (by have := h.1; omega)⟩
theorem pick_near {l : Nat} {p : Qt × Qt} {q : Qt} {c0 : Bool} (hp : Spok p) (h : Row st l) (hq : Low q) : ∃ z, (if (c0 || (decide (1000000000000 < absI q.1) || decide (1000000000000 < q.2))) = true then dq p.1 else dq q) = dq z ∧ Qok z := by
  cases c0 with
  | true => exact ⟨p.1, by rw [Bool.true_or, if_pos rfl], hp.a⟩
  | false =>
    cases h1 : decide (1000000000000 < absI q.1) with
    | true => exact ⟨p.1, by simp, hp.a⟩
    | false =>
      cases h2 : decide (1000000000000 < q.2) with
      | true => exact ⟨p.1, by simp, hp.a⟩
      | false => exact ⟨q, by simp, near_ok hq h1 h2⟩
theorem pos_mul {a b : Int} (ha : 0 < a) (hb : 0 < b) : 0 < a * b := Int.mul_pos ha hb
theorem p_near {l : Nat} {p : Qt × Qt} (hp : Spok p) (h : Row st l) : ∃ q st', F__law_near [.loc l, ds p] st = .ok (dq q) st' ∧ Qok q ∧ Row st' l := by
  obtain ⟨k, st1, e1, k0, k1, r1⟩ := p_draw 7 h (by decide)
  have a := hp.a
  have b := hp.b
  have pa := a.p
  have pb := b.p
  have m1 : MulC p.1.1 p.2.2 := mulc a.w.1 b.w.2 (by decide) (by decide)
  have m2 : MulC p.2.1 p.1.2 := mulc b.w.1 a.w.2 (by decide) (by decide)
  have m3 : MulC 2 p.1.2 := mulc (n := 2) (by decide) a.w.2 (by decide) (by decide)
  have m4 : MulC (2 * p.1.2) p.2.2 := mulc (mul_lt (n := 2) (m := 40) (by decide) a.2.2) b.w.2 (by decide) (by decide)
  have k10 : (1000 : Int).natAbs < 2 ^ 10 := by decide
  by_cases c1 : k = 1
  · subst c1
    exact ⟨_, st1, ev_near1 e1 m1 m2 m3 m4, b, r1⟩
  by_cases c4 : k = 4
  · subst c4
    obtain ⟨q, st2, e2, hq, r2⟩ := p_quotient r1
    exact ⟨q, st2, ev_near4 e1 m1 m2 m3 m4 e2, hq, r2⟩
  by_cases c2 : k = 2
  · subst c2
    have w1 := mul_lt a.2.1 k10
    have w2 := mul_lt a.2.2 k10
    have w3 : (p.1.1 * 1000 - p.1.2).natAbs < 2 ^ 52 := by have := a.2.2; omega
    have hb : 0 < p.1.2 * 1000 := by omega
    have hq := (redQ_low (a := p.1.1 * 1000 - p.1.2) (b := p.1.2 * 1000) (by omega)).1
    have e := ev_near2 e1 m1 m2 m3 m4 (mulc a.w.1 k10 (by decide) (by decide)) (mulc a.w.2 k10 (by decide) (by decide)) (p_lowest w3 (show _ < 2 ^ 52 by omega) (by decide) hb) rfl rfl
    obtain ⟨z, ez, hz⟩ := pick_near (c0 := false) hp r1 hq
    rw [Bool.false_or] at ez
    rw [ez] at e
    exact ⟨z, st1, e, hz, r1⟩
  by_cases c3 : k = 3
  · subst c3
    have w1 := mul_lt b.2.1 k10
    have w2 := mul_lt b.2.2 k10
    have w3 : (p.2.1 * 1000 + p.2.2).natAbs < 2 ^ 52 := by have := b.2.2; omega
    have hb : 0 < p.2.2 * 1000 := by omega
    have hq := (redQ_low (a := p.2.1 * 1000 + p.2.2) (b := p.2.2 * 1000) (by omega)).1
    have e := ev_near3 e1 m1 m2 m3 m4 (mulc b.w.1 k10 (by decide) (by decide)) (mulc b.w.2 k10 (by decide) (by decide)) (p_lowest w3 (show _ < 2 ^ 52 by omega) (by decide) hb) rfl rfl
    obtain ⟨z, ez, hz⟩ := pick_near (c0 := false) hp r1 hq
    rw [Bool.false_or] at ez
    rw [ez] at e
    exact ⟨z, st1, e, hz, r1⟩
  · have w1 := add_lt (mul_lt a.2.1 b.2.2) (mul_lt b.2.1 a.2.2)
    have w2 := mul_lt (mul_lt (n := 2) (i := 2) (by decide) a.2.2) b.2.2
    have hb : 0 < 2 * p.1.2 * p.2.2 := pos_mul (by omega) (by omega)
    have hq := (redQ_low (a := p.1.1 * p.2.2 + p.2.1 * p.1.2) (b := 2 * p.1.2 * p.2.2) (by omega)).1
    have e := ev_near0 e1 (decide_eq_false c1) (decide_eq_false c2) (decide_eq_false c3) (decide_eq_false c4) rfl m1 m2 m3 m4 (p_lowest (n := 82) (Nat.lt_of_lt_of_le w1 (by decide)) (Nat.lt_of_lt_of_le w2 (by decide)) (by decide) hb) rfl rfl
    obtain ⟨z, ez, hz⟩ := pick_near (c0 := decide (k = 0)) hp r1 hq
    rw [ez] at e
    exact ⟨z, st1, e, hz, r1⟩
/-! ### what is caught -/
def caught (x : R D) : R D := match x with
  | .ok d st' => .ok d st'
  | .err c fs st' => if c = "NotUsable" then (match xaVals fs [.fld "word", .fld "at", .con (.str "refused")] with | some ds => .ok (.tup ds) st' | none => .bad) else .bad
  | .bad => .bad
theorem caught_ok {d : D} : caught (.ok d st) = .ok d st := rfl
theorem caught_no {w : Str} : caught (.err "NotUsable" [("at", .int (-1)), ("word", .str w)] st) = .ok (refd w) st := rfl
theorem try_rt {i : Nat} {c : Str} {gb : GS} {xs : List XA} {r : En} {x : R D} (h : gb r st = (match x with | .ok d s => .rt d s | .err c fs s => .err c fs r s | .bad => .bad)) (hi : i < r.length) (hx : xs = [.fld "word", .fld "at", .con (.str "refused")]) (hc : c = "NotUsable") :
    (match sTry i c gb xs r st with | .nx _ st' => R.ok .non st' | .rt d st' => .ok d st' | .err c fs _ st' => .err c fs st' | .bk _ _ => .bad | .ct _ _ => .bad | .bad => .bad) = caught x := by
  subst hx hc
  unfold sTry
  rw [h]
  cases x with
  | ok d s => rfl
  | bad => rfl
  | err c fs s =>
    dsimp only
    unfold caught
    dsimp only
    by_cases z : c = "NotUsable"
    · rw [if_pos z, if_pos ⟨z, hi, by decide⟩]
      cases xaVals fs [.fld "word", .fld "at", .con (.str "refused")] <;> rfl
    · rw [if_neg z, if_neg fun y => z y.1]
theorem p_ask_side {a b c : D} : F__law_ask_side [a, b, c] st = caught (F_with_side [a, b, c] st) := by
  unfold F__law_ask_side
  rw [ap_fnF]
  have hs : startD N__law_ask_side [a, b, c] = [some a, some b, some c, none] := rfl
  rw [hs]
  unfold g__law_ask_side
  refine try_rt ?_ (by simp) rfl rfl
  simp -implicitDefEqProofs only [ap_fnF, ap_seq, ap_skip, ap_if, ap_ret, ap_asg, ap_asg2, ap_drop, ap_par, ap_par3, ap_unp, ap_for, ap_forL, ap_var, ap_c, ap_bin, ap_un, ap_nil, ap_cons, ap_call, ap_def, ap_tr, ap_not, ap_and, ap_or, ap_andv, ap_orv, ap_ife, ap_of, ap_mul, ap_div, ap_mod, ap_sub, ap_addi, ap_lt, ap_le, ap_gt, ap_ge, ap_eqi, ap_nei, ap_eqs, ap_neg, ap_truth, ap_bits, List.length, Nat.reduceSub, Nat.reduceAdd, Nat.reduceLeDiff, List.nil_append, List.cons_append, List.append_nil, List.set, List.getElem?_cons_zero, List.getElem?_cons_succ, List.getElem?_nil, setAll, fNot, eq_self, if_true, if_false, reduceIte, id_eq, decide_true, decide_false, Bool.false_eq_true, Bool.true_eq_false, Bool.not_true, Bool.not_false, Bool.true_or, Bool.false_or, Bool.or_true, Bool.or_false, Bool.true_and, Bool.false_and, Bool.and_true, Bool.and_false]
  all_goals (cases F_with_side [a, b, c] st <;> rfl)
theorem ask_plus {a b : D} : F__law_ask [.str "plus", a, b] st = caught (F_plus [a, b] st) := by
  have hs : startD N__law_ask [.str "plus", a, b] = [some (.str "plus"), some a, some b, none] := rfl
  have d0 : decide (("plus" : Str) = "plus") = true := decide_eq_true rfl
  unfold F__law_ask
  rw [ap_fnF, hs]
  unfold g__law_ask
  refine try_rt ?_ (by simp) rfl rfl
  simp -implicitDefEqProofs only [ap_fnF, ap_seq, ap_skip, ap_if, ap_ret, ap_asg, ap_asg2, ap_drop, ap_par, ap_par3, ap_unp, ap_for, ap_forL, ap_var, ap_c, ap_bin, ap_un, ap_nil, ap_cons, ap_call, ap_def, ap_tr, ap_not, ap_and, ap_or, ap_andv, ap_orv, ap_ife, ap_of, ap_mul, ap_div, ap_mod, ap_sub, ap_addi, ap_lt, ap_le, ap_gt, ap_ge, ap_eqi, ap_nei, ap_eqs, ap_neg, ap_truth, ap_bits, List.length, Nat.reduceSub, Nat.reduceAdd, Nat.reduceLeDiff, List.nil_append, List.cons_append, List.append_nil, List.set, List.getElem?_cons_zero, List.getElem?_cons_succ, List.getElem?_nil, setAll, fNot, eq_self, if_true, if_false, reduceIte, id_eq, decide_true, decide_false, Bool.false_eq_true, Bool.true_eq_false, Bool.not_true, Bool.not_false, Bool.true_or, Bool.false_or, Bool.or_true, Bool.or_false, Bool.true_and, Bool.false_and, Bool.and_true, Bool.and_false,d0]
  cases F_plus [a, b] st <;> rfl
theorem ask_minus {a b : D} : F__law_ask [.str "minus", a, b] st = caught (F_minus [a, b] st) := by
  have hs : startD N__law_ask [.str "minus", a, b] = [some (.str "minus"), some a, some b, none] := rfl
  have d0 : decide (("minus" : Str) = "plus") = false := by decide +kernel
  have d1 : decide (("minus" : Str) = "minus") = true := decide_eq_true rfl
  unfold F__law_ask
  rw [ap_fnF, hs]
  unfold g__law_ask
  refine try_rt ?_ (by simp) rfl rfl
  simp -implicitDefEqProofs only [ap_fnF, ap_seq, ap_skip, ap_if, ap_ret, ap_asg, ap_asg2, ap_drop, ap_par, ap_par3, ap_unp, ap_for, ap_forL, ap_var, ap_c, ap_bin, ap_un, ap_nil, ap_cons, ap_call, ap_def, ap_tr, ap_not, ap_and, ap_or, ap_andv, ap_orv, ap_ife, ap_of, ap_mul, ap_div, ap_mod, ap_sub, ap_addi, ap_lt, ap_le, ap_gt, ap_ge, ap_eqi, ap_nei, ap_eqs, ap_neg, ap_truth, ap_bits, List.length, Nat.reduceSub, Nat.reduceAdd, Nat.reduceLeDiff, List.nil_append, List.cons_append, List.append_nil, List.set, List.getElem?_cons_zero, List.getElem?_cons_succ, List.getElem?_nil, setAll, fNot, eq_self, if_true, if_false, reduceIte, id_eq, decide_true, decide_false, Bool.false_eq_true, Bool.true_eq_false, Bool.not_true, Bool.not_false, Bool.true_or, Bool.false_or, Bool.or_true, Bool.or_false, Bool.true_and, Bool.false_and, Bool.and_true, Bool.and_false,d0, d1]
  cases F_minus [a, b] st <;> rfl
theorem ask_times {a b : D} : F__law_ask [.str "times", a, b] st = caught (F_times [a, b] st) := by
  have hs : startD N__law_ask [.str "times", a, b] = [some (.str "times"), some a, some b, none] := rfl
  have d0 : decide (("times" : Str) = "plus") = false := by decide +kernel
  have d1 : decide (("times" : Str) = "minus") = false := by decide +kernel
  have d2 : decide (("times" : Str) = "times") = true := decide_eq_true rfl
  unfold F__law_ask
  rw [ap_fnF, hs]
  unfold g__law_ask
  refine try_rt ?_ (by simp) rfl rfl
  simp -implicitDefEqProofs only [ap_fnF, ap_seq, ap_skip, ap_if, ap_ret, ap_asg, ap_asg2, ap_drop, ap_par, ap_par3, ap_unp, ap_for, ap_forL, ap_var, ap_c, ap_bin, ap_un, ap_nil, ap_cons, ap_call, ap_def, ap_tr, ap_not, ap_and, ap_or, ap_andv, ap_orv, ap_ife, ap_of, ap_mul, ap_div, ap_mod, ap_sub, ap_addi, ap_lt, ap_le, ap_gt, ap_ge, ap_eqi, ap_nei, ap_eqs, ap_neg, ap_truth, ap_bits, List.length, Nat.reduceSub, Nat.reduceAdd, Nat.reduceLeDiff, List.nil_append, List.cons_append, List.append_nil, List.set, List.getElem?_cons_zero, List.getElem?_cons_succ, List.getElem?_nil, setAll, fNot, eq_self, if_true, if_false, reduceIte, id_eq, decide_true, decide_false, Bool.false_eq_true, Bool.true_eq_false, Bool.not_true, Bool.not_false, Bool.true_or, Bool.false_or, Bool.or_true, Bool.or_false, Bool.true_and, Bool.false_and, Bool.and_true, Bool.and_false,d0, d1, d2]
  cases F_times [a, b] st <;> rfl
theorem ask_over {a b : D} : F__law_ask [.str "over", a, b] st = caught (F_over [a, b] st) := by
  have hs : startD N__law_ask [.str "over", a, b] = [some (.str "over"), some a, some b, none] := rfl
  have d0 : decide (("over" : Str) = "plus") = false := by decide +kernel
  have d1 : decide (("over" : Str) = "minus") = false := by decide +kernel
  have d2 : decide (("over" : Str) = "times") = false := by decide +kernel
  have d3 : decide (("over" : Str) = "over") = true := decide_eq_true rfl
  unfold F__law_ask
  rw [ap_fnF, hs]
  unfold g__law_ask
  refine try_rt ?_ (by simp) rfl rfl
  simp -implicitDefEqProofs only [ap_fnF, ap_seq, ap_skip, ap_if, ap_ret, ap_asg, ap_asg2, ap_drop, ap_par, ap_par3, ap_unp, ap_for, ap_forL, ap_var, ap_c, ap_bin, ap_un, ap_nil, ap_cons, ap_call, ap_def, ap_tr, ap_not, ap_and, ap_or, ap_andv, ap_orv, ap_ife, ap_of, ap_mul, ap_div, ap_mod, ap_sub, ap_addi, ap_lt, ap_le, ap_gt, ap_ge, ap_eqi, ap_nei, ap_eqs, ap_neg, ap_truth, ap_bits, List.length, Nat.reduceSub, Nat.reduceAdd, Nat.reduceLeDiff, List.nil_append, List.cons_append, List.append_nil, List.set, List.getElem?_cons_zero, List.getElem?_cons_succ, List.getElem?_nil, setAll, fNot, eq_self, if_true, if_false, reduceIte, id_eq, decide_true, decide_false, Bool.false_eq_true, Bool.true_eq_false, Bool.not_true, Bool.not_false, Bool.true_or, Bool.false_or, Bool.or_true, Bool.or_false, Bool.true_and, Bool.false_and, Bool.and_true, Bool.and_false,d0, d1, d2, d3]
  cases F_over [a, b] st <;> rfl
theorem ask_less {a b : D} : F__law_ask [.str "less", a, b] st = caught (F_less [a, b] st) := by
  have hs : startD N__law_ask [.str "less", a, b] = [some (.str "less"), some a, some b, none] := rfl
  have d0 : decide (("less" : Str) = "plus") = false := by decide +kernel
  have d1 : decide (("less" : Str) = "minus") = false := by decide +kernel
  have d2 : decide (("less" : Str) = "times") = false := by decide +kernel
  have d3 : decide (("less" : Str) = "over") = false := by decide +kernel
  have d4 : decide (("less" : Str) = "less") = true := decide_eq_true rfl
  unfold F__law_ask
  rw [ap_fnF, hs]
  unfold g__law_ask
  refine try_rt ?_ (by simp) rfl rfl
  simp -implicitDefEqProofs only [ap_fnF, ap_seq, ap_skip, ap_if, ap_ret, ap_asg, ap_asg2, ap_drop, ap_par, ap_par3, ap_unp, ap_for, ap_forL, ap_var, ap_c, ap_bin, ap_un, ap_nil, ap_cons, ap_call, ap_def, ap_tr, ap_not, ap_and, ap_or, ap_andv, ap_orv, ap_ife, ap_of, ap_mul, ap_div, ap_mod, ap_sub, ap_addi, ap_lt, ap_le, ap_gt, ap_ge, ap_eqi, ap_nei, ap_eqs, ap_neg, ap_truth, ap_bits, List.length, Nat.reduceSub, Nat.reduceAdd, Nat.reduceLeDiff, List.nil_append, List.cons_append, List.append_nil, List.set, List.getElem?_cons_zero, List.getElem?_cons_succ, List.getElem?_nil, setAll, fNot, eq_self, if_true, if_false, reduceIte, id_eq, decide_true, decide_false, Bool.false_eq_true, Bool.true_eq_false, Bool.not_true, Bool.not_false, Bool.true_or, Bool.false_or, Bool.or_true, Bool.or_false, Bool.true_and, Bool.false_and, Bool.and_true, Bool.and_false,d0, d1, d2, d3, d4]
  cases F_less [a, b] st <;> rfl
theorem ask_quotient_of {a b : D} : F__law_ask [.str "quotient_of", a, b] st = caught (F_quotient_of [a, b] st) := by
  have hs : startD N__law_ask [.str "quotient_of", a, b] = [some (.str "quotient_of"), some a, some b, none] := rfl
  have d0 : decide (("quotient_of" : Str) = "plus") = false := by decide +kernel
  have d1 : decide (("quotient_of" : Str) = "minus") = false := by decide +kernel
  have d2 : decide (("quotient_of" : Str) = "times") = false := by decide +kernel
  have d3 : decide (("quotient_of" : Str) = "over") = false := by decide +kernel
  have d4 : decide (("quotient_of" : Str) = "less") = false := by decide +kernel
  have d5 : decide (("quotient_of" : Str) = "quotient_of") = true := decide_eq_true rfl
  unfold F__law_ask
  rw [ap_fnF, hs]
  unfold g__law_ask
  refine try_rt ?_ (by simp) rfl rfl
  simp -implicitDefEqProofs only [ap_fnF, ap_seq, ap_skip, ap_if, ap_ret, ap_asg, ap_asg2, ap_drop, ap_par, ap_par3, ap_unp, ap_for, ap_forL, ap_var, ap_c, ap_bin, ap_un, ap_nil, ap_cons, ap_call, ap_def, ap_tr, ap_not, ap_and, ap_or, ap_andv, ap_orv, ap_ife, ap_of, ap_mul, ap_div, ap_mod, ap_sub, ap_addi, ap_lt, ap_le, ap_gt, ap_ge, ap_eqi, ap_nei, ap_eqs, ap_neg, ap_truth, ap_bits, List.length, Nat.reduceSub, Nat.reduceAdd, Nat.reduceLeDiff, List.nil_append, List.cons_append, List.append_nil, List.set, List.getElem?_cons_zero, List.getElem?_cons_succ, List.getElem?_nil, setAll, fNot, eq_self, if_true, if_false, reduceIte, id_eq, decide_true, decide_false, Bool.false_eq_true, Bool.true_eq_false, Bool.not_true, Bool.not_false, Bool.true_or, Bool.false_or, Bool.or_true, Bool.or_false, Bool.true_and, Bool.false_and, Bool.and_true, Bool.and_false,d0, d1, d2, d3, d4, d5]
  cases F_quotient_of [a, b] st <;> rfl
theorem ask_point_box {a b : D} : F__law_ask [.str "point_box", a, b] st = caught (F_point_box [a] st) := by
  have hs : startD N__law_ask [.str "point_box", a, b] = [some (.str "point_box"), some a, some b, none] := rfl
  have d0 : decide (("point_box" : Str) = "plus") = false := by decide +kernel
  have d1 : decide (("point_box" : Str) = "minus") = false := by decide +kernel
  have d2 : decide (("point_box" : Str) = "times") = false := by decide +kernel
  have d3 : decide (("point_box" : Str) = "over") = false := by decide +kernel
  have d4 : decide (("point_box" : Str) = "less") = false := by decide +kernel
  have d5 : decide (("point_box" : Str) = "quotient_of") = false := by decide +kernel
  have d6 : decide (("point_box" : Str) = "point_box") = true := decide_eq_true rfl
  unfold F__law_ask
  rw [ap_fnF, hs]
  unfold g__law_ask
  refine try_rt ?_ (by simp) rfl rfl
  simp -implicitDefEqProofs only [ap_fnF, ap_seq, ap_skip, ap_if, ap_ret, ap_asg, ap_asg2, ap_drop, ap_par, ap_par3, ap_unp, ap_for, ap_forL, ap_var, ap_c, ap_bin, ap_un, ap_nil, ap_cons, ap_call, ap_def, ap_tr, ap_not, ap_and, ap_or, ap_andv, ap_orv, ap_ife, ap_of, ap_mul, ap_div, ap_mod, ap_sub, ap_addi, ap_lt, ap_le, ap_gt, ap_ge, ap_eqi, ap_nei, ap_eqs, ap_neg, ap_truth, ap_bits, List.length, Nat.reduceSub, Nat.reduceAdd, Nat.reduceLeDiff, List.nil_append, List.cons_append, List.append_nil, List.set, List.getElem?_cons_zero, List.getElem?_cons_succ, List.getElem?_nil, setAll, fNot, eq_self, if_true, if_false, reduceIte, id_eq, decide_true, decide_false, Bool.false_eq_true, Bool.true_eq_false, Bool.not_true, Bool.not_false, Bool.true_or, Bool.false_or, Bool.or_true, Bool.or_false, Bool.true_and, Bool.false_and, Bool.and_true, Bool.and_false,d0, d1, d2, d3, d4, d5, d6]
  cases F_point_box [a] st <;> rfl
theorem ask_in_box {a b : D} : F__law_ask [.str "in_box", a, b] st = caught (F_in_box [a, b] st) := by
  have hs : startD N__law_ask [.str "in_box", a, b] = [some (.str "in_box"), some a, some b, none] := rfl
  have d0 : decide (("in_box" : Str) = "plus") = false := by decide +kernel
  have d1 : decide (("in_box" : Str) = "minus") = false := by decide +kernel
  have d2 : decide (("in_box" : Str) = "times") = false := by decide +kernel
  have d3 : decide (("in_box" : Str) = "over") = false := by decide +kernel
  have d4 : decide (("in_box" : Str) = "less") = false := by decide +kernel
  have d5 : decide (("in_box" : Str) = "quotient_of") = false := by decide +kernel
  have d6 : decide (("in_box" : Str) = "point_box") = false := by decide +kernel
  unfold F__law_ask
  rw [ap_fnF, hs]
  unfold g__law_ask
  refine try_rt ?_ (by simp) rfl rfl
  simp -implicitDefEqProofs only [ap_fnF, ap_seq, ap_skip, ap_if, ap_ret, ap_asg, ap_asg2, ap_drop, ap_par, ap_par3, ap_unp, ap_for, ap_forL, ap_var, ap_c, ap_bin, ap_un, ap_nil, ap_cons, ap_call, ap_def, ap_tr, ap_not, ap_and, ap_or, ap_andv, ap_orv, ap_ife, ap_of, ap_mul, ap_div, ap_mod, ap_sub, ap_addi, ap_lt, ap_le, ap_gt, ap_ge, ap_eqi, ap_nei, ap_eqs, ap_neg, ap_truth, ap_bits, List.length, Nat.reduceSub, Nat.reduceAdd, Nat.reduceLeDiff, List.nil_append, List.cons_append, List.append_nil, List.set, List.getElem?_cons_zero, List.getElem?_cons_succ, List.getElem?_nil, setAll, fNot, eq_self, if_true, if_false, reduceIte, id_eq, decide_true, decide_false, Bool.false_eq_true, Bool.true_eq_false, Bool.not_true, Bool.not_false, Bool.true_or, Bool.false_or, Bool.or_true, Bool.or_false, Bool.true_and, Bool.false_and, Bool.and_true, Bool.and_false,d0, d1, d2, d3, d4, d5, d6]
  all_goals (cases F_in_box [a, b] st <;> rfl)
theorem ask_span_span_plus {a b : D} : F__law_ask_span [.str "span_plus", a, b] st = caught (F_span_plus [a, b] st) := by
  have hs : startD N__law_ask_span [.str "span_plus", a, b] = [some (.str "span_plus"), some a, some b, none] := rfl
  have d0 : decide (("span_plus" : Str) = "span_plus") = true := decide_eq_true rfl
  unfold F__law_ask_span
  rw [ap_fnF, hs]
  unfold g__law_ask_span
  refine try_rt ?_ (by simp) rfl rfl
  simp -implicitDefEqProofs only [ap_fnF, ap_seq, ap_skip, ap_if, ap_ret, ap_asg, ap_asg2, ap_drop, ap_par, ap_par3, ap_unp, ap_for, ap_forL, ap_var, ap_c, ap_bin, ap_un, ap_nil, ap_cons, ap_call, ap_def, ap_tr, ap_not, ap_and, ap_or, ap_andv, ap_orv, ap_ife, ap_of, ap_mul, ap_div, ap_mod, ap_sub, ap_addi, ap_lt, ap_le, ap_gt, ap_ge, ap_eqi, ap_nei, ap_eqs, ap_neg, ap_truth, ap_bits, List.length, Nat.reduceSub, Nat.reduceAdd, Nat.reduceLeDiff, List.nil_append, List.cons_append, List.append_nil, List.set, List.getElem?_cons_zero, List.getElem?_cons_succ, List.getElem?_nil, setAll, fNot, eq_self, if_true, if_false, reduceIte, id_eq, decide_true, decide_false, Bool.false_eq_true, Bool.true_eq_false, Bool.not_true, Bool.not_false, Bool.true_or, Bool.false_or, Bool.or_true, Bool.or_false, Bool.true_and, Bool.false_and, Bool.and_true, Bool.and_false,d0]
  cases F_span_plus [a, b] st <;> rfl
theorem ask_span_span_minus {a b : D} : F__law_ask_span [.str "span_minus", a, b] st = caught (F_span_minus [a, b] st) := by
  have hs : startD N__law_ask_span [.str "span_minus", a, b] = [some (.str "span_minus"), some a, some b, none] := rfl
  have d0 : decide (("span_minus" : Str) = "span_plus") = false := by decide +kernel
  have d1 : decide (("span_minus" : Str) = "span_minus") = true := decide_eq_true rfl
  unfold F__law_ask_span
  rw [ap_fnF, hs]
  unfold g__law_ask_span
  refine try_rt ?_ (by simp) rfl rfl
  simp -implicitDefEqProofs only [ap_fnF, ap_seq, ap_skip, ap_if, ap_ret, ap_asg, ap_asg2, ap_drop, ap_par, ap_par3, ap_unp, ap_for, ap_forL, ap_var, ap_c, ap_bin, ap_un, ap_nil, ap_cons, ap_call, ap_def, ap_tr, ap_not, ap_and, ap_or, ap_andv, ap_orv, ap_ife, ap_of, ap_mul, ap_div, ap_mod, ap_sub, ap_addi, ap_lt, ap_le, ap_gt, ap_ge, ap_eqi, ap_nei, ap_eqs, ap_neg, ap_truth, ap_bits, List.length, Nat.reduceSub, Nat.reduceAdd, Nat.reduceLeDiff, List.nil_append, List.cons_append, List.append_nil, List.set, List.getElem?_cons_zero, List.getElem?_cons_succ, List.getElem?_nil, setAll, fNot, eq_self, if_true, if_false, reduceIte, id_eq, decide_true, decide_false, Bool.false_eq_true, Bool.true_eq_false, Bool.not_true, Bool.not_false, Bool.true_or, Bool.false_or, Bool.or_true, Bool.or_false, Bool.true_and, Bool.false_and, Bool.and_true, Bool.and_false,d0, d1]
  cases F_span_minus [a, b] st <;> rfl
theorem ask_span_span_times {a b : D} : F__law_ask_span [.str "span_times", a, b] st = caught (F_span_times [a, b] st) := by
  have hs : startD N__law_ask_span [.str "span_times", a, b] = [some (.str "span_times"), some a, some b, none] := rfl
  have d0 : decide (("span_times" : Str) = "span_plus") = false := by decide +kernel
  have d1 : decide (("span_times" : Str) = "span_minus") = false := by decide +kernel
  have d2 : decide (("span_times" : Str) = "span_times") = true := decide_eq_true rfl
  unfold F__law_ask_span
  rw [ap_fnF, hs]
  unfold g__law_ask_span
  refine try_rt ?_ (by simp) rfl rfl
  simp -implicitDefEqProofs only [ap_fnF, ap_seq, ap_skip, ap_if, ap_ret, ap_asg, ap_asg2, ap_drop, ap_par, ap_par3, ap_unp, ap_for, ap_forL, ap_var, ap_c, ap_bin, ap_un, ap_nil, ap_cons, ap_call, ap_def, ap_tr, ap_not, ap_and, ap_or, ap_andv, ap_orv, ap_ife, ap_of, ap_mul, ap_div, ap_mod, ap_sub, ap_addi, ap_lt, ap_le, ap_gt, ap_ge, ap_eqi, ap_nei, ap_eqs, ap_neg, ap_truth, ap_bits, List.length, Nat.reduceSub, Nat.reduceAdd, Nat.reduceLeDiff, List.nil_append, List.cons_append, List.append_nil, List.set, List.getElem?_cons_zero, List.getElem?_cons_succ, List.getElem?_nil, setAll, fNot, eq_self, if_true, if_false, reduceIte, id_eq, decide_true, decide_false, Bool.false_eq_true, Bool.true_eq_false, Bool.not_true, Bool.not_false, Bool.true_or, Bool.false_or, Bool.or_true, Bool.or_false, Bool.true_and, Bool.false_and, Bool.and_true, Bool.and_false,d0, d1, d2]
  cases F_span_times [a, b] st <;> rfl
theorem ask_span_span_within {a b : D} : F__law_ask_span [.str "span_within", a, b] st = caught (F_span_within [a, b] st) := by
  have hs : startD N__law_ask_span [.str "span_within", a, b] = [some (.str "span_within"), some a, some b, none] := rfl
  have d0 : decide (("span_within" : Str) = "span_plus") = false := by decide +kernel
  have d1 : decide (("span_within" : Str) = "span_minus") = false := by decide +kernel
  have d2 : decide (("span_within" : Str) = "span_times") = false := by decide +kernel
  have d3 : decide (("span_within" : Str) = "span_within") = true := decide_eq_true rfl
  unfold F__law_ask_span
  rw [ap_fnF, hs]
  unfold g__law_ask_span
  refine try_rt ?_ (by simp) rfl rfl
  simp -implicitDefEqProofs only [ap_fnF, ap_seq, ap_skip, ap_if, ap_ret, ap_asg, ap_asg2, ap_drop, ap_par, ap_par3, ap_unp, ap_for, ap_forL, ap_var, ap_c, ap_bin, ap_un, ap_nil, ap_cons, ap_call, ap_def, ap_tr, ap_not, ap_and, ap_or, ap_andv, ap_orv, ap_ife, ap_of, ap_mul, ap_div, ap_mod, ap_sub, ap_addi, ap_lt, ap_le, ap_gt, ap_ge, ap_eqi, ap_nei, ap_eqs, ap_neg, ap_truth, ap_bits, List.length, Nat.reduceSub, Nat.reduceAdd, Nat.reduceLeDiff, List.nil_append, List.cons_append, List.append_nil, List.set, List.getElem?_cons_zero, List.getElem?_cons_succ, List.getElem?_nil, setAll, fNot, eq_self, if_true, if_false, reduceIte, id_eq, decide_true, decide_false, Bool.false_eq_true, Bool.true_eq_false, Bool.not_true, Bool.not_false, Bool.true_or, Bool.false_or, Bool.or_true, Bool.or_false, Bool.true_and, Bool.false_and, Bool.and_true, Bool.and_false,d0, d1, d2, d3]
  cases F_span_within [a, b] st <;> rfl
theorem ask_span_spans_apart {a b : D} : F__law_ask_span [.str "spans_apart", a, b] st = caught (F_spans_apart [a, b] st) := by
  have hs : startD N__law_ask_span [.str "spans_apart", a, b] = [some (.str "spans_apart"), some a, some b, none] := rfl
  have d0 : decide (("spans_apart" : Str) = "span_plus") = false := by decide +kernel
  have d1 : decide (("spans_apart" : Str) = "span_minus") = false := by decide +kernel
  have d2 : decide (("spans_apart" : Str) = "span_times") = false := by decide +kernel
  have d3 : decide (("spans_apart" : Str) = "span_within") = false := by decide +kernel
  have d4 : decide (("spans_apart" : Str) = "spans_apart") = true := decide_eq_true rfl
  unfold F__law_ask_span
  rw [ap_fnF, hs]
  unfold g__law_ask_span
  refine try_rt ?_ (by simp) rfl rfl
  simp -implicitDefEqProofs only [ap_fnF, ap_seq, ap_skip, ap_if, ap_ret, ap_asg, ap_asg2, ap_drop, ap_par, ap_par3, ap_unp, ap_for, ap_forL, ap_var, ap_c, ap_bin, ap_un, ap_nil, ap_cons, ap_call, ap_def, ap_tr, ap_not, ap_and, ap_or, ap_andv, ap_orv, ap_ife, ap_of, ap_mul, ap_div, ap_mod, ap_sub, ap_addi, ap_lt, ap_le, ap_gt, ap_ge, ap_eqi, ap_nei, ap_eqs, ap_neg, ap_truth, ap_bits, List.length, Nat.reduceSub, Nat.reduceAdd, Nat.reduceLeDiff, List.nil_append, List.cons_append, List.append_nil, List.set, List.getElem?_cons_zero, List.getElem?_cons_succ, List.getElem?_nil, setAll, fNot, eq_self, if_true, if_false, reduceIte, id_eq, decide_true, decide_false, Bool.false_eq_true, Bool.true_eq_false, Bool.not_true, Bool.not_false, Bool.true_or, Bool.false_or, Bool.or_true, Bool.or_false, Bool.true_and, Bool.false_and, Bool.and_true, Bool.and_false,d0, d1, d2, d3, d4]
  cases F_spans_apart [a, b] st <;> rfl
theorem ask_span_scaled_span {a b : D} : F__law_ask_span [.str "scaled_span", a, b] st = caught (F_scaled_span [a, b] st) := by
  have hs : startD N__law_ask_span [.str "scaled_span", a, b] = [some (.str "scaled_span"), some a, some b, none] := rfl
  have d0 : decide (("scaled_span" : Str) = "span_plus") = false := by decide +kernel
  have d1 : decide (("scaled_span" : Str) = "span_minus") = false := by decide +kernel
  have d2 : decide (("scaled_span" : Str) = "span_times") = false := by decide +kernel
  have d3 : decide (("scaled_span" : Str) = "span_within") = false := by decide +kernel
  have d4 : decide (("scaled_span" : Str) = "spans_apart") = false := by decide +kernel
  have d5 : decide (("scaled_span" : Str) = "scaled_span") = true := decide_eq_true rfl
  unfold F__law_ask_span
  rw [ap_fnF, hs]
  unfold g__law_ask_span
  refine try_rt ?_ (by simp) rfl rfl
  simp -implicitDefEqProofs only [ap_fnF, ap_seq, ap_skip, ap_if, ap_ret, ap_asg, ap_asg2, ap_drop, ap_par, ap_par3, ap_unp, ap_for, ap_forL, ap_var, ap_c, ap_bin, ap_un, ap_nil, ap_cons, ap_call, ap_def, ap_tr, ap_not, ap_and, ap_or, ap_andv, ap_orv, ap_ife, ap_of, ap_mul, ap_div, ap_mod, ap_sub, ap_addi, ap_lt, ap_le, ap_gt, ap_ge, ap_eqi, ap_nei, ap_eqs, ap_neg, ap_truth, ap_bits, List.length, Nat.reduceSub, Nat.reduceAdd, Nat.reduceLeDiff, List.nil_append, List.cons_append, List.append_nil, List.set, List.getElem?_cons_zero, List.getElem?_cons_succ, List.getElem?_nil, setAll, fNot, eq_self, if_true, if_false, reduceIte, id_eq, decide_true, decide_false, Bool.false_eq_true, Bool.true_eq_false, Bool.not_true, Bool.not_false, Bool.true_or, Bool.false_or, Bool.or_true, Bool.or_false, Bool.true_and, Bool.false_and, Bool.and_true, Bool.and_false,d0, d1, d2, d3, d4, d5]
  cases F_scaled_span [a, b] st <;> rfl
theorem ask_span_holds {a b : D} : F__law_ask_span [.str "holds", a, b] st = caught (F_holds [a, b] st) := by
  have hs : startD N__law_ask_span [.str "holds", a, b] = [some (.str "holds"), some a, some b, none] := rfl
  have d0 : decide (("holds" : Str) = "span_plus") = false := by decide +kernel
  have d1 : decide (("holds" : Str) = "span_minus") = false := by decide +kernel
  have d2 : decide (("holds" : Str) = "span_times") = false := by decide +kernel
  have d3 : decide (("holds" : Str) = "span_within") = false := by decide +kernel
  have d4 : decide (("holds" : Str) = "spans_apart") = false := by decide +kernel
  have d5 : decide (("holds" : Str) = "scaled_span") = false := by decide +kernel
  unfold F__law_ask_span
  rw [ap_fnF, hs]
  unfold g__law_ask_span
  refine try_rt ?_ (by simp) rfl rfl
  simp -implicitDefEqProofs only [ap_fnF, ap_seq, ap_skip, ap_if, ap_ret, ap_asg, ap_asg2, ap_drop, ap_par, ap_par3, ap_unp, ap_for, ap_forL, ap_var, ap_c, ap_bin, ap_un, ap_nil, ap_cons, ap_call, ap_def, ap_tr, ap_not, ap_and, ap_or, ap_andv, ap_orv, ap_ife, ap_of, ap_mul, ap_div, ap_mod, ap_sub, ap_addi, ap_lt, ap_le, ap_gt, ap_ge, ap_eqi, ap_nei, ap_eqs, ap_neg, ap_truth, ap_bits, List.length, Nat.reduceSub, Nat.reduceAdd, Nat.reduceLeDiff, List.nil_append, List.cons_append, List.append_nil, List.set, List.getElem?_cons_zero, List.getElem?_cons_succ, List.getElem?_nil, setAll, fNot, eq_self, if_true, if_false, reduceIte, id_eq, decide_true, decide_false, Bool.false_eq_true, Bool.true_eq_false, Bool.not_true, Bool.not_false, Bool.true_or, Bool.false_or, Bool.or_true, Bool.or_false, Bool.true_and, Bool.false_and, Bool.and_true, Bool.and_false,d0, d1, d2, d3, d4, d5]
  all_goals (cases F_holds [a, b] st <;> rfl)
end K00
end Sv
set_option Elab.async false
set_option linter.all false
set_option maxRecDepth 100000
set_option maxHeartbeats 4000000
set_option exponentiation.threshold 10000
namespace Sv
open PySem PySem.Spec PyProof.Rows L2
namespace K00
variable {st : S}
theorem ap_app {ga gb : G} {r : En} : gApp ga gb r st = (match ga r st with | .ok (.loc l) st1 => (match gb r st1 with | .ok y st2 => fApp (.loc l) y st2 | .err c fs s => .err c fs s | .bad => .bad) | .ok _ _ => .bad | .err c fs s => .err c fs s | .bad => .bad) := rfl
theorem fapp {l : Nat} {xs : List D} {d : D} (h : st[l]? = some xs) (hl : xs.length < 100000) : fApp (.loc l) d st = .ok .non (st.set l (xs ++ [d])) := by
  show (match st[l]? with
    | some ds => if ds.length < 100000 then R.ok D.non (st.set l (ds ++ [d])) else .bad
    | none => .bad) = _
  rw [h]
  dsimp only
  rw [if_pos hl]
/-! ### two spans -/
def rA (x y : Qt) : Qt := (x.1 * y.2 + y.1 * x.2, x.2 * y.2)
def rS (x y : Qt) : Qt := (x.1 * y.2 - y.1 * x.2, x.2 * y.2)
def rM (x y : Qt) : Qt := (x.1 * y.1, x.2 * y.2)
def four (f : Qt → Qt → Qt) (p q : Qt × Qt) : List Qt := [f p.1 q.1, f p.1 q.2, f p.2 q.1, f p.2 q.2]
theorem at0 {xs ys zs : List D} : (st ++ [xs, ys, zs])[st.length]? = some xs := by rw [List.getElem?_append_right (Nat.le_refl _), Nat.sub_self]; rfl
theorem at1 {xs ys zs : List D} : (st ++ [xs, ys, zs])[st.length + 1]? = some ys := by rw [List.getElem?_append_right (by omega), show st.length + 1 - st.length = 1 by omega]; rfl
theorem at2 {xs ys zs : List D} : (st ++ [xs, ys, zs])[st.length + 2]? = some zs := by rw [List.getElem?_append_right (by omega), show st.length + 2 - st.length = 2 by omega]; rfl
theorem put0 {xs ys zs ws : List D} : (st ++ [xs, ys, zs]).set st.length ws = st ++ [ws, ys, zs] := by rw [List.set_append_right _ _ (Nat.le_refl _), Nat.sub_self]; rfl
theorem put1 {xs ys zs ws : List D} : (st ++ [xs, ys, zs]).set (st.length + 1) ws = st ++ [xs, ws, zs] := by rw [List.set_append_right _ _ (by omega), show st.length + 1 - st.length = 1 by omega]; rfl
theorem put2 {xs ys zs ws : List D} : (st ++ [xs, ys, zs]).set (st.length + 2) ws = st ++ [xs, ys, ws] := by rw [List.set_append_right _ _ (by omega), show st.length + 2 - st.length = 2 by omega]; rfl
theorem ev_pr {n0 n1 n2 : Nat} {a b : Qt} {o0 o1 o7 o8 : Option D} {st0 st1 st2 st3 : S} (m1 : MulC a.1 b.2) (m2 : MulC b.1 a.2) (m3 : MulC a.2 b.2) (m4 : MulC a.1 b.1)
    (f1 : fApp (.loc n0) (dq (rA a b)) st0 = .ok .non st1) (f2 : fApp (.loc n1) (dq (rS a b)) st1 = .ok .non st2) (f3 : fApp (.loc n2) (dq (rM a b)) st2 = .ok .non st3) :
    b__law_pair_of_spans_1 [o0, o1, some (.loc n0), some (.loc n1), some (.loc n2), some (dq a), some (dq b), o7, o8] st0 = .nx [o0, o1, some (.loc n0), some (.loc n1), some (.loc n2), some (dq a), some (dq b), o7, o8] st3 := by
  have e2 : ∀ (x y : Int) (st : S), fTup [.int x, .int y] st = .ok (dq (x, y)) st := fun _ _ _ => rfl
  unfold rA at f1
  unfold rS at f2
  unfold rM at f3
  unfold b__law_pair_of_spans_1
  simp -implicitDefEqProofs only [ap_fnF, ap_seq, ap_skip, ap_if, ap_ret, ap_asg, ap_asg2, ap_drop, ap_par, ap_par3, ap_unp, ap_for, ap_forL, ap_var, ap_c, ap_bin, ap_un, ap_nil, ap_cons, ap_call, ap_def, ap_tr, ap_not, ap_and, ap_or, ap_andv, ap_orv, ap_ife, ap_of, ap_mul, ap_div, ap_mod, ap_sub, ap_addi, ap_lt, ap_le, ap_gt, ap_ge, ap_eqi, ap_nei, ap_eqs, ap_neg, ap_truth, ap_bits, List.length, Nat.reduceSub, Nat.reduceAdd, Nat.reduceLeDiff, List.nil_append, List.cons_append, List.append_nil, List.set, List.getElem?_cons_zero, List.getElem?_cons_succ, List.getElem?_nil, setAll, fNot, eq_self, if_true, if_false, reduceIte, id_eq, decide_true, decide_false, Bool.false_eq_true, Bool.true_eq_false, Bool.not_true, Bool.not_false, Bool.true_or, Bool.false_or, Bool.or_true, Bool.or_false, Bool.true_and, Bool.false_and, Bool.and_true, Bool.and_false,ap_app, ix0, ix1, m1, m2, m3, m4, e2, f1, f2, f3]
theorem pr_turn {xs ys zs : List D} {a b : Qt} {o0 o1 o7 o8 : Option D} (wa : W 3000 a) (wb : W 3000 b) (h1 : xs.length < 100000) (h2 : ys.length < 100000) (h3 : zs.length < 100000) :
    b__law_pair_of_spans_1 [o0, o1, some (.loc st.length), some (.loc (st.length + 1)), some (.loc (st.length + 2)), some (dq a), some (dq b), o7, o8] (st ++ [xs, ys, zs]) =
      .nx [o0, o1, some (.loc st.length), some (.loc (st.length + 1)), some (.loc (st.length + 2)), some (dq a), some (dq b), o7, o8] (st ++ [xs ++ [dq (rA a b)], ys ++ [dq (rS a b)], zs ++ [dq (rM a b)]]) := by
  refine ev_pr (mulc wa.1 wb.2 (by decide) (by decide)) (mulc wb.1 wa.2 (by decide) (by decide)) (mulc wa.2 wb.2 (by decide) (by decide)) (mulc wa.1 wb.1 (by decide) (by decide)) (fapp at0 h1) ?_ ?_ (st2 := st ++ [xs ++ [dq (rA a b)], ys ++ [dq (rS a b)], zs])
  · rw [put0, fapp at1 h2, put1]
  · rw [fapp at2 h3, put2]
theorem pr_in {q : Qt × Qt} {xs ys zs : List D} {a : Qt} {o0 o6 o7 o8 : Option D} (wa : W 3000 a) (w1 : W 3000 q.1) (w2 : W 3000 q.2) (h1 : xs.length < 1000) (h2 : ys.length < 1000) (h3 : zs.length < 1000) :
    b__law_pair_of_spans_2 [o0, some (ds q), some (.loc st.length), some (.loc (st.length + 1)), some (.loc (st.length + 2)), some (dq a), o6, o7, o8] (st ++ [xs, ys, zs]) =
      .nx [o0, some (ds q), some (.loc st.length), some (.loc (st.length + 1)), some (.loc (st.length + 2)), some (dq a), some (dq q.2), o7, o8] (st ++ [xs ++ [dq (rA a q.1)] ++ [dq (rA a q.2)], ys ++ [dq (rS a q.1)] ++ [dq (rS a q.2)], zs ++ [dq (rM a q.1)] ++ [dq (rM a q.2)]]) := by
  have t1 := pr_turn (st := st) (o0 := o0) (o1 := some (ds q)) (o7 := o7) (o8 := o8) (xs := xs) (ys := ys) (zs := zs) wa w1 (by omega) (by omega) (by omega)
  have t2 := pr_turn (st := st) (o0 := o0) (o1 := some (ds q)) (o7 := o7) (o8 := o8) (xs := xs ++ [dq (rA a q.1)]) (ys := ys ++ [dq (rS a q.1)]) (zs := zs ++ [dq (rM a q.1)]) wa w2 (by simp; omega) (by simp; omega) (by simp; omega)
  have g : ∀ st', iSq (gVar 1) [o0, some (ds q), some (.loc st.length), some (.loc (st.length + 1)), some (.loc (st.length + 2)), some (dq a), o6, o7, o8] st' = .ok [dq q.1, dq q.2] st' := fun _ => rfl
  unfold b__law_pair_of_spans_2
  rw [ap_for, g]
  dsimp only
  simp only [loopV, tgV, List.set, t1, t2]
theorem pr_out {p q : Qt × Qt} {o5 o6 o7 o8 : Option D} (w1 : W 3000 p.1) (w2 : W 3000 p.2) (w3 : W 3000 q.1) (w4 : W 3000 q.2) :
    sFor (iSq (gVar 0)) (tgV 5) b__law_pair_of_spans_2 [some (ds p), some (ds q), some (.loc st.length), some (.loc (st.length + 1)), some (.loc (st.length + 2)), o5, o6, o7, o8] (st ++ [[], [], []]) =
      .nx [some (ds p), some (ds q), some (.loc st.length), some (.loc (st.length + 1)), some (.loc (st.length + 2)), some (dq p.2), some (dq q.2), o7, o8] (st ++ [(four rA p q).map dq, (four rS p q).map dq, (four rM p q).map dq]) := by
  have t1 := pr_in (st := st) (q := q) (o0 := some (ds p)) (o6 := o6) (o7 := o7) (o8 := o8) (xs := []) (ys := []) (zs := []) w1 w3 w4 (by simp) (by simp) (by simp)
  have t2 := pr_in (st := st) (q := q) (o0 := some (ds p)) (o6 := some (dq q.2)) (o7 := o7) (o8 := o8) (xs := [dq (rA p.1 q.1), dq (rA p.1 q.2)]) (ys := [dq (rS p.1 q.1), dq (rS p.1 q.2)]) (zs := [dq (rM p.1 q.1), dq (rM p.1 q.2)]) w2 w3 w4 (by simp) (by simp) (by simp)
  have g : ∀ st', iSq (gVar 0) [some (ds p), some (ds q), some (.loc st.length), some (.loc (st.length + 1)), some (.loc (st.length + 2)), o5, o6, o7, o8] st' = .ok [dq p.1, dq p.2] st' := fun _ => rfl
  simp only [List.nil_append, List.cons_append] at t1 t2
  rw [ap_for, g]
  dsimp only
  simp only [loopV, tgV, List.set, t1, t2]
  rfl
theorem pr_start {A B : D} : sPar3 2 3 4 (gCons (gCall (nl true) gNil) (gCons (gCall (nl true) gNil) (gCons (gCall (nl true) gNil) gNil))) [some A, some B, none, none, none, none, none, none, none] st =
    .nx [some A, some B, some (.loc st.length), some (.loc (st.length + 1)), some (.loc (st.length + 2)), none, none, none, none] (st ++ [[], [], []]) := by
  have n : ∀ st : S, nl true [] st = .ok (.loc st.length) (st ++ [[]]) := fun st => nl_loc (by decide)
  simp -implicitDefEqProofs only [ap_fnF, ap_seq, ap_skip, ap_if, ap_ret, ap_asg, ap_asg2, ap_drop, ap_par, ap_par3, ap_unp, ap_for, ap_forL, ap_var, ap_c, ap_bin, ap_un, ap_nil, ap_cons, ap_call, ap_def, ap_tr, ap_not, ap_and, ap_or, ap_andv, ap_orv, ap_ife, ap_of, ap_mul, ap_div, ap_mod, ap_sub, ap_addi, ap_lt, ap_le, ap_gt, ap_ge, ap_eqi, ap_nei, ap_eqs, ap_neg, ap_truth, ap_bits, List.length, Nat.reduceSub, Nat.reduceAdd, Nat.reduceLeDiff, List.nil_append, List.cons_append, List.append_nil, List.set, List.getElem?_cons_zero, List.getElem?_cons_succ, List.getElem?_nil, setAll, fNot, eq_self, if_true, if_false, reduceIte, id_eq, decide_true, decide_false, Bool.false_eq_true, Bool.true_eq_false, Bool.not_true, Bool.not_false, Bool.true_or, Bool.false_or, Bool.or_true, Bool.or_false, Bool.true_and, Bool.false_and, Bool.and_true, Bool.and_false,n]
  simp only [List.length_append, List.append_assoc, List.length_singleton]
  rfl
theorem ev_pair {A B t1 t2 t3 A0 A1 B0 B1 : D} {n0 n1 n2 : Nat} {c1 c2 d1 d2 tw ta : Bool} {o5 o6 : Option D} {st1 st2 : S}
    (h0 : sPar3 2 3 4 (gCons (gCall (nl true) gNil) (gCons (gCall (nl true) gNil) (gCons (gCall (nl true) gNil) gNil))) [some A, some B, none, none, none, none, none, none, none] st = .nx [some A, some B, some (.loc n0), some (.loc n1), some (.loc n2), none, none, none, none] st1)
    (h1 : sFor (iSq (gVar 0)) (tgV 5) b__law_pair_of_spans_2 [some A, some B, some (.loc n0), some (.loc n1), some (.loc n2), none, none, none, none] st1 = .nx [some A, some B, some (.loc n0), some (.loc n1), some (.loc n2), o5, o6, none, none] st2)
    (a1 : F__law_ask_span [.str "span_plus", A, B] st2 = .ok t1 st2) (e1 : F__law_ends [t1, .loc n0] st2 = .ok (.bl true) st2) (a2 : F__law_ask_span [.str "span_minus", A, B] st2 = .ok t2 st2) (e2 : F__law_ends [t2, .loc n1] st2 = .ok (.bl true) st2)
    (a3 : F__law_ask_span [.str "span_times", A, B] st2 = .ok t3 st2) (e3 : F__law_ends [t3, .loc n2] st2 = .ok (.bl true) st2) (x0 : fIx A (.int 0) st2 = .ok A0 st2) (x1 : fIx A (.int 1) st2 = .ok A1 st2) (y0 : fIx B (.int 0) st2 = .ok B0 st2) (y1 : fIx B (.int 1) st2 = .ok B1 st2)
    (c1' : F__law_held [B, A0] st2 = .ok (.bl c1) st2) (c2' : F__law_held [B, A1] st2 = .ok (.bl c2) st2) (a4 : F__law_ask_span [.str "span_within", A, B] st2 = .ok (.bl tw) st2) (e4 : F__law_truth [.bl tw, .bl (c1 && c2)] st2 = .ok (.bl true) st2)
    (d1' : F__law_below [A1, B0] st2 = .ok (.bl d1) st2) (d2' : F__law_below [B1, A0] st2 = .ok (.bl d2) st2) (a5 : F__law_ask_span [.str "spans_apart", A, B] st2 = .ok (.bl ta) st2) (e5 : F__law_truth [.bl ta, .bl (d1 || d2)] st2 = .ok (.bl true) st2) :
    F__law_pair_of_spans [A, B] st = .ok (.bl true) st2 := by
  refine fn_rt (r := [some A, some B, none, none, none, none, none, none, none]) rfl ?_
  unfold g__law_pair_of_spans
  refine seq_nx h0 (seq_nx h1 ?_)
  cases c1 <;> cases d1 <;> simp only [Bool.true_and, Bool.false_and, Bool.true_or, Bool.false_or] at e4 e5 <;> simp -implicitDefEqProofs only [ap_fnF, ap_seq, ap_skip, ap_if, ap_ret, ap_asg, ap_asg2, ap_drop, ap_par, ap_par3, ap_unp, ap_for, ap_forL, ap_var, ap_c, ap_bin, ap_un, ap_nil, ap_cons, ap_call, ap_def, ap_tr, ap_not, ap_and, ap_or, ap_andv, ap_orv, ap_ife, ap_of, ap_mul, ap_div, ap_mod, ap_sub, ap_addi, ap_lt, ap_le, ap_gt, ap_ge, ap_eqi, ap_nei, ap_eqs, ap_neg, ap_truth, ap_bits, List.length, Nat.reduceSub, Nat.reduceAdd, Nat.reduceLeDiff, List.nil_append, List.cons_append, List.append_nil, List.set, List.getElem?_cons_zero, List.getElem?_cons_succ, List.getElem?_nil, setAll, fNot, eq_self, if_true, if_false, reduceIte, id_eq, decide_true, decide_false, Bool.false_eq_true, Bool.true_eq_false, Bool.not_true, Bool.not_false, Bool.true_or, Bool.false_or, Bool.or_true, Bool.or_false, Bool.true_and, Bool.false_and, Bool.and_true, Bool.and_false,a1, e1, a2, e2, a3, e3, x0, x1, y0, y1, c1', c2', a4, e4, d1', d2', a5, e5]
theorem four_ok {f : Qt → Qt → Qt} {p q : Qt × Qt} (hp : Spok p) (hq : Spok q) (hf : ∀ a b, Qok a → Qok b → 1 ≤ (f a b).2 ∧ W 3000 (f a b)) : ∀ r ∈ four f p q, 1 ≤ r.2 ∧ W 3000 r := by
  intro r hr
  simp only [four, List.mem_cons, List.not_mem_nil, or_false] at hr
  rcases hr with rfl | rfl | rfl | rfl
  · exact hf _ _ hp.a hq.a
  · exact hf _ _ hp.a hq.b
  · exact hf _ _ hp.b hq.a
  · exact hf _ _ hp.b hq.b
theorem pos2 {a b : Int} (ha : 1 ≤ a) (hb : 1 ≤ b) : 1 ≤ a * b := by
  have := Int.mul_pos (show 0 < a by omega) (show 0 < b by omega)
  omega
theorem W_of {a b : Int} {n : Nat} (h1 : a.natAbs < 2 ^ n) (h2 : b.natAbs < 2 ^ n) (hn : n ≤ 3000) : W 3000 (a, b) := W.mono (n := n) ⟨h1, h2⟩ hn
theorem rA_ok (a b : Qt) (ha : Qok a) (hb : Qok b) : 1 ≤ (rA a b).2 ∧ W 3000 (rA a b) :=
  ⟨pos2 ha.p hb.p, W_of (n := 81) (add_lt (mul_lt ha.2.1 hb.2.2) (mul_lt hb.2.1 ha.2.2)) (Nat.lt_of_lt_of_le (mul_lt ha.2.2 hb.2.2) (by decide)) (by decide)⟩
theorem rS_ok (a b : Qt) (ha : Qok a) (hb : Qok b) : 1 ≤ (rS a b).2 ∧ W 3000 (rS a b) := by
  have h1 := mul_lt ha.2.1 hb.2.2
  have h2 := mul_lt hb.2.1 ha.2.2
  exact ⟨pos2 ha.p hb.p, W_of (n := 81) (by omega) (Nat.lt_of_lt_of_le (mul_lt ha.2.2 hb.2.2) (by decide)) (by decide)⟩
theorem rM_ok (a b : Qt) (ha : Qok a) (hb : Qok b) : 1 ≤ (rM a b).2 ∧ W 3000 (rM a b) :=
  ⟨pos2 ha.p hb.p, W_of (n := 80) (mul_lt ha.2.1 hb.2.1) (mul_lt ha.2.2 hb.2.2) (by decide)⟩
theorem qA {a b : Qt} (ha : Qok a) (hb : Qok b) : qv (rA a b) = qv a + qv b := by
  have h1 := rne (x := a.2) (by have := ha.p; omega)
  have h2 := rne (x := b.2) (by have := hb.p; omega)
  unfold qv rA
  dsimp only
  rw [Rat.intCast_add, Rat.intCast_mul, Rat.intCast_mul, Rat.intCast_mul]
  grind
theorem qS {a b : Qt} (ha : Qok a) (hb : Qok b) : qv (rS a b) = qv a - qv b := by
  have h1 := rne (x := a.2) (by have := ha.p; omega)
  have h2 := rne (x := b.2) (by have := hb.p; omega)
  unfold qv rS
  dsimp only
  rw [Rat.intCast_sub, Rat.intCast_mul, Rat.intCast_mul, Rat.intCast_mul]
  grind
theorem qM {a b : Qt} (ha : Qok a) (hb : Qok b) : qv (rM a b) = qv a * qv b := by
  have h1 := rne (x := a.2) (by have := ha.p; omega)
  have h2 := rne (x := b.2) (by have := hb.p; omega)
  unfold qv rM
  dsimp only
  rw [Rat.intCast_mul, Rat.intCast_mul]
  grind
theorem neg_p {x : Qt} (h : Qok x) : 1 ≤ (negQ x).2 := h.p
theorem ends_plus {p q : Qt × Qt} {l : Nat} (hp : Spok p) (hq : Spok q) (hl : st[l]? = some ((four rA p q).map dq)) : F__law_ends [ds (addQ p.1 q.1, addQ p.2 q.2), .loc l] st = .ok (.bl true) st := by
  obtain ⟨l1, v1⟩ := low_add hp.a.p hq.a.p
  obtain ⟨l2, v2⟩ := low_add hp.b.p hq.b.p
  have x1 := qA hp.a hq.a
  have x2 := qA hp.a hq.b
  have x3 := qA hp.b hq.a
  have x4 := qA hp.b hq.b
  have h1 := hp.le
  have h2 := hq.le
  refine p_ends hl (by simp [four]) l1 l2 ((add_W (by decide) hp.a.p hq.a.p hp.a.2 hq.a.2).mono (by decide)) ((add_W (by decide) hp.b.p hq.b.p hp.b.2 hq.b.2).mono (by decide)) (four_ok hp hq rA_ok) (fun r hr => ?_) ⟨_, List.mem_cons_self .., by rw [v1, x1]⟩ (fun r hr => ?_) ⟨rA p.2 q.2, by simp [four], by rw [v2, x4]⟩
  · simp only [four, List.mem_cons, List.not_mem_nil, or_false] at hr
    rcases hr with rfl | rfl | rfl | rfl <;> grind
  · simp only [four, List.mem_cons, List.not_mem_nil, or_false] at hr
    rcases hr with rfl | rfl | rfl | rfl <;> grind
theorem ends_minus {p q : Qt × Qt} {l : Nat} (hp : Spok p) (hq : Spok q) (hl : st[l]? = some ((four rS p q).map dq)) : F__law_ends [ds (addQ p.1 (negQ q.2), addQ p.2 (negQ q.1)), .loc l] st = .ok (.bl true) st := by
  obtain ⟨l1, v1⟩ := low_add hp.a.p (neg_p hq.b)
  obtain ⟨l2, v2⟩ := low_add hp.b.p (neg_p hq.a)
  rw [qv_neg] at v1 v2
  have x1 := qS hp.a hq.a
  have x2 := qS hp.a hq.b
  have x3 := qS hp.b hq.a
  have x4 := qS hp.b hq.b
  have h1 := hp.le
  have h2 := hq.le
  refine p_ends hl (by simp [four]) l1 l2 ((add_W (by decide) hp.a.p (neg_p hq.b) hp.a.2 (negW hq.b.2)).mono (by decide)) ((add_W (by decide) hp.b.p (neg_p hq.a) hp.b.2 (negW hq.a.2)).mono (by decide)) (four_ok hp hq rS_ok) (fun r hr => ?_) ⟨rS p.1 q.2, by simp [four], by grind⟩ (fun r hr => ?_) ⟨rS p.2 q.1, by simp [four], by grind⟩
  · simp only [four, List.mem_cons, List.not_mem_nil, or_false] at hr
    rcases hr with rfl | rfl | rfl | rfl <;> grind
  · simp only [four, List.mem_cons, List.not_mem_nil, or_false] at hr
    rcases hr with rfl | rfl | rfl | rfl <;> grind
/-- the ends of what is made of a list, beside another list of the same values -/
theorem ends_of {qs rs : List Qt} {l : Nat} (hl : st[l]? = some (rs.map dq)) (h0 : qs ≠ []) (hq : ∀ z ∈ qs, Low z ∧ W 3000 z) (hr : ∀ r ∈ rs, 1 ≤ r.2 ∧ W 3000 r) (h1 : ∀ r ∈ rs, ∃ z ∈ qs, qv z = qv r) (h2 : ∀ z ∈ qs, ∃ r ∈ rs, qv r = qv z) : F__law_ends [ds (spanOf qs), .loc l] st = .ok (.bl true) st := by
  obtain ⟨q, qs, rfl⟩ : ∃ q t, qs = q :: t := by
    cases qs with
    | nil => exact absurd rfl h0
    | cons q t => exact ⟨q, t, rfl⟩
  have hf := hq q (List.mem_cons_self ..)
  obtain ⟨⟨m1, l1⟩, ⟨m2, l2⟩⟩ := sp_fold (q :: qs) q q hf.1.1 hf.1.1 fun z hz => (hq z hz).1.1
  have mem : ∀ z, z ∈ q :: q :: qs → z ∈ q :: qs := fun z hz => by
    rcases List.mem_cons.mp hz with k | k
    · rw [k]
      exact List.mem_cons_self ..
    · exact k
  have e : spanOf (q :: qs) = (q :: qs).foldl spStep (q, q) := rfl
  rw [e]
  generalize (q :: qs).foldl spStep (q, q) = lh at *
  have n0 : rs ≠ [] := fun z => by
    obtain ⟨r, hr1, _⟩ := h2 q (List.mem_cons_self ..)
    rw [z] at hr1
    cases hr1
  have a := hq _ (mem _ m1)
  have b := hq _ (mem _ m2)
  refine p_ends (a := lh.1) (b := lh.2) hl n0 a.1 b.1 a.2 b.2 hr (fun r hr1 => ?_) (h2 _ (mem _ m1)) (fun r hr1 => ?_) (h2 _ (mem _ m2))
  · obtain ⟨z, hz, ez⟩ := h1 r hr1
    rw [← ez]
    exact l1 z (List.mem_cons_of_mem _ hz)
  · obtain ⟨z, hz, ez⟩ := h1 r hr1
    rw [← ez]
    exact l2 z (List.mem_cons_of_mem _ hz)
theorem ends_times {p q : Qt × Qt} {l : Nat} (hp : Spok p) (hq : Spok q) (hl : st[l]? = some ((four rM p q).map dq)) : F__law_ends [ds (spanOf (prods p q)), .loc l] st = .ok (.bl true) st := by
  have m : ∀ a b, Qok a → Qok b → qv (mulQ a b) = qv (rM a b) := fun a b ha hb => by rw [(low_mul ha.p hb.p).2, qM ha hb]
  have m1 := m _ _ hp.a hq.a
  have m2 := m _ _ hp.a hq.b
  have m3 := m _ _ hp.b hq.a
  have m4 := m _ _ hp.b hq.b
  refine ends_of hl (by simp [prods]) (fun z hz => ⟨(prods_ok hp hq z hz).1, (prods_ok hp hq z hz).2.mono (by decide)⟩) (four_ok hp hq rM_ok) (fun r hr => ?_) fun z hz => ?_
  · simp only [four, List.mem_cons, List.not_mem_nil, or_false] at hr
    rcases hr with rfl | rfl | rfl | rfl
    · exact ⟨_, by simp [prods], m1⟩
    · exact ⟨_, by simp [prods], m2⟩
    · exact ⟨_, by simp [prods], m3⟩
    · exact ⟨_, by simp [prods], m4⟩
  · simp only [prods, List.mem_cons, List.not_mem_nil, or_false] at hz
    rcases hz with rfl | rfl | rfl | rfl
    · exact ⟨rM p.1 q.1, by simp [four], m1.symm⟩
    · exact ⟨rM p.1 q.2, by simp [four], m2.symm⟩
    · exact ⟨rM p.2 q.1, by simp [four], m3.symm⟩
    · exact ⟨rM p.2 q.2, by simp [four], m4.symm⟩
theorem p_pair {p q : Qt × Qt} (hp : Spok p) (hq : Spok q) : ∃ ex, F__law_pair_of_spans [ds p, ds q] st = .ok (.bl true) (st ++ ex) := by
  refine ⟨_, ev_pair (A := ds p) (B := ds q) pr_start (pr_out hp.a.w hp.b.w hq.a.w hq.b.w) (t1 := ds (addQ p.1 q.1, addQ p.2 q.2)) ?_ (ends_plus hp hq at0) (t2 := ds (addQ p.1 (negQ q.2), addQ p.2 (negQ q.1))) ?_ (ends_minus hp hq at1) (t3 := ds (spanOf (prods p q))) ?_ (ends_times hp hq at2) dsx0 dsx1 dsx0 dsx1
    (p_held hq hp.a) (p_held hq hp.b) ?_ p_truth (p_below hp.b.w hq.a.w) (p_below hq.b.w hp.a.w) ?_ p_truth⟩
  · rw [ask_span_span_plus, p_span_plus hp hq, caught_ok]
  · rw [ask_span_span_minus, p_span_minus hp hq, caught_ok]
  · rw [ask_span_span_times, p_span_times hp hq, caught_ok]
  · rw [ask_span_span_within, p_span_within hp hq, caught_ok]
  · rw [ask_span_spans_apart, p_spans_apart hp hq, caught_ok]
end K00
end Sv
set_option Elab.async false
set_option linter.all false
set_option maxRecDepth 100000
set_option maxHeartbeats 4000000
set_option exponentiation.threshold 10000
namespace Sv
open PySem PySem.Spec PyProof.Rows L2
theorem loopV_inv {t : D → En → Option En} {body : GS} {P Q : En → S → Prop} (hQ : ∀ r st, Q r st → P r st) (h : ∀ d r st, P r st → ∃ r1 r2 st2, t d r = some r1 ∧ body r1 st = .nx r2 st2 ∧ Q r2 st2) : ∀ (ds : List D) (r : En) (st : S), P r st → ds ≠ [] → ∃ r2 st2, loopV t body ds r st = .nx r2 st2 ∧ Q r2 st2
  | [], _, _, _, n => absurd rfl n
  | [d], r, st, p, _ => by
    obtain ⟨r1, r2, st2, e1, e2, q⟩ := h d r st p
    refine ⟨r2, st2, ?_, q⟩
    unfold loopV
    rw [e1]
    dsimp only
    rw [e2]
    rfl
  | d :: d2 :: ds, r, st, p, _ => by
    obtain ⟨r1, r2, st2, e1, e2, q⟩ := h d r st p
    obtain ⟨r3, st3, e3, q3⟩ := loopV_inv hQ h (d2 :: ds) r2 st2 (hQ _ _ q) (by simp)
    refine ⟨r3, st3, ?_, q3⟩
    rw [← e3]
    conv => lhs; unfold loopV
    rw [e1]
    dsimp only
    rw [e2]
theorem seq_if {g h : GS} {r : En} {st : S} {o : O} (e : g r st = .nx r st) (k : h r st = o) : gSeq g h r st = o := by
  rw [ap_seq, e]
  exact k
namespace K00
variable {st : S}
/-! ### quotients, a turn -/
abbrev En8 (l : Nat) (o1 : Option D) (x y : D) (m t b : Int) (d : D) : En := [some (.loc l), o1, some x, some y, some (.int m), some (.int t), some (.int b), some d]
theorem q_s1 {l : Nat} {o1 o2 o3 o4 o5 o6 o7 : Option D} {x y : D} {m : Int} {st1 st2 st3 : S} (e1 : F__law_quotient [.loc l] st = .ok x st1) (e2 : F__law_quotient [.loc l] st1 = .ok y st2) (e3 : F__law_take [.loc l, .int 900] st2 = .ok (.int m) st3) :
    sPar3 2 3 4 (gCons (gDef 1 F__law_quotient (gCons (gVar 0) gNil)) (gCons (gDef 1 F__law_quotient (gCons (gVar 0) gNil)) (gCons (gBin (fAdd false) (gC (.int 1)) (gDef 2 F__law_take (gCons (gVar 0) (gCons (gC (.int 900)) gNil)))) gNil))) [some (.loc l), o1, o2, o3, o4, o5, o6, o7] st =
      .nx [some (.loc l), o1, some x, some y, some (.int (1 + m)), o5, o6, o7] st3 := by
  simp -implicitDefEqProofs only [ap_fnF, ap_seq, ap_skip, ap_if, ap_ret, ap_asg, ap_asg2, ap_drop, ap_par, ap_par3, ap_unp, ap_for, ap_forL, ap_var, ap_c, ap_bin, ap_un, ap_nil, ap_cons, ap_call, ap_def, ap_tr, ap_not, ap_and, ap_or, ap_andv, ap_orv, ap_ife, ap_of, ap_mul, ap_div, ap_mod, ap_sub, ap_addi, ap_lt, ap_le, ap_gt, ap_ge, ap_eqi, ap_nei, ap_eqs, ap_neg, ap_truth, ap_bits, List.length, Nat.reduceSub, Nat.reduceAdd, Nat.reduceLeDiff, List.nil_append, List.cons_append, List.append_nil, List.set, List.getElem?_cons_zero, List.getElem?_cons_succ, List.getElem?_nil, setAll, fNot, eq_self, if_true, if_false, reduceIte, id_eq, decide_true, decide_false, Bool.false_eq_true, Bool.true_eq_false, Bool.not_true, Bool.not_false, Bool.true_or, Bool.false_or, Bool.or_true, Bool.or_false, Bool.true_and, Bool.false_and, Bool.and_true, Bool.and_false,e1, e2, e3]
theorem q_s2 {l : Nat} {o1 o4 o5 o6 o7 : Option D} {x y : D} {v : Int} {st1 : S} {c : Bool} (e1 : F__law_take [.loc l, .int 5] st = .ok (.int v) st1) (h : decide (v = 4) = c) :
    sIf (gTr (gBin fEq (gDef 2 F__law_take (gCons (gVar 0) (gCons (gC (.int 5)) gNil))) (gC (.int 4)))) (sAsg 3 (gVar 2)) gSkip [some (.loc l), o1, some x, some y, o4, o5, o6, o7] st = .nx [some (.loc l), o1, some x, some (if c = true then x else y), o4, o5, o6, o7] st1 := by
  cases c <;> simp -implicitDefEqProofs only [ap_fnF, ap_seq, ap_skip, ap_if, ap_ret, ap_asg, ap_asg2, ap_drop, ap_par, ap_par3, ap_unp, ap_for, ap_forL, ap_var, ap_c, ap_bin, ap_un, ap_nil, ap_cons, ap_call, ap_def, ap_tr, ap_not, ap_and, ap_or, ap_andv, ap_orv, ap_ife, ap_of, ap_mul, ap_div, ap_mod, ap_sub, ap_addi, ap_lt, ap_le, ap_gt, ap_ge, ap_eqi, ap_nei, ap_eqs, ap_neg, ap_truth, ap_bits, List.length, Nat.reduceSub, Nat.reduceAdd, Nat.reduceLeDiff, List.nil_append, List.cons_append, List.append_nil, List.set, List.getElem?_cons_zero, List.getElem?_cons_succ, List.getElem?_nil, setAll, fNot, eq_self, if_true, if_false, reduceIte, id_eq, decide_true, decide_false, Bool.false_eq_true, Bool.true_eq_false, Bool.not_true, Bool.not_false, Bool.true_or, Bool.false_or, Bool.or_true, Bool.or_false, Bool.true_and, Bool.false_and, Bool.and_true, Bool.and_false,e1, h]
theorem q_s3 {o0 o1 o4 o5 o6 o7 : Option D} {x y : Qt} (m1 : MulC x.1 y.2) (m2 : MulC y.1 x.2) :
    sPar 5 6 (gCons (gBin fMul (gBin fIx (gVar 2) (gC (.int 0))) (gBin fIx (gVar 3) (gC (.int 1)))) (gCons (gBin fMul (gBin fIx (gVar 3) (gC (.int 0))) (gBin fIx (gVar 2) (gC (.int 1)))) gNil)) [o0, o1, some (dq x), some (dq y), o4, o5, o6, o7] st = .nx [o0, o1, some (dq x), some (dq y), o4, some (.int (x.1 * y.2)), some (.int (y.1 * x.2)), o7] st := by
  simp -implicitDefEqProofs only [ap_fnF, ap_seq, ap_skip, ap_if, ap_ret, ap_asg, ap_asg2, ap_drop, ap_par, ap_par3, ap_unp, ap_for, ap_forL, ap_var, ap_c, ap_bin, ap_un, ap_nil, ap_cons, ap_call, ap_def, ap_tr, ap_not, ap_and, ap_or, ap_andv, ap_orv, ap_ife, ap_of, ap_mul, ap_div, ap_mod, ap_sub, ap_addi, ap_lt, ap_le, ap_gt, ap_ge, ap_eqi, ap_nei, ap_eqs, ap_neg, ap_truth, ap_bits, List.length, Nat.reduceSub, Nat.reduceAdd, Nat.reduceLeDiff, List.nil_append, List.cons_append, List.append_nil, List.set, List.getElem?_cons_zero, List.getElem?_cons_succ, List.getElem?_nil, setAll, fNot, eq_self, if_true, if_false, reduceIte, id_eq, decide_true, decide_false, Bool.false_eq_true, Bool.true_eq_false, Bool.not_true, Bool.not_false, Bool.true_or, Bool.false_or, Bool.or_true, Bool.or_false, Bool.true_and, Bool.false_and, Bool.and_true, Bool.and_false,ix0, ix1, m1, m2]
section
variable {o0 o1 o4 o7 : Option D} {x y : Qt} {t b : Int} {d : D}
theorem q_s4 (m3 : MulC x.2 y.2) (e1 : F__law_ask [.str "plus", dq x, dq y] st = .ok d st) (e2 : F__law_is [d, .int (t + b), .int (x.2 * y.2)] st = .ok (.bl true) st) :
    sIf (gNot (gTr (gDef 3 F__law_is (gCons (gDef 3 F__law_ask (gCons (gC (.str "plus")) (gCons (gVar 2) (gCons (gVar 3) gNil)))) (gCons (gBin (fAdd false) (gVar 5) (gVar 6)) (gCons (gBin fMul (gBin fIx (gVar 2) (gC (.int 1))) (gBin fIx (gVar 3) (gC (.int 1)))) gNil)))))) (sRet (gC (.bl false))) gSkip [o0, o1, some (dq x), some (dq y), o4, some (.int t), some (.int b), o7] st = .nx [o0, o1, some (dq x), some (dq y), o4, some (.int t), some (.int b), o7] st := by
  simp -implicitDefEqProofs only [ap_fnF, ap_seq, ap_skip, ap_if, ap_ret, ap_asg, ap_asg2, ap_drop, ap_par, ap_par3, ap_unp, ap_for, ap_forL, ap_var, ap_c, ap_bin, ap_un, ap_nil, ap_cons, ap_call, ap_def, ap_tr, ap_not, ap_and, ap_or, ap_andv, ap_orv, ap_ife, ap_of, ap_mul, ap_div, ap_mod, ap_sub, ap_addi, ap_lt, ap_le, ap_gt, ap_ge, ap_eqi, ap_nei, ap_eqs, ap_neg, ap_truth, ap_bits, List.length, Nat.reduceSub, Nat.reduceAdd, Nat.reduceLeDiff, List.nil_append, List.cons_append, List.append_nil, List.set, List.getElem?_cons_zero, List.getElem?_cons_succ, List.getElem?_nil, setAll, fNot, eq_self, if_true, if_false, reduceIte, id_eq, decide_true, decide_false, Bool.false_eq_true, Bool.true_eq_false, Bool.not_true, Bool.not_false, Bool.true_or, Bool.false_or, Bool.or_true, Bool.or_false, Bool.true_and, Bool.false_and, Bool.and_true, Bool.and_false,ix0, ix1, m3, e1, e2]
theorem q_s5 (m3 : MulC x.2 y.2) (e1 : F__law_ask [.str "minus", dq x, dq y] st = .ok d st) (e2 : F__law_is [d, .int (t - b), .int (x.2 * y.2)] st = .ok (.bl true) st) :
    sIf (gNot (gTr (gDef 3 F__law_is (gCons (gDef 3 F__law_ask (gCons (gC (.str "minus")) (gCons (gVar 2) (gCons (gVar 3) gNil)))) (gCons (gBin fSub (gVar 5) (gVar 6)) (gCons (gBin fMul (gBin fIx (gVar 2) (gC (.int 1))) (gBin fIx (gVar 3) (gC (.int 1)))) gNil)))))) (sRet (gC (.bl false))) gSkip [o0, o1, some (dq x), some (dq y), o4, some (.int t), some (.int b), o7] st = .nx [o0, o1, some (dq x), some (dq y), o4, some (.int t), some (.int b), o7] st := by
  simp -implicitDefEqProofs only [ap_fnF, ap_seq, ap_skip, ap_if, ap_ret, ap_asg, ap_asg2, ap_drop, ap_par, ap_par3, ap_unp, ap_for, ap_forL, ap_var, ap_c, ap_bin, ap_un, ap_nil, ap_cons, ap_call, ap_def, ap_tr, ap_not, ap_and, ap_or, ap_andv, ap_orv, ap_ife, ap_of, ap_mul, ap_div, ap_mod, ap_sub, ap_addi, ap_lt, ap_le, ap_gt, ap_ge, ap_eqi, ap_nei, ap_eqs, ap_neg, ap_truth, ap_bits, List.length, Nat.reduceSub, Nat.reduceAdd, Nat.reduceLeDiff, List.nil_append, List.cons_append, List.append_nil, List.set, List.getElem?_cons_zero, List.getElem?_cons_succ, List.getElem?_nil, setAll, fNot, eq_self, if_true, if_false, reduceIte, id_eq, decide_true, decide_false, Bool.false_eq_true, Bool.true_eq_false, Bool.not_true, Bool.not_false, Bool.true_or, Bool.false_or, Bool.or_true, Bool.or_false, Bool.true_and, Bool.false_and, Bool.and_true, Bool.and_false,ix0, ix1, m3, e1, e2]
theorem q_s6 (m3 : MulC x.2 y.2) (m4 : MulC x.1 y.1) (e1 : F__law_ask [.str "times", dq x, dq y] st = .ok d st) (e2 : F__law_is [d, .int (x.1 * y.1), .int (x.2 * y.2)] st = .ok (.bl true) st) :
    sIf (gNot (gTr (gDef 3 F__law_is (gCons (gDef 3 F__law_ask (gCons (gC (.str "times")) (gCons (gVar 2) (gCons (gVar 3) gNil)))) (gCons (gBin fMul (gBin fIx (gVar 2) (gC (.int 0))) (gBin fIx (gVar 3) (gC (.int 0)))) (gCons (gBin fMul (gBin fIx (gVar 2) (gC (.int 1))) (gBin fIx (gVar 3) (gC (.int 1)))) gNil)))))) (sRet (gC (.bl false))) gSkip [o0, o1, some (dq x), some (dq y), o4, some (.int t), some (.int b), o7] st = .nx [o0, o1, some (dq x), some (dq y), o4, some (.int t), some (.int b), o7] st := by
  simp -implicitDefEqProofs only [ap_fnF, ap_seq, ap_skip, ap_if, ap_ret, ap_asg, ap_asg2, ap_drop, ap_par, ap_par3, ap_unp, ap_for, ap_forL, ap_var, ap_c, ap_bin, ap_un, ap_nil, ap_cons, ap_call, ap_def, ap_tr, ap_not, ap_and, ap_or, ap_andv, ap_orv, ap_ife, ap_of, ap_mul, ap_div, ap_mod, ap_sub, ap_addi, ap_lt, ap_le, ap_gt, ap_ge, ap_eqi, ap_nei, ap_eqs, ap_neg, ap_truth, ap_bits, List.length, Nat.reduceSub, Nat.reduceAdd, Nat.reduceLeDiff, List.nil_append, List.cons_append, List.append_nil, List.set, List.getElem?_cons_zero, List.getElem?_cons_succ, List.getElem?_nil, setAll, fNot, eq_self, if_true, if_false, reduceIte, id_eq, decide_true, decide_false, Bool.false_eq_true, Bool.true_eq_false, Bool.not_true, Bool.not_false, Bool.true_or, Bool.false_or, Bool.or_true, Bool.or_false, Bool.true_and, Bool.false_and, Bool.and_true, Bool.and_false,ix0, ix1, m3, m4, e1, e2]
theorem q_s7 (e1 : F__law_ask [.str "less", dq x, dq y] st = .ok d st) (e2 : F__law_truth [d, .bl (decide (t < b))] st = .ok (.bl true) st) :
    sIf (gNot (gTr (gDef 2 F__law_truth (gCons (gDef 3 F__law_ask (gCons (gC (.str "less")) (gCons (gVar 2) (gCons (gVar 3) gNil)))) (gCons (gBin fLt (gVar 5) (gVar 6)) gNil))))) (sRet (gC (.bl false))) gSkip [o0, o1, some (dq x), some (dq y), o4, some (.int t), some (.int b), o7] st = .nx [o0, o1, some (dq x), some (dq y), o4, some (.int t), some (.int b), o7] st := by
  simp -implicitDefEqProofs only [ap_fnF, ap_seq, ap_skip, ap_if, ap_ret, ap_asg, ap_asg2, ap_drop, ap_par, ap_par3, ap_unp, ap_for, ap_forL, ap_var, ap_c, ap_bin, ap_un, ap_nil, ap_cons, ap_call, ap_def, ap_tr, ap_not, ap_and, ap_or, ap_andv, ap_orv, ap_ife, ap_of, ap_mul, ap_div, ap_mod, ap_sub, ap_addi, ap_lt, ap_le, ap_gt, ap_ge, ap_eqi, ap_nei, ap_eqs, ap_neg, ap_truth, ap_bits, List.length, Nat.reduceSub, Nat.reduceAdd, Nat.reduceLeDiff, List.nil_append, List.cons_append, List.append_nil, List.set, List.getElem?_cons_zero, List.getElem?_cons_succ, List.getElem?_nil, setAll, fNot, eq_self, if_true, if_false, reduceIte, id_eq, decide_true, decide_false, Bool.false_eq_true, Bool.true_eq_false, Bool.not_true, Bool.not_false, Bool.true_or, Bool.false_or, Bool.or_true, Bool.or_false, Bool.true_and, Bool.false_and, Bool.and_true, Bool.and_false,e1, e2]
theorem q_s8 (e1 : F__law_ask [.str "over", dq x, dq y] st = .ok d st) :
    sAsg 7 (gDef 3 F__law_ask (gCons (gC (.str "over")) (gCons (gVar 2) (gCons (gVar 3) gNil)))) [o0, o1, some (dq x), some (dq y), o4, some (.int t), some (.int b), o7] st = .nx [o0, o1, some (dq x), some (dq y), o4, some (.int t), some (.int b), some d] st := by
  simp -implicitDefEqProofs only [ap_fnF, ap_seq, ap_skip, ap_if, ap_ret, ap_asg, ap_asg2, ap_drop, ap_par, ap_par3, ap_unp, ap_for, ap_forL, ap_var, ap_c, ap_bin, ap_un, ap_nil, ap_cons, ap_call, ap_def, ap_tr, ap_not, ap_and, ap_or, ap_andv, ap_orv, ap_ife, ap_of, ap_mul, ap_div, ap_mod, ap_sub, ap_addi, ap_lt, ap_le, ap_gt, ap_ge, ap_eqi, ap_nei, ap_eqs, ap_neg, ap_truth, ap_bits, List.length, Nat.reduceSub, Nat.reduceAdd, Nat.reduceLeDiff, List.nil_append, List.cons_append, List.append_nil, List.set, List.getElem?_cons_zero, List.getElem?_cons_succ, List.getElem?_nil, setAll, fNot, eq_self, if_true, if_false, reduceIte, id_eq, decide_true, decide_false, Bool.false_eq_true, Bool.true_eq_false, Bool.not_true, Bool.not_false, Bool.true_or, Bool.false_or, Bool.or_true, Bool.or_false, Bool.true_and, Bool.false_and, Bool.and_true, Bool.and_false,e1]
theorem mk_ref {w : Str} {r : En} : gCall fTup (gCons (gC (.str w)) (gCons (gUn fNeg (gC (.int 1))) (gCons (gC (.str "refused")) gNil))) r st = .ok (refd w) st := rfl
theorem q_s9a (h : decide (b = 0) = true) (e : F__law_same [d, refd "other"] st = .ok (.bl true) st) :
    sIf (gAnd (gTr (gBin fEq (gVar 6) (gC (.int 0)))) (gNot (gTr (gDef 2 F__law_same (gCons (gVar 7) (gCons (gCall fTup (gCons (gC (.str "other")) (gCons (gUn fNeg (gC (.int 1))) (gCons (gC (.str "refused")) gNil)))) gNil)))))) (sRet (gC (.bl false))) gSkip [o0, o1, some (dq x), some (dq y), o4, some (.int t), some (.int b), some d] st = .nx [o0, o1, some (dq x), some (dq y), o4, some (.int t), some (.int b), some d] st := by
  have e3 := mk_ref (st := st) (w := "other") (r := [o0, o1, some (dq x), some (dq y), o4, some (.int t), some (.int b), some d])
  generalize gCall fTup (gCons (gC (.str "other")) (gCons (gUn fNeg (gC (.int 1))) (gCons (gC (.str "refused")) gNil))) = gg at e3 ⊢
  simp -implicitDefEqProofs only [ap_fnF, ap_seq, ap_skip, ap_if, ap_ret, ap_asg, ap_asg2, ap_drop, ap_par, ap_par3, ap_unp, ap_for, ap_forL, ap_var, ap_c, ap_bin, ap_un, ap_nil, ap_cons, ap_call, ap_def, ap_tr, ap_not, ap_and, ap_or, ap_andv, ap_orv, ap_ife, ap_of, ap_mul, ap_div, ap_mod, ap_sub, ap_addi, ap_lt, ap_le, ap_gt, ap_ge, ap_eqi, ap_nei, ap_eqs, ap_neg, ap_truth, ap_bits, List.length, Nat.reduceSub, Nat.reduceAdd, Nat.reduceLeDiff, List.nil_append, List.cons_append, List.append_nil, List.set, List.getElem?_cons_zero, List.getElem?_cons_succ, List.getElem?_nil, setAll, fNot, eq_self, if_true, if_false, reduceIte, id_eq, decide_true, decide_false, Bool.false_eq_true, Bool.true_eq_false, Bool.not_true, Bool.not_false, Bool.true_or, Bool.false_or, Bool.or_true, Bool.or_false, Bool.true_and, Bool.false_and, Bool.and_true, Bool.and_false,h, e, e3]
theorem q_s9b (h : decide (b = 0) = false) :
    sIf (gAnd (gTr (gBin fEq (gVar 6) (gC (.int 0)))) (gNot (gTr (gDef 2 F__law_same (gCons (gVar 7) (gCons (gCall fTup (gCons (gC (.str "other")) (gCons (gUn fNeg (gC (.int 1))) (gCons (gC (.str "refused")) gNil)))) gNil)))))) (sRet (gC (.bl false))) gSkip [o0, o1, some (dq x), some (dq y), o4, some (.int t), some (.int b), some d] st = .nx [o0, o1, some (dq x), some (dq y), o4, some (.int t), some (.int b), some d] st := by
  simp -implicitDefEqProofs only [ap_fnF, ap_seq, ap_skip, ap_if, ap_ret, ap_asg, ap_asg2, ap_drop, ap_par, ap_par3, ap_unp, ap_for, ap_forL, ap_var, ap_c, ap_bin, ap_un, ap_nil, ap_cons, ap_call, ap_def, ap_tr, ap_not, ap_and, ap_or, ap_andv, ap_orv, ap_ife, ap_of, ap_mul, ap_div, ap_mod, ap_sub, ap_addi, ap_lt, ap_le, ap_gt, ap_ge, ap_eqi, ap_nei, ap_eqs, ap_neg, ap_truth, ap_bits, List.length, Nat.reduceSub, Nat.reduceAdd, Nat.reduceLeDiff, List.nil_append, List.cons_append, List.append_nil, List.set, List.getElem?_cons_zero, List.getElem?_cons_succ, List.getElem?_nil, setAll, fNot, eq_self, if_true, if_false, reduceIte, id_eq, decide_true, decide_false, Bool.false_eq_true, Bool.true_eq_false, Bool.not_true, Bool.not_false, Bool.true_or, Bool.false_or, Bool.or_true, Bool.or_false, Bool.true_and, Bool.false_and, Bool.and_true, Bool.and_false,h]
theorem q_s10a (h : decide (b = 0) = true) :
    sIf (gAnd (gTr (gBin fNe (gVar 6) (gC (.int 0)))) (gNot (gTr (gDef 3 F__law_is (gCons (gVar 7) (gCons (gVar 5) (gCons (gVar 6) gNil))))))) (sRet (gC (.bl false))) gSkip [o0, o1, some (dq x), some (dq y), o4, some (.int t), some (.int b), some d] st = .nx [o0, o1, some (dq x), some (dq y), o4, some (.int t), some (.int b), some d] st := by
  simp -implicitDefEqProofs only [ap_fnF, ap_seq, ap_skip, ap_if, ap_ret, ap_asg, ap_asg2, ap_drop, ap_par, ap_par3, ap_unp, ap_for, ap_forL, ap_var, ap_c, ap_bin, ap_un, ap_nil, ap_cons, ap_call, ap_def, ap_tr, ap_not, ap_and, ap_or, ap_andv, ap_orv, ap_ife, ap_of, ap_mul, ap_div, ap_mod, ap_sub, ap_addi, ap_lt, ap_le, ap_gt, ap_ge, ap_eqi, ap_nei, ap_eqs, ap_neg, ap_truth, ap_bits, List.length, Nat.reduceSub, Nat.reduceAdd, Nat.reduceLeDiff, List.nil_append, List.cons_append, List.append_nil, List.set, List.getElem?_cons_zero, List.getElem?_cons_succ, List.getElem?_nil, setAll, fNot, eq_self, if_true, if_false, reduceIte, id_eq, decide_true, decide_false, Bool.false_eq_true, Bool.true_eq_false, Bool.not_true, Bool.not_false, Bool.true_or, Bool.false_or, Bool.or_true, Bool.or_false, Bool.true_and, Bool.false_and, Bool.and_true, Bool.and_false,h]
theorem q_s10b (h : decide (b = 0) = false) (e : F__law_is [d, .int t, .int b] st = .ok (.bl true) st) :
    sIf (gAnd (gTr (gBin fNe (gVar 6) (gC (.int 0)))) (gNot (gTr (gDef 3 F__law_is (gCons (gVar 7) (gCons (gVar 5) (gCons (gVar 6) gNil))))))) (sRet (gC (.bl false))) gSkip [o0, o1, some (dq x), some (dq y), o4, some (.int t), some (.int b), some d] st = .nx [o0, o1, some (dq x), some (dq y), o4, some (.int t), some (.int b), some d] st := by
  simp -implicitDefEqProofs only [ap_fnF, ap_seq, ap_skip, ap_if, ap_ret, ap_asg, ap_asg2, ap_drop, ap_par, ap_par3, ap_unp, ap_for, ap_forL, ap_var, ap_c, ap_bin, ap_un, ap_nil, ap_cons, ap_call, ap_def, ap_tr, ap_not, ap_and, ap_or, ap_andv, ap_orv, ap_ife, ap_of, ap_mul, ap_div, ap_mod, ap_sub, ap_addi, ap_lt, ap_le, ap_gt, ap_ge, ap_eqi, ap_nei, ap_eqs, ap_neg, ap_truth, ap_bits, List.length, Nat.reduceSub, Nat.reduceAdd, Nat.reduceLeDiff, List.nil_append, List.cons_append, List.append_nil, List.set, List.getElem?_cons_zero, List.getElem?_cons_succ, List.getElem?_nil, setAll, fNot, eq_self, if_true, if_false, reduceIte, id_eq, decide_true, decide_false, Bool.false_eq_true, Bool.true_eq_false, Bool.not_true, Bool.not_false, Bool.true_or, Bool.false_or, Bool.or_true, Bool.or_false, Bool.true_and, Bool.false_and, Bool.and_true, Bool.and_false,h, e]
theorem q_s11 {l : Nat} {o5 o6 : Option D} {st1 st2 : S} (e1 : F__law_whole [.loc l] st = .ok (.int t) st1) (e2 : F__law_whole [.loc l] st1 = .ok (.int b) st2) :
    sPar 5 6 (gCons (gDef 1 F__law_whole (gCons (gVar 0) gNil)) (gCons (gDef 1 F__law_whole (gCons (gVar 0) gNil)) gNil)) [some (.loc l), o1, some (dq x), some (dq y), o4, o5, o6, o7] st = .nx [some (.loc l), o1, some (dq x), some (dq y), o4, some (.int t), some (.int b), o7] st2 := by
  simp -implicitDefEqProofs only [ap_fnF, ap_seq, ap_skip, ap_if, ap_ret, ap_asg, ap_asg2, ap_drop, ap_par, ap_par3, ap_unp, ap_for, ap_forL, ap_var, ap_c, ap_bin, ap_un, ap_nil, ap_cons, ap_call, ap_def, ap_tr, ap_not, ap_and, ap_or, ap_andv, ap_orv, ap_ife, ap_of, ap_mul, ap_div, ap_mod, ap_sub, ap_addi, ap_lt, ap_le, ap_gt, ap_ge, ap_eqi, ap_nei, ap_eqs, ap_neg, ap_truth, ap_bits, List.length, Nat.reduceSub, Nat.reduceAdd, Nat.reduceLeDiff, List.nil_append, List.cons_append, List.append_nil, List.set, List.getElem?_cons_zero, List.getElem?_cons_succ, List.getElem?_nil, setAll, fNot, eq_self, if_true, if_false, reduceIte, id_eq, decide_true, decide_false, Bool.false_eq_true, Bool.true_eq_false, Bool.not_true, Bool.not_false, Bool.true_or, Bool.false_or, Bool.or_true, Bool.or_false, Bool.true_and, Bool.false_and, Bool.and_true, Bool.and_false,e1, e2]
theorem q_s12 {m : Int} {c1 c2 : Bool} (h1 : decide (absI t < 100000) = c1) (h2 : decide (absI b < 100000) = c2) (m1 : MulC t m) (m2 : MulC b m) :
    sIf (gAnd (gTr (gBin fLt (gCall fAbs (gCons (gVar 5) gNil)) (gC (.int 100000)))) (gTr (gBin fLt (gCall fAbs (gCons (gVar 6) gNil)) (gC (.int 100000))))) (sPar 5 6 (gCons (gBin fMul (gVar 5) (gVar 4)) (gCons (gBin fMul (gVar 6) (gVar 4)) gNil))) gSkip [o0, o1, some (dq x), some (dq y), some (.int m), some (.int t), some (.int b), o7] st =
      .nx [o0, o1, some (dq x), some (dq y), some (.int m), some (.int (if (c1 && c2) = true then t * m else t)), some (.int (if (c1 && c2) = true then b * m else b)), o7] st := by
  have f1 := fabs (st := st) (i := t)
  have f2 := fabs (st := st) (i := b)
  cases c1 <;> cases c2 <;> simp -implicitDefEqProofs only [ap_fnF, ap_seq, ap_skip, ap_if, ap_ret, ap_asg, ap_asg2, ap_drop, ap_par, ap_par3, ap_unp, ap_for, ap_forL, ap_var, ap_c, ap_bin, ap_un, ap_nil, ap_cons, ap_call, ap_def, ap_tr, ap_not, ap_and, ap_or, ap_andv, ap_orv, ap_ife, ap_of, ap_mul, ap_div, ap_mod, ap_sub, ap_addi, ap_lt, ap_le, ap_gt, ap_ge, ap_eqi, ap_nei, ap_eqs, ap_neg, ap_truth, ap_bits, List.length, Nat.reduceSub, Nat.reduceAdd, Nat.reduceLeDiff, List.nil_append, List.cons_append, List.append_nil, List.set, List.getElem?_cons_zero, List.getElem?_cons_succ, List.getElem?_nil, setAll, fNot, eq_self, if_true, if_false, reduceIte, id_eq, decide_true, decide_false, Bool.false_eq_true, Bool.true_eq_false, Bool.not_true, Bool.not_false, Bool.true_or, Bool.false_or, Bool.or_true, Bool.or_false, Bool.true_and, Bool.false_and, Bool.and_true, Bool.and_false,f1, f2, h1, h2, m1, m2]
theorem q_s13 {m : Int} {c : Bool} (h : decide (b = 0) = c) :
    sIf (gTr (gBin fEq (gVar 6) (gC (.int 0)))) (sAsg 6 (gUn fNeg (gVar 4))) gSkip [o0, o1, some (dq x), some (dq y), some (.int m), some (.int t), some (.int b), o7] st = .nx [o0, o1, some (dq x), some (dq y), some (.int m), some (.int t), some (.int (if c = true then -m else b)), o7] st := by
  cases c <;> simp -implicitDefEqProofs only [ap_fnF, ap_seq, ap_skip, ap_if, ap_ret, ap_asg, ap_asg2, ap_drop, ap_par, ap_par3, ap_unp, ap_for, ap_forL, ap_var, ap_c, ap_bin, ap_un, ap_nil, ap_cons, ap_call, ap_def, ap_tr, ap_not, ap_and, ap_or, ap_andv, ap_orv, ap_ife, ap_of, ap_mul, ap_div, ap_mod, ap_sub, ap_addi, ap_lt, ap_le, ap_gt, ap_ge, ap_eqi, ap_nei, ap_eqs, ap_neg, ap_truth, ap_bits, List.length, Nat.reduceSub, Nat.reduceAdd, Nat.reduceLeDiff, List.nil_append, List.cons_append, List.append_nil, List.set, List.getElem?_cons_zero, List.getElem?_cons_succ, List.getElem?_nil, setAll, fNot, eq_self, if_true, if_false, reduceIte, id_eq, decide_true, decide_false, Bool.false_eq_true, Bool.true_eq_false, Bool.not_true, Bool.not_false, Bool.true_or, Bool.false_or, Bool.or_true, Bool.or_false, Bool.true_and, Bool.false_and, Bool.and_true, Bool.and_false,h]
theorem q_s14 (e1 : F__law_ask [.str "quotient_of", .int t, .int b] st = .ok d st) (e2 : F__law_is [d, .int t, .int b] st = .ok (.bl true) st) :
    sIf (gNot (gTr (gDef 3 F__law_is (gCons (gDef 3 F__law_ask (gCons (gC (.str "quotient_of")) (gCons (gVar 5) (gCons (gVar 6) gNil)))) (gCons (gVar 5) (gCons (gVar 6) gNil)))))) (sRet (gC (.bl false))) gSkip [o0, o1, some (dq x), some (dq y), o4, some (.int t), some (.int b), o7] st = .nx [o0, o1, some (dq x), some (dq y), o4, some (.int t), some (.int b), o7] st := by
  simp -implicitDefEqProofs only [ap_fnF, ap_seq, ap_skip, ap_if, ap_ret, ap_asg, ap_asg2, ap_drop, ap_par, ap_par3, ap_unp, ap_for, ap_forL, ap_var, ap_c, ap_bin, ap_un, ap_nil, ap_cons, ap_call, ap_def, ap_tr, ap_not, ap_and, ap_or, ap_andv, ap_orv, ap_ife, ap_of, ap_mul, ap_div, ap_mod, ap_sub, ap_addi, ap_lt, ap_le, ap_gt, ap_ge, ap_eqi, ap_nei, ap_eqs, ap_neg, ap_truth, ap_bits, List.length, Nat.reduceSub, Nat.reduceAdd, Nat.reduceLeDiff, List.nil_append, List.cons_append, List.append_nil, List.set, List.getElem?_cons_zero, List.getElem?_cons_succ, List.getElem?_nil, setAll, fNot, eq_self, if_true, if_false, reduceIte, id_eq, decide_true, decide_false, Bool.false_eq_true, Bool.true_eq_false, Bool.not_true, Bool.not_false, Bool.true_or, Bool.false_or, Bool.or_true, Bool.or_false, Bool.true_and, Bool.false_and, Bool.and_true, Bool.and_false,e1, e2]
theorem q_s15 (e1 : F_quotient_of [.int t, .int b] st = .ok d st) (e2 : F__law_same [d, d] st = .ok (.bl true) st) :
    sIf (gNot (gTr (gDef 2 F__law_same (gCons (gKw 2 2 [1, 0] F_quotient_of (gCons (gVar 6) (gCons (gVar 5) gNil))) (gCons (gDef 2 F_quotient_of (gCons (gVar 5) (gCons (gVar 6) gNil))) gNil))))) (sRet (gC (.bl false))) gSkip [o0, o1, some (dq x), some (dq y), o4, some (.int t), some (.int b), o7] st = .nx [o0, o1, some (dq x), some (dq y), o4, some (.int t), some (.int b), o7] st := by
  have k : gKw 2 2 [1, 0] F_quotient_of (gCons (gVar 6) (gCons (gVar 5) gNil)) [o0, o1, some (dq x), some (dq y), o4, some (.int t), some (.int b), o7] st = .ok d st := kw2 rfl rfl e1
  simp -implicitDefEqProofs only [ap_fnF, ap_seq, ap_skip, ap_if, ap_ret, ap_asg, ap_asg2, ap_drop, ap_par, ap_par3, ap_unp, ap_for, ap_forL, ap_var, ap_c, ap_bin, ap_un, ap_nil, ap_cons, ap_call, ap_def, ap_tr, ap_not, ap_and, ap_or, ap_andv, ap_orv, ap_ife, ap_of, ap_mul, ap_div, ap_mod, ap_sub, ap_addi, ap_lt, ap_le, ap_gt, ap_ge, ap_eqi, ap_nei, ap_eqs, ap_neg, ap_truth, ap_bits, List.length, Nat.reduceSub, Nat.reduceAdd, Nat.reduceLeDiff, List.nil_append, List.cons_append, List.append_nil, List.set, List.getElem?_cons_zero, List.getElem?_cons_succ, List.getElem?_nil, setAll, fNot, eq_self, if_true, if_false, reduceIte, id_eq, decide_true, decide_false, Bool.false_eq_true, Bool.true_eq_false, Bool.not_true, Bool.not_false, Bool.true_or, Bool.false_or, Bool.or_true, Bool.or_false, Bool.true_and, Bool.false_and, Bool.and_true, Bool.and_false,k, e1, e2]
end
theorem is_of {q : Qt} {t b : Int} (h : Low q) (w : W 3000 q) (ht : t.natAbs < 2 ^ 3000) (hb : b.natAbs < 2 ^ 3000) (e : q.1 * b = t * q.2) : F__law_is [dq q, .int t, .int b] st = .ok (.bl true) st := p_is (r := (t, b)) h w ⟨ht, hb⟩ e
theorem lt3000 {i : Int} {n : Nat} (h : i.natAbs < 2 ^ n) (hn : n ≤ 3000) : i.natAbs < 2 ^ 3000 := Nat.lt_of_lt_of_le h (Nat.pow_le_pow_right (by decide) hn)
theorem q_turn {l : Nat} {o1 o2 o3 o4 o5 o6 o7 : Option D} (h : Row st l) : ∃ x y m t b d st', b__law_quotients_1 [some (.loc l), o1, o2, o3, o4, o5, o6, o7] st = .nx (En8 l o1 (dq x) (dq y) m t b d) st' ∧ Qok x ∧ Qok y ∧ Row st' l := by
  obtain ⟨x, st1, e1, hx, r1⟩ := p_quotient h
  obtain ⟨y0, st2, e2, hy0, r2⟩ := p_quotient r1
  obtain ⟨m, st3, e3, m0, m1, r3⟩ := p_draw 900 r2 (by decide)
  obtain ⟨v, st4, e4, v0, v1, r4⟩ := p_draw 5 r3 (by decide)
  obtain ⟨t, st5, e5, t1, r5⟩ := p_whole r4
  obtain ⟨b, st6, e6, b1, r6⟩ := p_whole r5
  obtain ⟨y, ey, hy⟩ : ∃ y, (if decide (v = 4) = true then dq x else dq y0) = dq y ∧ Qok y := by
    by_cases z : v = 4
    · exact ⟨x, if_pos (decide_eq_true z), hx⟩
    · exact ⟨y0, if_neg (by simpa using z), hy0⟩
  have s2 := q_s2 (o1 := o1) (o4 := some (.int (1 + m))) (o5 := o5) (o6 := o6) (o7 := o7) (x := dq x) (y := dq y0) e4 rfl
  rw [ey] at s2
  have w11 : MulC x.1 y.2 := mulc hx.w.1 hy.w.2 (by decide) (by decide)
  have w12 : MulC y.1 x.2 := mulc hy.w.1 hx.w.2 (by decide) (by decide)
  have w13 : MulC x.2 y.2 := mulc hx.w.2 hy.w.2 (by decide) (by decide)
  have w14 : MulC x.1 y.1 := mulc hx.w.1 hy.w.1 (by decide) (by decide)
  have b11 := mul_lt hx.2.1 hy.2.2
  have b12 := mul_lt hy.2.1 hx.2.2
  have b13 := mul_lt hx.2.2 hy.2.2
  have b14 := mul_lt hx.2.1 hy.2.1
  -- plus, minus, times, less, over
  have ap : F__law_ask [.str "plus", dq x, dq y] st4 = .ok (dq (addQ x y)) st4 := by rw [ask_plus, p_plus hx.w hy.w hx.p hy.q, caught_ok]
  have am : F__law_ask [.str "minus", dq x, dq y] st4 = .ok (dq (addQ x (negQ y))) st4 := by rw [ask_minus, p_minus hx.w hy.w hx.p hy.q, caught_ok]
  have at' : F__law_ask [.str "times", dq x, dq y] st4 = .ok (dq (mulQ x y)) st4 := by rw [ask_times, p_times hx.w hy.w hx.p hy.q, caught_ok]
  have al : F__law_ask [.str "less", dq x, dq y] st4 = .ok (.bl (ltQ x y)) st4 := by rw [ask_less, p_less hx.w hy.w hy.q, caught_ok]
  obtain ⟨lp, vp⟩ := low_add hx.p hy.p
  obtain ⟨lm, vm⟩ := low_add hx.p (neg_p hy)
  obtain ⟨lt', vt⟩ := low_mul hx.p hy.p
  rw [qv_neg] at vm
  have ip : F__law_is [dq (addQ x y), .int (x.1 * y.2 + y.1 * x.2), .int (x.2 * y.2)] st4 = .ok (.bl true) st4 := by
    have z := rA_ok x y hx hy
    refine p_is (r := rA x y) lp ((add_W (by decide) hx.p hy.p hx.2 hy.2).mono (by decide)) z.2 ((qv_eq lp.1 z.1).mp ?_)
    rw [vp, qA hx hy]
  have im : F__law_is [dq (addQ x (negQ y)), .int (x.1 * y.2 - y.1 * x.2), .int (x.2 * y.2)] st4 = .ok (.bl true) st4 := by
    have z := rS_ok x y hx hy
    refine p_is (r := rS x y) lm ((add_W (by decide) hx.p (neg_p hy) hx.2 (negW hy.2)).mono (by decide)) z.2 ((qv_eq lm.1 z.1).mp ?_)
    rw [vm, qS hx hy]
    grind
  have it : F__law_is [dq (mulQ x y), .int (x.1 * y.1), .int (x.2 * y.2)] st4 = .ok (.bl true) st4 := by
    have z := rM_ok x y hx hy
    refine p_is (r := rM x y) lt' ((mul_W (by decide) hx.p hy.p hx.2 hy.2).mono (by decide)) z.2 ((qv_eq lt'.1 z.1).mp ?_)
    rw [vt, qM hx hy]
  have il : F__law_truth [.bl (ltQ x y), .bl (decide (x.1 * y.2 < y.1 * x.2))] st4 = .ok (.bl true) st4 := p_truth
  -- over
  obtain ⟨d, ao, k9, k10⟩ : ∃ d, F__law_ask [.str "over", dq x, dq y] st4 = .ok d st4 ∧
      (sIf (gAnd (gTr (gBin fEq (gVar 6) (gC (.int 0)))) (gNot (gTr (gDef 2 F__law_same (gCons (gVar 7) (gCons (gCall fTup (gCons (gC (.str "other")) (gCons (gUn fNeg (gC (.int 1))) (gCons (gC (.str "refused")) gNil)))) gNil)))))) (sRet (gC (.bl false))) gSkip [some (.loc l), o1, some (dq x), some (dq y), some (.int (1 + m)), some (.int (x.1 * y.2)), some (.int (y.1 * x.2)), some d] st4 = .nx [some (.loc l), o1, some (dq x), some (dq y), some (.int (1 + m)), some (.int (x.1 * y.2)), some (.int (y.1 * x.2)), some d] st4) ∧
      (sIf (gAnd (gTr (gBin fNe (gVar 6) (gC (.int 0)))) (gNot (gTr (gDef 3 F__law_is (gCons (gVar 7) (gCons (gVar 5) (gCons (gVar 6) gNil))))))) (sRet (gC (.bl false))) gSkip [some (.loc l), o1, some (dq x), some (dq y), some (.int (1 + m)), some (.int (x.1 * y.2)), some (.int (y.1 * x.2)), some d] st4 = .nx [some (.loc l), o1, some (dq x), some (dq y), some (.int (1 + m)), some (.int (x.1 * y.2)), some (.int (y.1 * x.2)), some d] st4) := by
    have px2 := hx.p
    by_cases z : y.1 = 0
    · have ey0 : y = (0, 1) := by
        have g := hy.1.2
        have p := hy.p
        obtain ⟨a, c⟩ := y
        dsimp only at z g p
        subst z
        have : Int.gcd 0 c = c.natAbs := Int.gcd_zero_left c
        rw [this] at g
        have : c = 1 := by omega
        rw [this]
      have hz : decide (y.1 * x.2 = 0) = true := decide_eq_true (by rw [z, Int.zero_mul])
      refine ⟨refd "other", ?_, q_s9a hz (p_same (sm_refd (by decide))), q_s10a hz⟩
      rw [ask_over, ey0, p_over_nought, caught_no]
    · have hz : decide (y.1 * x.2 = 0) = false := decide_eq_false (Int.mul_ne_zero z (by omega))
      obtain ⟨ld, vd⟩ := low_div hx.p hy.p z
      refine ⟨dq (divQ x y), ?_, q_s9b hz, q_s10b hz (is_of ld ((div_W hx.p z hx.2 hy.2).mono (by decide)) (lt3000 b11 (by decide)) (lt3000 b12 (by decide)) ?_)⟩
      · rw [ask_over, p_over hx.w hy.w hx.p hy.q z, caught_ok]
      · rw [Int.mul_comm y.1 x.2]
        exact vd
  -- quotient_of
  have mm : (1 + m).natAbs < 2 ^ 10 := by omega
  have tW : t.natAbs < 2 ^ 40 := p40 t1
  have bW : b.natAbs < 2 ^ 40 := p40 b1
  obtain ⟨t', b', et, eb, tW', bW'⟩ : ∃ t' b' : Int, (if (decide (absI t < 100000) && decide (absI b < 100000)) = true then t * (1 + m) else t) = t' ∧ (if (decide (absI t < 100000) && decide (absI b < 100000)) = true then b * (1 + m) else b) = b' ∧ t'.natAbs < 2 ^ 50 ∧ b'.natAbs < 2 ^ 50 := by
    refine ⟨_, _, rfl, rfl, ?_, ?_⟩
    · split
      · exact mul_lt tW mm
      · omega
    · split
      · exact mul_lt bW mm
      · omega
  have s12 := q_s12 (st := st6) (o0 := some (.loc l)) (o1 := o1) (o7 := some d) (x := x) (y := y) (t := t) (b := b) (m := 1 + m) rfl rfl (mulc (lt3000 tW (by decide)) (lt3000 mm (by decide)) (by decide) (by decide)) (mulc (lt3000 bW (by decide)) (lt3000 mm (by decide)) (by decide) (by decide))
  rw [et, eb] at s12
  obtain ⟨b2, eb2, nb2, bW2⟩ : ∃ b2 : Int, (if decide (b' = 0) = true then -(1 + m) else b') = b2 ∧ b2 ≠ 0 ∧ b2.natAbs < 2 ^ 50 := by
    by_cases z : b' = 0
    · exact ⟨_, if_pos (decide_eq_true z), by omega, by omega⟩
    · exact ⟨b', if_neg (by simpa using z), z, bW'⟩
  have s13 := q_s13 (st := st6) (o0 := some (.loc l)) (o1 := o1) (o7 := some d) (x := x) (y := y) (t := t') (b := b') (m := 1 + m) rfl
  rw [eb2] at s13
  have qo := p_quotient_of (st := st6) (a := t') nb2 (lt_big (lt3000 bW2 (by decide)) (by decide))
  obtain ⟨lo, vo⟩ := redQ_low (a := t') nb2
  have s14 := q_s14 (st := st6) (o0 := some (.loc l)) (o1 := o1) (o4 := some (.int (1 + m))) (o7 := some d) (x := x) (y := y) (t := t') (b := b2) (d := dq (redQ t' b2)) (by rw [ask_quotient_of, qo, caught_ok]) (is_of lo ((red_W nb2 tW' bW2).mono (by decide)) (lt3000 tW' (by decide)) (lt3000 bW2 (by decide)) vo)
  have s15 := q_s15 (st := st6) (o0 := some (.loc l)) (o1 := o1) (o4 := some (.int (1 + m))) (o7 := some d) (x := x) (y := y) (t := t') (b := b2) qo (p_same sm_dq)
  refine ⟨x, y, 1 + m, t', b2, d, st6, ?_, hx, hy, r6⟩
  unfold b__law_quotients_1
  exact seq_nx (q_s1 e1 e2 e3) (seq_nx s2 (seq_nx (q_s3 w11 w12) (seq_nx (q_s4 w13 ap ip) (seq_nx (q_s5 w13 am im) (seq_nx (q_s6 w13 w14 at' it) (seq_nx (q_s7 al il) (seq_nx (q_s8 ao) (seq_nx k9 (seq_nx k10 (seq_nx (q_s11 e5 e6) (seq_nx s12 (seq_nx s13 (seq_nx s14 s15)))))))))))))
end K00
end Sv
set_option Elab.async false
set_option linter.all false
set_option maxRecDepth 100000
set_option maxHeartbeats 4000000
set_option exponentiation.threshold 10000
namespace Sv
open PySem PySem.Spec PyProof.Rows L2
namespace K00
variable {st : S}
/-! ### quotients, the end -/
section
variable {o0 o1 o4 o5 o6 o7 : Option D} {x y a b c d e f : D} {v : Bool}
theorem qe1 (h1 : F_plus [x, y] st = .ok a st) (h2 : F_times [x, y] st = .ok b st) (h3 : F__law_same [.tup [a, b], .tup [a, b]] st = .ok (.bl true) st) :
    sIf (gNot (gTr (gDef 2 F__law_same (gCons (gCall fTup (gCons (gKw 2 2 [1, 0] F_plus (gCons (gVar 3) (gCons (gVar 2) gNil))) (gCons (gKw 2 2 [1, 0] F_times (gCons (gVar 3) (gCons (gVar 2) gNil))) gNil))) (gCons (gCall fTup (gCons (gDef 2 F_plus (gCons (gVar 2) (gCons (gVar 3) gNil))) (gCons (gDef 2 F_times (gCons (gVar 2) (gCons (gVar 3) gNil))) gNil))) gNil))))) (sRet (gC (.bl false))) gSkip [o0, o1, some x, some y, o4, o5, o6, o7] st = .nx [o0, o1, some x, some y, o4, o5, o6, o7] st := by
  have k1 : gKw 2 2 [1, 0] F_plus (gCons (gVar 3) (gCons (gVar 2) gNil)) [o0, o1, some x, some y, o4, o5, o6, o7] st = .ok a st := kw2 rfl rfl h1
  have k2 : gKw 2 2 [1, 0] F_times (gCons (gVar 3) (gCons (gVar 2) gNil)) [o0, o1, some x, some y, o4, o5, o6, o7] st = .ok b st := kw2 rfl rfl h2
  have t : fTup [a, b] st = .ok (.tup [a, b]) st := rfl
  simp -implicitDefEqProofs only [ap_fnF, ap_seq, ap_skip, ap_if, ap_ret, ap_asg, ap_asg2, ap_drop, ap_par, ap_par3, ap_unp, ap_for, ap_forL, ap_var, ap_c, ap_bin, ap_un, ap_nil, ap_cons, ap_call, ap_def, ap_tr, ap_not, ap_and, ap_or, ap_andv, ap_orv, ap_ife, ap_of, ap_mul, ap_div, ap_mod, ap_sub, ap_addi, ap_lt, ap_le, ap_gt, ap_ge, ap_eqi, ap_nei, ap_eqs, ap_neg, ap_truth, ap_bits, List.length, Nat.reduceSub, Nat.reduceAdd, Nat.reduceLeDiff, List.nil_append, List.cons_append, List.append_nil, List.set, List.getElem?_cons_zero, List.getElem?_cons_succ, List.getElem?_nil, setAll, fNot, eq_self, if_true, if_false, reduceIte, id_eq, decide_true, decide_false, Bool.false_eq_true, Bool.true_eq_false, Bool.not_true, Bool.not_false, Bool.true_or, Bool.false_or, Bool.or_true, Bool.or_false, Bool.true_and, Bool.false_and, Bool.and_true, Bool.and_false,k1, k2, h1, h2, h3, t]
theorem qe2 (h1 : F_over [x, dq (-2, 3)] st = .ok a st) (h3 : F__law_same [a, a] st = .ok (.bl true) st) :
    sIf (gNot (gTr (gDef 2 F__law_same (gCons (gKw 2 2 [1, 0] F_over (gCons (gCall fTup (gCons (gUn fNeg (gC (.int 2))) (gCons (gC (.int 3)) gNil))) (gCons (gVar 2) gNil))) (gCons (gDef 2 F_over (gCons (gVar 2) (gCons (gCall fTup (gCons (gUn fNeg (gC (.int 2))) (gCons (gC (.int 3)) gNil))) gNil))) gNil))))) (sRet (gC (.bl false))) gSkip [o0, o1, some x, some y, o4, o5, o6, o7] st = .nx [o0, o1, some x, some y, o4, o5, o6, o7] st := by
  have t : ∀ r : En, gCall fTup (gCons (gUn fNeg (gC (.int 2))) (gCons (gC (.int 3)) gNil)) r st = .ok (dq (-2, 3)) st := fun _ => rfl
  have k1 : gKw 2 2 [1, 0] F_over (gCons (gCall fTup (gCons (gUn fNeg (gC (.int 2))) (gCons (gC (.int 3)) gNil))) (gCons (gVar 2) gNil)) [o0, o1, some x, some y, o4, o5, o6, o7] st = .ok a st := kw2 rfl rfl h1
  generalize gCall fTup (gCons (gUn fNeg (gC (.int 2))) (gCons (gC (.int 3)) gNil)) = gg at t k1 ⊢
  simp -implicitDefEqProofs only [ap_fnF, ap_seq, ap_skip, ap_if, ap_ret, ap_asg, ap_asg2, ap_drop, ap_par, ap_par3, ap_unp, ap_for, ap_forL, ap_var, ap_c, ap_bin, ap_un, ap_nil, ap_cons, ap_call, ap_def, ap_tr, ap_not, ap_and, ap_or, ap_andv, ap_orv, ap_ife, ap_of, ap_mul, ap_div, ap_mod, ap_sub, ap_addi, ap_lt, ap_le, ap_gt, ap_ge, ap_eqi, ap_nei, ap_eqs, ap_neg, ap_truth, ap_bits, List.length, Nat.reduceSub, Nat.reduceAdd, Nat.reduceLeDiff, List.nil_append, List.cons_append, List.append_nil, List.set, List.getElem?_cons_zero, List.getElem?_cons_succ, List.getElem?_nil, setAll, fNot, eq_self, if_true, if_false, reduceIte, id_eq, decide_true, decide_false, Bool.false_eq_true, Bool.true_eq_false, Bool.not_true, Bool.not_false, Bool.true_or, Bool.false_or, Bool.or_true, Bool.or_false, Bool.true_and, Bool.false_and, Bool.and_true, Bool.and_false,k1, t, h1, h3]
theorem qe3 (h1 : F_minus [x, y] st = .ok a st) (h2 : F_less [x, y] st = .ok (.bl v) st) (h3 : F__law_same [a, a] st = .ok (.bl true) st) :
    sRet (gAndV (gDef 2 F__law_same (gCons (gKw 2 2 [1, 0] F_minus (gCons (gVar 3) (gCons (gVar 2) gNil))) (gCons (gDef 2 F_minus (gCons (gVar 2) (gCons (gVar 3) gNil))) gNil))) (gBin fEq (gKw 2 2 [1, 0] F_less (gCons (gVar 3) (gCons (gVar 2) gNil))) (gDef 2 F_less (gCons (gVar 2) (gCons (gVar 3) gNil))))) [o0, o1, some x, some y, o4, o5, o6, o7] st = .rt (.bl true) st := by
  have k1 : gKw 2 2 [1, 0] F_minus (gCons (gVar 3) (gCons (gVar 2) gNil)) [o0, o1, some x, some y, o4, o5, o6, o7] st = .ok a st := kw2 rfl rfl h1
  have k2 : gKw 2 2 [1, 0] F_less (gCons (gVar 3) (gCons (gVar 2) gNil)) [o0, o1, some x, some y, o4, o5, o6, o7] st = .ok (.bl v) st := kw2 rfl rfl h2
  have t : fEq (.bl v) (.bl v) st = .ok (.bl true) st := by cases v <;> rfl
  simp -implicitDefEqProofs only [ap_fnF, ap_seq, ap_skip, ap_if, ap_ret, ap_asg, ap_asg2, ap_drop, ap_par, ap_par3, ap_unp, ap_for, ap_forL, ap_var, ap_c, ap_bin, ap_un, ap_nil, ap_cons, ap_call, ap_def, ap_tr, ap_not, ap_and, ap_or, ap_andv, ap_orv, ap_ife, ap_of, ap_mul, ap_div, ap_mod, ap_sub, ap_addi, ap_lt, ap_le, ap_gt, ap_ge, ap_eqi, ap_nei, ap_eqs, ap_neg, ap_truth, ap_bits, List.length, Nat.reduceSub, Nat.reduceAdd, Nat.reduceLeDiff, List.nil_append, List.cons_append, List.append_nil, List.set, List.getElem?_cons_zero, List.getElem?_cons_succ, List.getElem?_nil, setAll, fNot, eq_self, if_true, if_false, reduceIte, id_eq, decide_true, decide_false, Bool.false_eq_true, Bool.true_eq_false, Bool.not_true, Bool.not_false, Bool.true_or, Bool.false_or, Bool.or_true, Bool.or_false, Bool.true_and, Bool.false_and, Bool.and_true, Bool.and_false,k1, k2, h1, h2, h3, t]
end
theorem range4 : rangeD 0 4 = [.int 0, .int 1, .int 2, .int 3] := rfl
theorem for4 {k : Nat} {body : GS} {r r' : En} {st' : S} (hk : k ≠ 0 := by decide) (h : loopV (tgV 1) body [.int 0, .int 1, .int 2, .int 3] r st = .nx r' st') : sFor (iOf iRange1 (gCons (gC (.int 4)) gNil)) (tgV 1) body r st = .nx r' st' := by
  have e : iOf iRange1 (gCons (gC (.int 4)) gNil) r st = .ok (rangeD 0 4) st := range1_ok (n := 4) rfl (by decide)
  rw [ap_for, e]
  exact h
theorem p_law_quotients {l : Nat} (h : Row st l) : ∃ st', F__law_quotients [.loc l] st = .ok (.bl true) st' ∧ Row st' l := by
  obtain ⟨r2, st2, lp, o1, x, y, m, t, b, d, rfl, hx, hy, hr⟩ := loopV_inv (t := tgV 1) (body := b__law_quotients_1) (P := fun r s => (∃ o1 o2 o3 o4 o5 o6 o7, r = [some (.loc l), o1, o2, o3, o4, o5, o6, o7]) ∧ Row s l)
    (Q := fun r s => ∃ o1 x y m t b d, r = En8 l o1 (dq x) (dq y) m t b d ∧ Qok x ∧ Qok y ∧ Row s l) (fun r s ⟨o1, x, y, m, t, b, d, e, _, _, hr⟩ => ⟨⟨o1, _, _, _, _, _, _, e⟩, hr⟩)
    (fun d r s ⟨⟨o1, o2, o3, o4, o5, o6, o7, e⟩, hr⟩ => by
      subst e
      obtain ⟨x, y, m, t, b, d', st', e, hx, hy, hr'⟩ := q_turn (o1 := some d) (o2 := o2) (o3 := o3) (o4 := o4) (o5 := o5) (o6 := o6) (o7 := o7) hr
      exact ⟨_, _, st', rfl, e, some d, x, y, m, t, b, d', rfl, hx, hy, hr'⟩)
    [.int 0, .int 1, .int 2, .int 3] [some (.loc l), none, none, none, none, none, none, none] st ⟨⟨_, _, _, _, _, _, _, rfl⟩, h⟩ (by simp)
  refine ⟨st2, fn_rt (N := N__law_quotients) (g := g__law_quotients) (r := [some (.loc l), none, none, none, none, none, none, none]) rfl ?_, hr⟩
  unfold g__law_quotients
  have p1 := p_plus (st := st2) hx.w hy.w hx.p hy.q
  have p2 := p_times (st := st2) hx.w hy.w hx.p hy.q
  have p3 := p_minus (st := st2) hx.w hy.w hx.p hy.q
  have p4 := p_less (st := st2) hx.w hy.w hy.q
  have w2 : W 3000 (-2, 3) := W.mono (n := 2) ⟨by decide, by decide⟩ (by decide)
  have p5 := p_over (st := st2) hx.w w2 hx.p (y := (-2, 3)) (isQt_of ⟨by decide, by decide⟩) (by decide)
  exact seq_nx (for4 (k := 1) (by decide) lp) (seq_nx (qe1 p1 p2 (p_same (sm_pair sm_dq sm_dq))) (seq_nx (qe2 p5 (p_same sm_dq)) (qe3 p3 p4 (p_same sm_dq))))
/-! ### spans, a turn -/
theorem s_s1 {l : Nat} {o1 o2 o3 o4 o5 o6 o7 o8 o9 o10 : Option D} {x y : D} {m : Int} {st1 st2 st3 : S} (e1 : F__law_span [.loc l] st = .ok x st1) (e2 : F__law_span [.loc l] st1 = .ok y st2) (e3 : F__law_take [.loc l, .int 6] st2 = .ok (.int m) st3) :
    sPar3 2 3 4 (gCons (gDef 1 F__law_span (gCons (gVar 0) gNil)) (gCons (gDef 1 F__law_span (gCons (gVar 0) gNil)) (gCons (gDef 2 F__law_take (gCons (gVar 0) (gCons (gC (.int 6)) gNil))) gNil))) [some (.loc l), o1, o2, o3, o4, o5, o6, o7, o8, o9, o10] st =
      .nx [some (.loc l), o1, some x, some y, some (.int m), o5, o6, o7, o8, o9, o10] st3 := by
  simp -implicitDefEqProofs only [ap_fnF, ap_seq, ap_skip, ap_if, ap_ret, ap_asg, ap_asg2, ap_drop, ap_par, ap_par3, ap_unp, ap_for, ap_forL, ap_var, ap_c, ap_bin, ap_un, ap_nil, ap_cons, ap_call, ap_def, ap_tr, ap_not, ap_and, ap_or, ap_andv, ap_orv, ap_ife, ap_of, ap_mul, ap_div, ap_mod, ap_sub, ap_addi, ap_lt, ap_le, ap_gt, ap_ge, ap_eqi, ap_nei, ap_eqs, ap_neg, ap_truth, ap_bits, List.length, Nat.reduceSub, Nat.reduceAdd, Nat.reduceLeDiff, List.nil_append, List.cons_append, List.append_nil, List.set, List.getElem?_cons_zero, List.getElem?_cons_succ, List.getElem?_nil, setAll, fNot, eq_self, if_true, if_false, reduceIte, id_eq, decide_true, decide_false, Bool.false_eq_true, Bool.true_eq_false, Bool.not_true, Bool.not_false, Bool.true_or, Bool.false_or, Bool.or_true, Bool.or_false, Bool.true_and, Bool.false_and, Bool.and_true, Bool.and_false,e1, e2, e3]
theorem s_s2 {o0 o1 o5 o6 o7 o8 o9 o10 : Option D} {x y : D} {m : Int} {c : Bool} (h : decide (m = 0) = c) :
    sIf (gTr (gBin fEq (gVar 4) (gC (.int 0)))) (sAsg 3 (gVar 2)) gSkip [o0, o1, some x, some y, some (.int m), o5, o6, o7, o8, o9, o10] st = .nx [o0, o1, some x, some (if c = true then x else y), some (.int m), o5, o6, o7, o8, o9, o10] st := by
  cases c <;> simp -implicitDefEqProofs only [ap_fnF, ap_seq, ap_skip, ap_if, ap_ret, ap_asg, ap_asg2, ap_drop, ap_par, ap_par3, ap_unp, ap_for, ap_forL, ap_var, ap_c, ap_bin, ap_un, ap_nil, ap_cons, ap_call, ap_def, ap_tr, ap_not, ap_and, ap_or, ap_andv, ap_orv, ap_ife, ap_of, ap_mul, ap_div, ap_mod, ap_sub, ap_addi, ap_lt, ap_le, ap_gt, ap_ge, ap_eqi, ap_nei, ap_eqs, ap_neg, ap_truth, ap_bits, List.length, Nat.reduceSub, Nat.reduceAdd, Nat.reduceLeDiff, List.nil_append, List.cons_append, List.append_nil, List.set, List.getElem?_cons_zero, List.getElem?_cons_succ, List.getElem?_nil, setAll, fNot, eq_self, if_true, if_false, reduceIte, id_eq, decide_true, decide_false, Bool.false_eq_true, Bool.true_eq_false, Bool.not_true, Bool.not_false, Bool.true_or, Bool.false_or, Bool.or_true, Bool.or_false, Bool.true_and, Bool.false_and, Bool.and_true, Bool.and_false,h]
theorem s_s3a {l : Nat} {o1 o5 o6 o7 o8 o9 o10 : Option D} {x y a b : D} {m : Int} {c : Bool} {st1 st2 : S} (h : decide (3 < m) = true) (e1 : F__law_near [.loc l, x] st = .ok a st1) (e2 : F__law_near [.loc l, x] st1 = .ok b st2) (e3 : F__law_below [b, a] st2 = .ok (.bl c) st2) :
    sIf (gTr (gBin fGt (gVar 4) (gC (.int 3)))) (gSeq (sPar 5 6 (gCons (gDef 2 F__law_near (gCons (gVar 0) (gCons (gVar 2) gNil))) (gCons (gDef 2 F__law_near (gCons (gVar 0) (gCons (gVar 2) gNil))) gNil)))
    (gSeq (sAsg 3 (gCall fTup (gCons (gVar 5) (gCons (gVar 6) gNil))))
    (sIf (gTr (gDef 2 F__law_below (gCons (gVar 6) (gCons (gVar 5) gNil)))) (sAsg 3 (gCall fTup (gCons (gVar 6) (gCons (gVar 5) gNil)))) gSkip))) gSkip [some (.loc l), o1, some x, some y, some (.int m), o5, o6, o7, o8, o9, o10] st =
      .nx [some (.loc l), o1, some x, some (.tup (if c = true then [b, a] else [a, b])), some (.int m), some a, some b, o7, o8, o9, o10] st2 := by
  have t : ∀ (a b : D) (st : S), fTup [a, b] st = .ok (.tup [a, b]) st := fun _ _ _ => rfl
  cases c <;> simp -implicitDefEqProofs only [ap_fnF, ap_seq, ap_skip, ap_if, ap_ret, ap_asg, ap_asg2, ap_drop, ap_par, ap_par3, ap_unp, ap_for, ap_forL, ap_var, ap_c, ap_bin, ap_un, ap_nil, ap_cons, ap_call, ap_def, ap_tr, ap_not, ap_and, ap_or, ap_andv, ap_orv, ap_ife, ap_of, ap_mul, ap_div, ap_mod, ap_sub, ap_addi, ap_lt, ap_le, ap_gt, ap_ge, ap_eqi, ap_nei, ap_eqs, ap_neg, ap_truth, ap_bits, List.length, Nat.reduceSub, Nat.reduceAdd, Nat.reduceLeDiff, List.nil_append, List.cons_append, List.append_nil, List.set, List.getElem?_cons_zero, List.getElem?_cons_succ, List.getElem?_nil, setAll, fNot, eq_self, if_true, if_false, reduceIte, id_eq, decide_true, decide_false, Bool.false_eq_true, Bool.true_eq_false, Bool.not_true, Bool.not_false, Bool.true_or, Bool.false_or, Bool.or_true, Bool.or_false, Bool.true_and, Bool.false_and, Bool.and_true, Bool.and_false,h, e1, e2, e3, t]
theorem s_s3b {l : Nat} {o1 o5 o6 o7 o8 o9 o10 : Option D} {x y : D} {m : Int} (h : decide (3 < m) = false) :
    sIf (gTr (gBin fGt (gVar 4) (gC (.int 3)))) (gSeq (sPar 5 6 (gCons (gDef 2 F__law_near (gCons (gVar 0) (gCons (gVar 2) gNil))) (gCons (gDef 2 F__law_near (gCons (gVar 0) (gCons (gVar 2) gNil))) gNil)))
    (gSeq (sAsg 3 (gCall fTup (gCons (gVar 5) (gCons (gVar 6) gNil))))
    (sIf (gTr (gDef 2 F__law_below (gCons (gVar 6) (gCons (gVar 5) gNil)))) (sAsg 3 (gCall fTup (gCons (gVar 6) (gCons (gVar 5) gNil)))) gSkip))) gSkip [some (.loc l), o1, some x, some y, some (.int m), o5, o6, o7, o8, o9, o10] st =
      .nx [some (.loc l), o1, some x, some y, some (.int m), o5, o6, o7, o8, o9, o10] st := by
  simp -implicitDefEqProofs only [ap_fnF, ap_seq, ap_skip, ap_if, ap_ret, ap_asg, ap_asg2, ap_drop, ap_par, ap_par3, ap_unp, ap_for, ap_forL, ap_var, ap_c, ap_bin, ap_un, ap_nil, ap_cons, ap_call, ap_def, ap_tr, ap_not, ap_and, ap_or, ap_andv, ap_orv, ap_ife, ap_of, ap_mul, ap_div, ap_mod, ap_sub, ap_addi, ap_lt, ap_le, ap_gt, ap_ge, ap_eqi, ap_nei, ap_eqs, ap_neg, ap_truth, ap_bits, List.length, Nat.reduceSub, Nat.reduceAdd, Nat.reduceLeDiff, List.nil_append, List.cons_append, List.append_nil, List.set, List.getElem?_cons_zero, List.getElem?_cons_succ, List.getElem?_nil, setAll, fNot, eq_self, if_true, if_false, reduceIte, id_eq, decide_true, decide_false, Bool.false_eq_true, Bool.true_eq_false, Bool.not_true, Bool.not_false, Bool.true_or, Bool.false_or, Bool.or_true, Bool.or_false, Bool.true_and, Bool.false_and, Bool.and_true, Bool.and_false,h]
theorem s_s4 {o0 o1 o5 o6 o7 o8 o9 o10 : Option D} {x y : D} {m : Int} {c : Bool} (h : decide (m = 5) = c) :
    sIf (gTr (gBin fEq (gVar 4) (gC (.int 5)))) (sPar 2 3 (gCons (gVar 3) (gCons (gVar 2) gNil))) gSkip [o0, o1, some x, some y, some (.int m), o5, o6, o7, o8, o9, o10] st = .nx [o0, o1, some (if c = true then y else x), some (if c = true then x else y), some (.int m), o5, o6, o7, o8, o9, o10] st := by
  cases c <;> simp -implicitDefEqProofs only [ap_fnF, ap_seq, ap_skip, ap_if, ap_ret, ap_asg, ap_asg2, ap_drop, ap_par, ap_par3, ap_unp, ap_for, ap_forL, ap_var, ap_c, ap_bin, ap_un, ap_nil, ap_cons, ap_call, ap_def, ap_tr, ap_not, ap_and, ap_or, ap_andv, ap_orv, ap_ife, ap_of, ap_mul, ap_div, ap_mod, ap_sub, ap_addi, ap_lt, ap_le, ap_gt, ap_ge, ap_eqi, ap_nei, ap_eqs, ap_neg, ap_truth, ap_bits, List.length, Nat.reduceSub, Nat.reduceAdd, Nat.reduceLeDiff, List.nil_append, List.cons_append, List.append_nil, List.set, List.getElem?_cons_zero, List.getElem?_cons_succ, List.getElem?_nil, setAll, fNot, eq_self, if_true, if_false, reduceIte, id_eq, decide_true, decide_false, Bool.false_eq_true, Bool.true_eq_false, Bool.not_true, Bool.not_false, Bool.true_or, Bool.false_or, Bool.or_true, Bool.or_false, Bool.true_and, Bool.false_and, Bool.and_true, Bool.and_false,h]
section
variable {o0 o1 o4 o5 o6 o7 o8 o9 o10 : Option D} {x y a b : D} {st1 st2 : S} {l : Nat}
theorem s_s5 (e : F__law_pair_of_spans [x, y] st = .ok (.bl true) st1) :
    sIf (gNot (gTr (gDef 2 F__law_pair_of_spans (gCons (gVar 2) (gCons (gVar 3) gNil))))) (sRet (gC (.bl false))) gSkip [o0, o1, some x, some y, o4, o5, o6, o7, o8, o9, o10] st = .nx [o0, o1, some x, some y, o4, o5, o6, o7, o8, o9, o10] st1 := by
  simp -implicitDefEqProofs only [ap_fnF, ap_seq, ap_skip, ap_if, ap_ret, ap_asg, ap_asg2, ap_drop, ap_par, ap_par3, ap_unp, ap_for, ap_forL, ap_var, ap_c, ap_bin, ap_un, ap_nil, ap_cons, ap_call, ap_def, ap_tr, ap_not, ap_and, ap_or, ap_andv, ap_orv, ap_ife, ap_of, ap_mul, ap_div, ap_mod, ap_sub, ap_addi, ap_lt, ap_le, ap_gt, ap_ge, ap_eqi, ap_nei, ap_eqs, ap_neg, ap_truth, ap_bits, List.length, Nat.reduceSub, Nat.reduceAdd, Nat.reduceLeDiff, List.nil_append, List.cons_append, List.append_nil, List.set, List.getElem?_cons_zero, List.getElem?_cons_succ, List.getElem?_nil, setAll, fNot, eq_self, if_true, if_false, reduceIte, id_eq, decide_true, decide_false, Bool.false_eq_true, Bool.true_eq_false, Bool.not_true, Bool.not_false, Bool.true_or, Bool.false_or, Bool.or_true, Bool.or_false, Bool.true_and, Bool.false_and, Bool.and_true, Bool.and_false,e]
theorem s_s6 (e : F__law_quotient [.loc l] st = .ok a st1) : sAsg 7 (gDef 1 F__law_quotient (gCons (gVar 0) gNil)) [some (.loc l), o1, some x, some y, o4, o5, o6, o7, o8, o9, o10] st = .nx [some (.loc l), o1, some x, some y, o4, o5, o6, some a, o8, o9, o10] st1 := by
  simp -implicitDefEqProofs only [ap_fnF, ap_seq, ap_skip, ap_if, ap_ret, ap_asg, ap_asg2, ap_drop, ap_par, ap_par3, ap_unp, ap_for, ap_forL, ap_var, ap_c, ap_bin, ap_un, ap_nil, ap_cons, ap_call, ap_def, ap_tr, ap_not, ap_and, ap_or, ap_andv, ap_orv, ap_ife, ap_of, ap_mul, ap_div, ap_mod, ap_sub, ap_addi, ap_lt, ap_le, ap_gt, ap_ge, ap_eqi, ap_nei, ap_eqs, ap_neg, ap_truth, ap_bits, List.length, Nat.reduceSub, Nat.reduceAdd, Nat.reduceLeDiff, List.nil_append, List.cons_append, List.append_nil, List.set, List.getElem?_cons_zero, List.getElem?_cons_succ, List.getElem?_nil, setAll, fNot, eq_self, if_true, if_false, reduceIte, id_eq, decide_true, decide_false, Bool.false_eq_true, Bool.true_eq_false, Bool.not_true, Bool.not_false, Bool.true_or, Bool.false_or, Bool.or_true, Bool.or_false, Bool.true_and, Bool.false_and, Bool.and_true, Bool.and_false,e]
theorem s_s8 {g : Nat} (e1 : F__law_ask_span [.str "scaled_span", x, a] st = .ok b st) (e2 : F__law_ends [b, .loc g] st = .ok (.bl true) st) :
    sIf (gNot (gTr (gDef 2 F__law_ends (gCons (gDef 3 F__law_ask_span (gCons (gC (.str "scaled_span")) (gCons (gVar 2) (gCons (gVar 7) gNil)))) (gCons (gVar 8) gNil))))) (sRet (gC (.bl false))) gSkip [o0, o1, some x, some y, o4, o5, o6, some a, some (.loc g), o9, o10] st = .nx [o0, o1, some x, some y, o4, o5, o6, some a, some (.loc g), o9, o10] st := by
  simp -implicitDefEqProofs only [ap_fnF, ap_seq, ap_skip, ap_if, ap_ret, ap_asg, ap_asg2, ap_drop, ap_par, ap_par3, ap_unp, ap_for, ap_forL, ap_var, ap_c, ap_bin, ap_un, ap_nil, ap_cons, ap_call, ap_def, ap_tr, ap_not, ap_and, ap_or, ap_andv, ap_orv, ap_ife, ap_of, ap_mul, ap_div, ap_mod, ap_sub, ap_addi, ap_lt, ap_le, ap_gt, ap_ge, ap_eqi, ap_nei, ap_eqs, ap_neg, ap_truth, ap_bits, List.length, Nat.reduceSub, Nat.reduceAdd, Nat.reduceLeDiff, List.nil_append, List.cons_append, List.append_nil, List.set, List.getElem?_cons_zero, List.getElem?_cons_succ, List.getElem?_nil, setAll, fNot, eq_self, if_true, if_false, reduceIte, id_eq, decide_true, decide_false, Bool.false_eq_true, Bool.true_eq_false, Bool.not_true, Bool.not_false, Bool.true_or, Bool.false_or, Bool.or_true, Bool.or_false, Bool.true_and, Bool.false_and, Bool.and_true, Bool.and_false,e1, e2]
theorem s_s9 (e : F__law_near [.loc l, x] st = .ok a st1) : sAsg 10 (gDef 2 F__law_near (gCons (gVar 0) (gCons (gVar 2) gNil))) [some (.loc l), o1, some x, some y, o4, o5, o6, o7, o8, o9, o10] st = .nx [some (.loc l), o1, some x, some y, o4, o5, o6, o7, o8, o9, some a] st1 := by
  simp -implicitDefEqProofs only [ap_fnF, ap_seq, ap_skip, ap_if, ap_ret, ap_asg, ap_asg2, ap_drop, ap_par, ap_par3, ap_unp, ap_for, ap_forL, ap_var, ap_c, ap_bin, ap_un, ap_nil, ap_cons, ap_call, ap_def, ap_tr, ap_not, ap_and, ap_or, ap_andv, ap_orv, ap_ife, ap_of, ap_mul, ap_div, ap_mod, ap_sub, ap_addi, ap_lt, ap_le, ap_gt, ap_ge, ap_eqi, ap_nei, ap_eqs, ap_neg, ap_truth, ap_bits, List.length, Nat.reduceSub, Nat.reduceAdd, Nat.reduceLeDiff, List.nil_append, List.cons_append, List.append_nil, List.set, List.getElem?_cons_zero, List.getElem?_cons_succ, List.getElem?_nil, setAll, fNot, eq_self, if_true, if_false, reduceIte, id_eq, decide_true, decide_false, Bool.false_eq_true, Bool.true_eq_false, Bool.not_true, Bool.not_false, Bool.true_or, Bool.false_or, Bool.or_true, Bool.or_false, Bool.true_and, Bool.false_and, Bool.and_true, Bool.and_false,e]
theorem s_s10 (e1 : F__law_ask_span [.str "holds", x, a] st = .ok b st) (e2 : F__law_held [x, a] st = .ok b st) (e3 : F__law_truth [b, b] st = .ok (.bl true) st) :
    sIf (gNot (gTr (gDef 2 F__law_truth (gCons (gDef 3 F__law_ask_span (gCons (gC (.str "holds")) (gCons (gVar 2) (gCons (gVar 10) gNil)))) (gCons (gDef 2 F__law_held (gCons (gVar 2) (gCons (gVar 10) gNil))) gNil))))) (sRet (gC (.bl false))) gSkip [o0, o1, some x, some y, o4, o5, o6, o7, o8, o9, some a] st = .nx [o0, o1, some x, some y, o4, o5, o6, o7, o8, o9, some a] st := by
  simp -implicitDefEqProofs only [ap_fnF, ap_seq, ap_skip, ap_if, ap_ret, ap_asg, ap_asg2, ap_drop, ap_par, ap_par3, ap_unp, ap_for, ap_forL, ap_var, ap_c, ap_bin, ap_un, ap_nil, ap_cons, ap_call, ap_def, ap_tr, ap_not, ap_and, ap_or, ap_andv, ap_orv, ap_ife, ap_of, ap_mul, ap_div, ap_mod, ap_sub, ap_addi, ap_lt, ap_le, ap_gt, ap_ge, ap_eqi, ap_nei, ap_eqs, ap_neg, ap_truth, ap_bits, List.length, Nat.reduceSub, Nat.reduceAdd, Nat.reduceLeDiff, List.nil_append, List.cons_append, List.append_nil, List.set, List.getElem?_cons_zero, List.getElem?_cons_succ, List.getElem?_nil, setAll, fNot, eq_self, if_true, if_false, reduceIte, id_eq, decide_true, decide_false, Bool.false_eq_true, Bool.true_eq_false, Bool.not_true, Bool.not_false, Bool.true_or, Bool.false_or, Bool.or_true, Bool.or_false, Bool.true_and, Bool.false_and, Bool.and_true, Bool.and_false,e1, e2, e3]
end
def scalR (p : Qt × Qt) (q : Qt) : List Qt := [rM p.1 q, rM p.2 q]
theorem s_s7 {o0 o1 o4 o5 o6 o8 o9 o10 : Option D} {p : Qt × Qt} {y : D} {q : Qt} (m1 : MulC p.1.1 q.1) (m2 : MulC p.1.2 q.2) (m3 : MulC p.2.1 q.1) (m4 : MulC p.2.2 q.2) :
    sAsg 8 (gLc true [9] (iSq (gVar 2)) (tgV 9) gYes (gCall fTup (gCons (gBin fMul (gBin fIx (gVar 9) (gC (.int 0))) (gBin fIx (gVar 7) (gC (.int 0)))) (gCons (gBin fMul (gBin fIx (gVar 9) (gC (.int 1))) (gBin fIx (gVar 7) (gC (.int 1)))) gNil)))) [o0, o1, some (ds p), some y, o4, o5, o6, some (dq q), o8, o9, o10] st =
      .nx [o0, o1, some (ds p), some y, o4, o5, o6, some (dq q), some (.loc st.length), o9, o10] (st ++ [(scalR p q).map dq]) := by
  have t : ∀ (a b : Int) (st : S), fTup [.int a, .int b] st = .ok (dq (a, b)) st := fun _ _ _ => rfl
  have l := lc_map (st := st) (t := tgV 9) (ge := gCall fTup (gCons (gBin fMul (gBin fIx (gVar 9) (gC (.int 0))) (gBin fIx (gVar 7) (gC (.int 0)))) (gCons (gBin fMul (gBin fIx (gVar 9) (gC (.int 1))) (gBin fIx (gVar 7) (gC (.int 1)))) gNil))) (r0 := [o0, o1, some (ds p), some y, o4, o5, o6, some (dq q), o8, none, o10])
    (fun d => match d with | .tup [.int a, .int b] => dq (a * q.1, b * q.2) | _ => .non) (ds := [dq p.1, dq p.2]) fun d hd => by
      rcases List.mem_cons.mp hd with rfl | hd
      · refine ⟨[o0, o1, some (ds p), some y, o4, o5, o6, some (dq q), o8, some (dq p.1), o10], rfl, ?_⟩
        simp -implicitDefEqProofs only [ap_fnF, ap_seq, ap_skip, ap_if, ap_ret, ap_asg, ap_asg2, ap_drop, ap_par, ap_par3, ap_unp, ap_for, ap_forL, ap_var, ap_c, ap_bin, ap_un, ap_nil, ap_cons, ap_call, ap_def, ap_tr, ap_not, ap_and, ap_or, ap_andv, ap_orv, ap_ife, ap_of, ap_mul, ap_div, ap_mod, ap_sub, ap_addi, ap_lt, ap_le, ap_gt, ap_ge, ap_eqi, ap_nei, ap_eqs, ap_neg, ap_truth, ap_bits, List.length, Nat.reduceSub, Nat.reduceAdd, Nat.reduceLeDiff, List.nil_append, List.cons_append, List.append_nil, List.set, List.getElem?_cons_zero, List.getElem?_cons_succ, List.getElem?_nil, setAll, fNot, eq_self, if_true, if_false, reduceIte, id_eq, decide_true, decide_false, Bool.false_eq_true, Bool.true_eq_false, Bool.not_true, Bool.not_false, Bool.true_or, Bool.false_or, Bool.or_true, Bool.or_false, Bool.true_and, Bool.false_and, Bool.and_true, Bool.and_false,ix0, ix1, m1, m2, t]
        rfl
      · rcases List.mem_cons.mp hd with rfl | hd
        · refine ⟨[o0, o1, some (ds p), some y, o4, o5, o6, some (dq q), o8, some (dq p.2), o10], rfl, ?_⟩
          simp -implicitDefEqProofs only [ap_fnF, ap_seq, ap_skip, ap_if, ap_ret, ap_asg, ap_asg2, ap_drop, ap_par, ap_par3, ap_unp, ap_for, ap_forL, ap_var, ap_c, ap_bin, ap_un, ap_nil, ap_cons, ap_call, ap_def, ap_tr, ap_not, ap_and, ap_or, ap_andv, ap_orv, ap_ife, ap_of, ap_mul, ap_div, ap_mod, ap_sub, ap_addi, ap_lt, ap_le, ap_gt, ap_ge, ap_eqi, ap_nei, ap_eqs, ap_neg, ap_truth, ap_bits, List.length, Nat.reduceSub, Nat.reduceAdd, Nat.reduceLeDiff, List.nil_append, List.cons_append, List.append_nil, List.set, List.getElem?_cons_zero, List.getElem?_cons_succ, List.getElem?_nil, setAll, fNot, eq_self, if_true, if_false, reduceIte, id_eq, decide_true, decide_false, Bool.false_eq_true, Bool.true_eq_false, Bool.not_true, Bool.not_false, Bool.true_or, Bool.false_or, Bool.or_true, Bool.or_false, Bool.true_and, Bool.false_and, Bool.and_true, Bool.and_false,ix0, ix1, m3, m4, t]
          rfl
        · cases hd
  have e := gLc_ok (c := true) (vs := [9]) (gi := iSq (gVar 2)) (r := [o0, o1, some (ds p), some y, o4, o5, o6, some (dq q), o8, o9, o10]) (ds := [dq p.1, dq p.2]) (st := st) rfl l
  rw [nl_loc (by simp)] at e
  rw [ap_asg, e]
  rfl
theorem ends_scaled {p : Qt × Qt} {q : Qt} {l : Nat} (hp : Spok p) (hq : Qok q) (hl : st[l]? = some ((scalR p q).map dq)) : F__law_ends [ds (spanOf (scals p q)), .loc l] st = .ok (.bl true) st := by
  have m : ∀ a b, Qok a → Qok b → qv (mulQ a b) = qv (rM a b) := fun a b ha hb => by rw [(low_mul ha.p hb.p).2, qM ha hb]
  have m1 := m _ _ hp.a hq
  have m2 := m _ _ hp.b hq
  refine ends_of hl (by simp [scals]) (fun z hz => ?_) (fun r hr => ?_) (fun r hr => ?_) fun z hz => ?_
  · simp only [scals, List.mem_cons, List.not_mem_nil, or_false] at hz
    rcases hz with rfl | rfl
    · exact ⟨(low_mul hp.a.p hq.p).1, (mul_W (by decide) hp.a.p hq.p hp.a.2 hq.2).mono (by decide)⟩
    · exact ⟨(low_mul hp.b.p hq.p).1, (mul_W (by decide) hp.b.p hq.p hp.b.2 hq.2).mono (by decide)⟩
  · simp only [scalR, List.mem_cons, List.not_mem_nil, or_false] at hr
    rcases hr with rfl | rfl
    · exact rM_ok _ _ hp.a hq
    · exact rM_ok _ _ hp.b hq
  · simp only [scalR, List.mem_cons, List.not_mem_nil, or_false] at hr
    rcases hr with rfl | rfl
    · exact ⟨_, by simp [scals], m1⟩
    · exact ⟨_, by simp [scals], m2⟩
  · simp only [scals, List.mem_cons, List.not_mem_nil, or_false] at hz
    rcases hz with rfl | rfl
    · exact ⟨rM p.1 q, by simp [scalR], m1.symm⟩
    · exact ⟨rM p.2 q, by simp [scalR], m2.symm⟩
/-- behind a turn: two spans, a quotient, a quotient near -/
def SpSt (l : Nat) (r : En) : Prop := ∃ o1 o4 o5 o6 o8 o9 p q b n, r = [some (.loc l), o1, some (ds p), some (ds q), o4, o5, o6, some (dq b), o8, o9, some (dq n)] ∧ Spok p ∧ Spok q ∧ Qok b ∧ Qok n
theorem s_turn {l : Nat} {o1 o2 o3 o4 o5 o6 o7 o8 o9 o10 : Option D} (h : Row st l) : ∃ r' st', b__law_spans_1 [some (.loc l), o1, o2, o3, o4, o5, o6, o7, o8, o9, o10] st = .nx r' st' ∧ SpSt l r' ∧ Row st' l := by
  obtain ⟨x, st1, e1, hx, r1⟩ := p_span h
  obtain ⟨y0, st2, e2, hy0, r2⟩ := p_span r1
  obtain ⟨m, st3, e3, m0, m1, r3⟩ := p_draw 6 r2 (by decide)
  obtain ⟨y1, ey1, hy1⟩ : ∃ y, (if decide (m = 0) = true then ds x else ds y0) = ds y ∧ Spok y := by
    by_cases z : m = 0
    · exact ⟨x, if_pos (decide_eq_true z), hx⟩
    · exact ⟨y0, if_neg (by simpa using z), hy0⟩
  have t2 := s_s2 (st := st3) (o0 := some (.loc l)) (o1 := o1) (o5 := o5) (o6 := o6) (o7 := o7) (o8 := o8) (o9 := o9) (o10 := o10) (x := ds x) (y := ds y0) (m := m) rfl
  rw [ey1] at t2
  obtain ⟨y, o5', o6', st5, t3, hy, r5⟩ : ∃ y o5' o6' st5, sIf (gTr (gBin fGt (gVar 4) (gC (.int 3)))) (gSeq (sPar 5 6 (gCons (gDef 2 F__law_near (gCons (gVar 0) (gCons (gVar 2) gNil))) (gCons (gDef 2 F__law_near (gCons (gVar 0) (gCons (gVar 2) gNil))) gNil)))
    (gSeq (sAsg 3 (gCall fTup (gCons (gVar 5) (gCons (gVar 6) gNil))))
    (sIf (gTr (gDef 2 F__law_below (gCons (gVar 6) (gCons (gVar 5) gNil)))) (sAsg 3 (gCall fTup (gCons (gVar 6) (gCons (gVar 5) gNil)))) gSkip))) gSkip [some (.loc l), o1, some (ds x), some (ds y1), some (.int m), o5, o6, o7, o8, o9, o10] st3 =
      .nx [some (.loc l), o1, some (ds x), some (ds y), some (.int m), o5', o6', o7, o8, o9, o10] st5 ∧ Spok y ∧ Row st5 l := by
    by_cases z : 3 < m
    · obtain ⟨a, st4, e4, ha, r4⟩ := p_near hx r3
      obtain ⟨b, st5, e5, hb, r5⟩ := p_near hx r4
      have t3 := s_s3a (o1 := o1) (o5 := o5) (o6 := o6) (o7 := o7) (o8 := o8) (o9 := o9) (o10 := o10) (y := ds y1) (decide_eq_true z) e4 e5 (p_below (st := st5) hb.w ha.w)
      by_cases c : ltQ b a = true
      · rw [if_pos c] at t3
        have := (qv_ltT hb.p ha.p).mp c
        exact ⟨(b, a), _, _, st5, t3, ⟨hb, ha, by grind⟩, r5⟩
      · rw [if_neg c] at t3
        have := fun z => c ((qv_ltT hb.p ha.p).mpr z)
        exact ⟨(a, b), _, _, st5, t3, ⟨ha, hb, by grind⟩, r5⟩
    · exact ⟨y1, o5, o6, st3, s_s3b (decide_eq_false z), hy1, r3⟩
  have t4 := s_s4 (st := st5) (o0 := some (.loc l)) (o1 := o1) (o5 := o5') (o6 := o6') (o7 := o7) (o8 := o8) (o9 := o9) (o10 := o10) (x := ds x) (y := ds y) (m := m) rfl
  obtain ⟨p, q, ep, eq, hp, hq⟩ : ∃ p q, (if decide (m = 5) = true then ds y else ds x) = ds p ∧ (if decide (m = 5) = true then ds x else ds y) = ds q ∧ Spok p ∧ Spok q := by
    by_cases z : m = 5
    · exact ⟨y, x, if_pos (decide_eq_true z), if_pos (decide_eq_true z), hy, hx⟩
    · exact ⟨x, y, if_neg (by simpa using z), if_neg (by simpa using z), hx, hy⟩
  rw [ep, eq] at t4
  obtain ⟨ex, e6⟩ := p_pair (st := st5) hp hq
  obtain ⟨b, st7, e7, hb, r7⟩ := p_quotient (r5.more (ex := ex))
  have t7 := s_s7 (st := st7) (o0 := some (.loc l)) (o1 := o1) (o4 := some (.int m)) (o5 := o5') (o6 := o6') (o8 := o8) (o9 := o9) (o10 := o10) (p := p) (y := ds q) (q := b) (mulc hp.a.w.1 hb.w.1 (by decide) (by decide)) (mulc hp.a.w.2 hb.w.2 (by decide) (by decide)) (mulc hp.b.w.1 hb.w.1 (by decide) (by decide)) (mulc hp.b.w.2 hb.w.2 (by decide) (by decide))
  have r8 := r7.more (ex := [(scalR p b).map dq])
  have e8 : F__law_ask_span [.str "scaled_span", ds p, dq b] (st7 ++ [(scalR p b).map dq]) = .ok (ds (spanOf (scals p b))) (st7 ++ [(scalR p b).map dq]) := by rw [ask_span_scaled_span, p_scaled_span hp hb, caught_ok]
  have hat : (st7 ++ [(scalR p b).map dq])[st7.length]? = some ((scalR p b).map dq) := by
    rw [List.getElem?_append_right (Nat.le_refl _), Nat.sub_self]
    rfl
  obtain ⟨n, st9, e9, hn, r9⟩ := p_near hp r8
  have e10 : F__law_ask_span [.str "holds", ds p, dq n] st9 = .ok (.bl (heldQ p n)) st9 := by rw [ask_span_holds, p_holds hp hn, caught_ok]
  refine ⟨_, st9, ?_, ⟨o1, some (.int m), o5', o6', some (.loc st7.length), o9, p, q, b, n, rfl, hp, hq, hb, hn⟩, r9⟩
  unfold b__law_spans_1
  exact seq_nx (s_s1 e1 e2 e3) (seq_nx t2 (seq_nx t3 (seq_nx t4 (seq_nx (s_s5 e6) (seq_nx (s_s6 e7) (seq_nx t7 (seq_nx (s_s8 e8 (ends_scaled hp hb hat)) (seq_nx (s_s9 e9) (s_s10 e10 (p_held hp hn) p_truth)))))))))
section
variable {o0 o1 o4 o5 o6 o8 o9 : Option D} {x y b n a c d : D} {v w : D}
theorem se1 (h1 : F_scaled_span [x, b] st = .ok a st) (h2 : F__law_same [a, a] st = .ok (.bl true) st) :
    sIf (gNot (gTr (gDef 2 F__law_same (gCons (gKw 2 2 [1, 0] F_scaled_span (gCons (gVar 7) (gCons (gVar 2) gNil))) (gCons (gDef 2 F_scaled_span (gCons (gVar 2) (gCons (gVar 7) gNil))) gNil))))) (sRet (gC (.bl false))) gSkip [o0, o1, some x, some y, o4, o5, o6, some b, o8, o9, some n] st = .nx [o0, o1, some x, some y, o4, o5, o6, some b, o8, o9, some n] st := by
  have k1 : gKw 2 2 [1, 0] F_scaled_span (gCons (gVar 7) (gCons (gVar 2) gNil)) [o0, o1, some x, some y, o4, o5, o6, some b, o8, o9, some n] st = .ok a st := kw2 rfl rfl h1
  simp -implicitDefEqProofs only [ap_fnF, ap_seq, ap_skip, ap_if, ap_ret, ap_asg, ap_asg2, ap_drop, ap_par, ap_par3, ap_unp, ap_for, ap_forL, ap_var, ap_c, ap_bin, ap_un, ap_nil, ap_cons, ap_call, ap_def, ap_tr, ap_not, ap_and, ap_or, ap_andv, ap_orv, ap_ife, ap_of, ap_mul, ap_div, ap_mod, ap_sub, ap_addi, ap_lt, ap_le, ap_gt, ap_ge, ap_eqi, ap_nei, ap_eqs, ap_neg, ap_truth, ap_bits, List.length, Nat.reduceSub, Nat.reduceAdd, Nat.reduceLeDiff, List.nil_append, List.cons_append, List.append_nil, List.set, List.getElem?_cons_zero, List.getElem?_cons_succ, List.getElem?_nil, setAll, fNot, eq_self, if_true, if_false, reduceIte, id_eq, decide_true, decide_false, Bool.false_eq_true, Bool.true_eq_false, Bool.not_true, Bool.not_false, Bool.true_or, Bool.false_or, Bool.or_true, Bool.or_false, Bool.true_and, Bool.false_and, Bool.and_true, Bool.and_false,k1, h1, h2]
theorem se2 {c1 c2 : Bool} (h1 : F_span_within [y, x] st = .ok (.bl (c1 && c2)) st) (y0 : fIx y (.int 0) st = .ok a st) (y1 : fIx y (.int 1) st = .ok c st) (e1 : F__law_held [x, a] st = .ok (.bl c1) st) (e2 : F__law_held [x, c] st = .ok (.bl c2) st) (h2 : F__law_truth [.bl (c1 && c2), .bl (c1 && c2)] st = .ok (.bl true) st) :
    sIf (gNot (gTr (gDef 2 F__law_truth (gCons (gKw 2 2 [1, 0] F_span_within (gCons (gVar 2) (gCons (gVar 3) gNil))) (gCons (gAndV (gDef 2 F__law_held (gCons (gVar 2) (gCons (gBin fIx (gVar 3) (gC (.int 0))) gNil))) (gDef 2 F__law_held (gCons (gVar 2) (gCons (gBin fIx (gVar 3) (gC (.int 1))) gNil)))) gNil))))) (sRet (gC (.bl false))) gSkip [o0, o1, some x, some y, o4, o5, o6, some b, o8, o9, some n] st = .nx [o0, o1, some x, some y, o4, o5, o6, some b, o8, o9, some n] st := by
  have k1 : gKw 2 2 [1, 0] F_span_within (gCons (gVar 2) (gCons (gVar 3) gNil)) [o0, o1, some x, some y, o4, o5, o6, some b, o8, o9, some n] st = .ok (.bl (c1 && c2)) st := kw2 rfl rfl h1
  cases c1 <;> simp only [Bool.true_and, Bool.false_and] at k1 h2 <;> simp -implicitDefEqProofs only [ap_fnF, ap_seq, ap_skip, ap_if, ap_ret, ap_asg, ap_asg2, ap_drop, ap_par, ap_par3, ap_unp, ap_for, ap_forL, ap_var, ap_c, ap_bin, ap_un, ap_nil, ap_cons, ap_call, ap_def, ap_tr, ap_not, ap_and, ap_or, ap_andv, ap_orv, ap_ife, ap_of, ap_mul, ap_div, ap_mod, ap_sub, ap_addi, ap_lt, ap_le, ap_gt, ap_ge, ap_eqi, ap_nei, ap_eqs, ap_neg, ap_truth, ap_bits, List.length, Nat.reduceSub, Nat.reduceAdd, Nat.reduceLeDiff, List.nil_append, List.cons_append, List.append_nil, List.set, List.getElem?_cons_zero, List.getElem?_cons_succ, List.getElem?_nil, setAll, fNot, eq_self, if_true, if_false, reduceIte, id_eq, decide_true, decide_false, Bool.false_eq_true, Bool.true_eq_false, Bool.not_true, Bool.not_false, Bool.true_or, Bool.false_or, Bool.or_true, Bool.or_false, Bool.true_and, Bool.false_and, Bool.and_true, Bool.and_false,k1, y0, y1, e1, e2, h2]
theorem se3 (h1 : F_holds [x, n] st = .ok v st) (h2 : F__law_held [x, n] st = .ok v st) (h3 : F__law_truth [v, v] st = .ok (.bl true) st) :
    sIf (gNot (gTr (gDef 2 F__law_truth (gCons (gKw 2 2 [1, 0] F_holds (gCons (gVar 10) (gCons (gVar 2) gNil))) (gCons (gDef 2 F__law_held (gCons (gVar 2) (gCons (gVar 10) gNil))) gNil))))) (sRet (gC (.bl false))) gSkip [o0, o1, some x, some y, o4, o5, o6, some b, o8, o9, some n] st = .nx [o0, o1, some x, some y, o4, o5, o6, some b, o8, o9, some n] st := by
  have k1 : gKw 2 2 [1, 0] F_holds (gCons (gVar 10) (gCons (gVar 2) gNil)) [o0, o1, some x, some y, o4, o5, o6, some b, o8, o9, some n] st = .ok v st := kw2 rfl rfl h1
  simp -implicitDefEqProofs only [ap_fnF, ap_seq, ap_skip, ap_if, ap_ret, ap_asg, ap_asg2, ap_drop, ap_par, ap_par3, ap_unp, ap_for, ap_forL, ap_var, ap_c, ap_bin, ap_un, ap_nil, ap_cons, ap_call, ap_def, ap_tr, ap_not, ap_and, ap_or, ap_andv, ap_orv, ap_ife, ap_of, ap_mul, ap_div, ap_mod, ap_sub, ap_addi, ap_lt, ap_le, ap_gt, ap_ge, ap_eqi, ap_nei, ap_eqs, ap_neg, ap_truth, ap_bits, List.length, Nat.reduceSub, Nat.reduceAdd, Nat.reduceLeDiff, List.nil_append, List.cons_append, List.append_nil, List.set, List.getElem?_cons_zero, List.getElem?_cons_succ, List.getElem?_nil, setAll, fNot, eq_self, if_true, if_false, reduceIte, id_eq, decide_true, decide_false, Bool.false_eq_true, Bool.true_eq_false, Bool.not_true, Bool.not_false, Bool.true_or, Bool.false_or, Bool.or_true, Bool.or_false, Bool.true_and, Bool.false_and, Bool.and_true, Bool.and_false,k1, h2, h3]
theorem se4 (h1 : F_spans_apart [x, y] st = .ok v st) (h3 : F__law_truth [v, v] st = .ok (.bl true) st) :
    sIf (gNot (gTr (gDef 2 F__law_truth (gCons (gKw 2 2 [1, 0] F_spans_apart (gCons (gVar 3) (gCons (gVar 2) gNil))) (gCons (gDef 2 F_spans_apart (gCons (gVar 2) (gCons (gVar 3) gNil))) gNil))))) (sRet (gC (.bl false))) gSkip [o0, o1, some x, some y, o4, o5, o6, some b, o8, o9, some n] st = .nx [o0, o1, some x, some y, o4, o5, o6, some b, o8, o9, some n] st := by
  have k1 : gKw 2 2 [1, 0] F_spans_apart (gCons (gVar 3) (gCons (gVar 2) gNil)) [o0, o1, some x, some y, o4, o5, o6, some b, o8, o9, some n] st = .ok v st := kw2 rfl rfl h1
  simp -implicitDefEqProofs only [ap_fnF, ap_seq, ap_skip, ap_if, ap_ret, ap_asg, ap_asg2, ap_drop, ap_par, ap_par3, ap_unp, ap_for, ap_forL, ap_var, ap_c, ap_bin, ap_un, ap_nil, ap_cons, ap_call, ap_def, ap_tr, ap_not, ap_and, ap_or, ap_andv, ap_orv, ap_ife, ap_of, ap_mul, ap_div, ap_mod, ap_sub, ap_addi, ap_lt, ap_le, ap_gt, ap_ge, ap_eqi, ap_nei, ap_eqs, ap_neg, ap_truth, ap_bits, List.length, Nat.reduceSub, Nat.reduceAdd, Nat.reduceLeDiff, List.nil_append, List.cons_append, List.append_nil, List.set, List.getElem?_cons_zero, List.getElem?_cons_succ, List.getElem?_nil, setAll, fNot, eq_self, if_true, if_false, reduceIte, id_eq, decide_true, decide_false, Bool.false_eq_true, Bool.true_eq_false, Bool.not_true, Bool.not_false, Bool.true_or, Bool.false_or, Bool.or_true, Bool.or_false, Bool.true_and, Bool.false_and, Bool.and_true, Bool.and_false,k1, h1, h3]
theorem se5 {F : List D → S → R D} (h1 : F [x, y] st = .ok a st) (h2 : F__law_same [a, a] st = .ok (.bl true) st) :
    sIf (gNot (gTr (gDef 2 F__law_same (gCons (gKw 2 2 [1, 0] F (gCons (gVar 3) (gCons (gVar 2) gNil))) (gCons (gDef 2 F (gCons (gVar 2) (gCons (gVar 3) gNil))) gNil))))) (sRet (gC (.bl false))) gSkip [o0, o1, some x, some y, o4, o5, o6, some b, o8, o9, some n] st = .nx [o0, o1, some x, some y, o4, o5, o6, some b, o8, o9, some n] st := by
  have k1 : gKw 2 2 [1, 0] F (gCons (gVar 3) (gCons (gVar 2) gNil)) [o0, o1, some x, some y, o4, o5, o6, some b, o8, o9, some n] st = .ok a st := kw2 rfl rfl h1
  simp -implicitDefEqProofs only [ap_fnF, ap_seq, ap_skip, ap_if, ap_ret, ap_asg, ap_asg2, ap_drop, ap_par, ap_par3, ap_unp, ap_for, ap_forL, ap_var, ap_c, ap_bin, ap_un, ap_nil, ap_cons, ap_call, ap_def, ap_tr, ap_not, ap_and, ap_or, ap_andv, ap_orv, ap_ife, ap_of, ap_mul, ap_div, ap_mod, ap_sub, ap_addi, ap_lt, ap_le, ap_gt, ap_ge, ap_eqi, ap_nei, ap_eqs, ap_neg, ap_truth, ap_bits, List.length, Nat.reduceSub, Nat.reduceAdd, Nat.reduceLeDiff, List.nil_append, List.cons_append, List.append_nil, List.set, List.getElem?_cons_zero, List.getElem?_cons_succ, List.getElem?_nil, setAll, fNot, eq_self, if_true, if_false, reduceIte, id_eq, decide_true, decide_false, Bool.false_eq_true, Bool.true_eq_false, Bool.not_true, Bool.not_false, Bool.true_or, Bool.false_or, Bool.or_true, Bool.or_false, Bool.true_and, Bool.false_and, Bool.and_true, Bool.and_false,k1, h1, h2]
theorem se6 {F : List D → S → R D} (h1 : F [x, y] st = .ok a st) (h2 : F__law_same [a, a] st = .ok (.bl true) st) :
    sRet (gDef 2 F__law_same (gCons (gKw 2 2 [1, 0] F (gCons (gVar 3) (gCons (gVar 2) gNil))) (gCons (gDef 2 F (gCons (gVar 2) (gCons (gVar 3) gNil))) gNil))) [o0, o1, some x, some y, o4, o5, o6, some b, o8, o9, some n] st = .rt (.bl true) st := by
  have k1 : gKw 2 2 [1, 0] F (gCons (gVar 3) (gCons (gVar 2) gNil)) [o0, o1, some x, some y, o4, o5, o6, some b, o8, o9, some n] st = .ok a st := kw2 rfl rfl h1
  simp -implicitDefEqProofs only [ap_fnF, ap_seq, ap_skip, ap_if, ap_ret, ap_asg, ap_asg2, ap_drop, ap_par, ap_par3, ap_unp, ap_for, ap_forL, ap_var, ap_c, ap_bin, ap_un, ap_nil, ap_cons, ap_call, ap_def, ap_tr, ap_not, ap_and, ap_or, ap_andv, ap_orv, ap_ife, ap_of, ap_mul, ap_div, ap_mod, ap_sub, ap_addi, ap_lt, ap_le, ap_gt, ap_ge, ap_eqi, ap_nei, ap_eqs, ap_neg, ap_truth, ap_bits, List.length, Nat.reduceSub, Nat.reduceAdd, Nat.reduceLeDiff, List.nil_append, List.cons_append, List.append_nil, List.set, List.getElem?_cons_zero, List.getElem?_cons_succ, List.getElem?_nil, setAll, fNot, eq_self, if_true, if_false, reduceIte, id_eq, decide_true, decide_false, Bool.false_eq_true, Bool.true_eq_false, Bool.not_true, Bool.not_false, Bool.true_or, Bool.false_or, Bool.or_true, Bool.or_false, Bool.true_and, Bool.false_and, Bool.and_true, Bool.and_false,k1, h1, h2]
end
theorem p_law_spans {l : Nat} (h : Row st l) : ∃ st', F__law_spans [.loc l] st = .ok (.bl true) st' ∧ Row st' l := by
  obtain ⟨r2, st2, lp, ⟨o1, o4, o5, o6, o8, o9, p, q, b, n, rfl, hp, hq, hb, hn⟩, hr⟩ := loopV_inv (t := tgV 1) (body := b__law_spans_1) (P := fun r s => (∃ o1 o2 o3 o4 o5 o6 o7 o8 o9 o10, r = [some (.loc l), o1, o2, o3, o4, o5, o6, o7, o8, o9, o10]) ∧ Row s l)
    (Q := fun r s => SpSt l r ∧ Row s l) (fun r s ⟨⟨o1, o4, o5, o6, o8, o9, p, q, b, n, e, _⟩, hr⟩ => ⟨⟨o1, _, _, _, _, _, _, _, _, _, e⟩, hr⟩)
    (fun d r s ⟨⟨o1, o2, o3, o4, o5, o6, o7, o8, o9, o10, e⟩, hr⟩ => by
      subst e
      obtain ⟨r', st', e, hs, hr'⟩ := s_turn (o1 := some d) (o2 := o2) (o3 := o3) (o4 := o4) (o5 := o5) (o6 := o6) (o7 := o7) (o8 := o8) (o9 := o9) (o10 := o10) hr
      exact ⟨_, r', st', rfl, e, hs, hr'⟩)
    [.int 0, .int 1, .int 2, .int 3] [some (.loc l), none, none, none, none, none, none, none, none, none, none] st ⟨⟨_, _, _, _, _, _, _, _, _, _, rfl⟩, h⟩ (by simp)
  refine ⟨st2, fn_rt (N := N__law_spans) (g := g__law_spans) (r := [some (.loc l), none, none, none, none, none, none, none, none, none, none]) rfl ?_, hr⟩
  unfold g__law_spans
  exact seq_nx (for4 (k := 1) (by decide) lp) (seq_nx (se1 (p_scaled_span hp hb) (p_same sm_ds)) (seq_nx (se2 (p_span_within hq hp) dsx0 dsx1 (p_held hp hq.a) (p_held hp hq.b) p_truth) (seq_nx (se3 (p_holds hp hn) (p_held hp hn) p_truth) (seq_nx (se4 (p_spans_apart hp hq) p_truth)
    (seq_nx (se5 (p_span_plus hp hq) (p_same sm_ds)) (seq_nx (se5 (p_span_times hp hq) (p_same sm_ds)) (se6 (p_span_minus hp hq) (p_same sm_ds))))))))
end K00
end Sv
set_option Elab.async false
set_option linter.all false
set_option maxRecDepth 100000
set_option maxHeartbeats 4000000
set_option exponentiation.threshold 10000
namespace Sv
open PySem PySem.Spec PyProof.Rows L2
namespace K00
variable {st : S}
/-! ### the law's corners -/
def stepc (p : Sp) (c : List Qt) : List (List Qt) := if isW p = true then [c ++ [p.1], c ++ [p.2]] else [c ++ [p.1]]
theorem stepc_cors {p : Sp} {r : List Sp} (c : List Qt) : (stepc p c).flatMap (fun x => (cors r).map (x ++ ·)) = (cors (p :: r)).map (c ++ ·) := by
  unfold stepc
  cases hp : isW p with
  | true =>
    rw [if_pos rfl, cors_wide hp, List.map_append, List.map_map, List.map_map]
    simp only [List.flatMap_cons, List.flatMap_nil, List.append_nil]
    congr 1
    · refine List.map_congr_left fun x _ => ?_
      simp
    · refine List.map_congr_left fun x _ => ?_
      simp
  | false =>
    rw [if_neg Bool.false_ne_true, cors_flat hp, List.map_map]
    simp only [List.flatMap_cons, List.flatMap_nil, List.append_nil]
    refine List.map_congr_left fun x _ => ?_
    simp
theorem add_tup {xs : List D} {d : D} (h : xs.length < 1000) : fAdd false (.tup xs) (.tup [d]) st = .ok (.tup (xs ++ [d])) st := by
  show (if xs.length + 1 ≤ 100000 then R.ok (D.tup (xs ++ [d])) st else R.bad) = _
  rw [if_pos (by omega)]
theorem ev_lcw {p : Sp} {l1 l2 : Nat} {o0 : Option D} {C C1 C2 : D} {st1 st2 : S} (a1 : ∀ st, fAdd false C (.tup [dq p.1]) st = .ok C1 st) (a2 : ∀ st, fAdd false C (.tup [dq p.2]) st = .ok C2 st) (h : (decide (p.1 = p.2)) = false) (f1 : fApp (.loc l2) C1 st = .ok .non st1) (f2 : fApp (.loc l2) C2 st1 = .ok .non st2) :
    b__law_corners_1 [o0, some (.loc l1), some (ds p), some (.loc l2), some C] st = .nx [o0, some (.loc l1), some (ds p), some (.loc l2), some C] st2 := by
  have t : ∀ (a : D) (st : S), fTup [a] st = .ok (.tup [a]) st := fun _ _ => rfl
  unfold b__law_corners_1
  simp -implicitDefEqProofs only [ap_fnF, ap_seq, ap_skip, ap_if, ap_ret, ap_asg, ap_asg2, ap_drop, ap_par, ap_par3, ap_unp, ap_for, ap_forL, ap_var, ap_c, ap_bin, ap_un, ap_nil, ap_cons, ap_call, ap_def, ap_tr, ap_not, ap_and, ap_or, ap_andv, ap_orv, ap_ife, ap_of, ap_mul, ap_div, ap_mod, ap_sub, ap_addi, ap_lt, ap_le, ap_gt, ap_ge, ap_eqi, ap_nei, ap_eqs, ap_neg, ap_truth, ap_bits, List.length, Nat.reduceSub, Nat.reduceAdd, Nat.reduceLeDiff, List.nil_append, List.cons_append, List.append_nil, List.set, List.getElem?_cons_zero, List.getElem?_cons_succ, List.getElem?_nil, setAll, fNot, eq_self, if_true, if_false, reduceIte, id_eq, decide_true, decide_false, Bool.false_eq_true, Bool.true_eq_false, Bool.not_true, Bool.not_false, Bool.true_or, Bool.false_or, Bool.or_true, Bool.or_false, Bool.true_and, Bool.false_and, Bool.and_true, Bool.and_false,ap_app, dsx0, dsx1, ne_q, t, a1, a2, f1, f2, h]
theorem ev_lcf {p : Sp} {l1 l2 : Nat} {o0 : Option D} {C C1 : D} {st1 : S} (a1 : ∀ st, fAdd false C (.tup [dq p.1]) st = .ok C1 st) (h : (decide (p.1 = p.2)) = true) (f1 : fApp (.loc l2) C1 st = .ok .non st1) :
    b__law_corners_1 [o0, some (.loc l1), some (ds p), some (.loc l2), some C] st = .nx [o0, some (.loc l1), some (ds p), some (.loc l2), some C] st1 := by
  have t : ∀ (a : D) (st : S), fTup [a] st = .ok (.tup [a]) st := fun _ _ => rfl
  unfold b__law_corners_1
  simp -implicitDefEqProofs only [ap_fnF, ap_seq, ap_skip, ap_if, ap_ret, ap_asg, ap_asg2, ap_drop, ap_par, ap_par3, ap_unp, ap_for, ap_forL, ap_var, ap_c, ap_bin, ap_un, ap_nil, ap_cons, ap_call, ap_def, ap_tr, ap_not, ap_and, ap_or, ap_andv, ap_orv, ap_ife, ap_of, ap_mul, ap_div, ap_mod, ap_sub, ap_addi, ap_lt, ap_le, ap_gt, ap_ge, ap_eqi, ap_nei, ap_eqs, ap_neg, ap_truth, ap_bits, List.length, Nat.reduceSub, Nat.reduceAdd, Nat.reduceLeDiff, List.nil_append, List.cons_append, List.append_nil, List.set, List.getElem?_cons_zero, List.getElem?_cons_succ, List.getElem?_nil, setAll, fNot, eq_self, if_true, if_false, reduceIte, id_eq, decide_true, decide_false, Bool.false_eq_true, Bool.true_eq_false, Bool.not_true, Bool.not_false, Bool.true_or, Bool.false_or, Bool.or_true, Bool.or_false, Bool.true_and, Bool.false_and, Bool.and_true, Bool.and_false,ap_app, dsx0, dsx1, ne_q, t, a1, f1, h]
theorem lc_turn {p : Sp} {l1 l2 : Nat} {o0 : Option D} {c : List Qt} {done : List (List Qt)} (hl : st[l2]? = some (done.map dp)) (hd : done.length < 10000) (hc : c.length < 1000) :
    b__law_corners_1 [o0, some (.loc l1), some (ds p), some (.loc l2), some (dp c)] st = .nx [o0, some (.loc l1), some (ds p), some (.loc l2), some (dp c)] (st.set l2 ((done ++ stepc p c).map dp)) := by
  have a : ∀ (q : Qt) (st : S), fAdd false (dp c) (.tup [dq q]) st = .ok (dp (c ++ [q])) st := fun q st => by
    unfold dp
    rw [add_tup (by rw [List.length_map]; exact hc), List.map_append]
    rfl
  have hll := (List.getElem?_eq_some_iff.mp hl).1
  have f1 := fapp (d := dp (c ++ [p.1])) hl (by rw [List.length_map]; omega)
  unfold stepc
  cases hp : isW p with
  | true =>
    have h : decide (p.1 = p.2) = false := by
      have z : (!decide (p.1 = p.2)) = true := hp
      cases k : decide (p.1 = p.2)
      · rfl
      · rw [k] at z
        cases z
    rw [if_pos rfl]
    refine ev_lcw (a p.1) (a p.2) h f1 ?_
    rw [fapp (xs := done.map dp ++ [dp (c ++ [p.1])]) (by rw [List.getElem?_set_self hll]) (by rw [List.length_append, List.length_map, List.length_singleton]; omega), List.set_set]
    congr 2
    simp
  | false =>
    have h : decide (p.1 = p.2) = true := by
      have z : (!decide (p.1 = p.2)) = false := hp
      cases k : decide (p.1 = p.2)
      · rw [k] at z
        cases z
      · rfl
    rw [if_neg Bool.false_ne_true]
    rw [ev_lcf (a p.1) h f1]
    congr 2
    simp
theorem lc_in {p : Sp} {l1 l2 : Nat} {o0 : Option D} {all : List (List Qt)} (hne : l2 ≠ l1) : ∀ (qs pre done : List (List Qt)) (o4 : Option D) (st : S), all = pre ++ qs → st[l1]? = some (all.map dp) → st[l2]? = some (done.map dp) → done.length + 2 * qs.length < 10000 → (∀ c ∈ qs, c.length < 1000) →
    ∃ o4', loopL (tgV 4) b__law_corners_1 l1 all.length qs.length [o0, some (.loc l1), some (ds p), some (.loc l2), o4] st = .nx [o0, some (.loc l1), some (ds p), some (.loc l2), o4'] (st.set l2 ((done ++ qs.flatMap (stepc p)).map dp))
  | [], pre, done, o4, st, ea, h1, h2, _, _ => by
    refine ⟨o4, ?_⟩
    show (match st[l1]? with
      | some ds' => if ds'.length = all.length then O.nx [o0, some (.loc l1), some (ds p), some (.loc l2), o4] st else .bad
      | none => .bad) = _
    rw [h1]
    dsimp only
    rw [if_pos (by rw [List.length_map])]
    have e : st.set l2 ((done ++ [].flatMap (stepc p)).map dp) = st := by
      rw [List.flatMap_nil, List.append_nil]
      refine List.ext_getElem? fun j => ?_
      by_cases z : l2 = j
      · subst z
        rw [List.getElem?_set_self (List.getElem?_eq_some_iff.mp h2).1, h2]
      · rw [List.getElem?_set_ne z]
    rw [e]
  | c :: qs, pre, done, o4, st, ea, h1, h2, hs, hc => by
    have t := lc_turn (st := st) (p := p) (l1 := l1) (o0 := o0) (c := c) h2 (by rw [List.length_cons] at hs; omega) (hc c (List.mem_cons_self ..))
    have hll := (List.getElem?_eq_some_iff.mp h2).1
    have sl : (stepc p c).length ≤ 2 := by
      unfold stepc
      split <;> simp
    obtain ⟨o4', ih⟩ := lc_in (all := all) hne qs (pre ++ [c]) (done ++ stepc p c) (some (dp c)) (st.set l2 ((done ++ stepc p c).map dp)) (by rw [ea]; simp) (by rw [List.getElem?_set_ne hne]; exact h1) (by rw [List.getElem?_set_self hll]) (by
      rw [List.length_append]
      rw [List.length_cons] at hs
      omega) fun c' h' => hc c' (List.mem_cons_of_mem _ h')
    refine ⟨o4', ?_⟩
    rw [List.length_cons]
    unfold loopL
    have e : (all.map dp)[all.length - (qs.length + 1)]? = some (dp c) := by
      rw [ea, List.map_append, List.getElem?_append_right (by rw [List.length_map, List.length_append, List.length_cons]; omega), List.length_map, List.length_append, List.length_cons]
      rw [show pre.length + (qs.length + 1) - (qs.length + 1) - pre.length = 0 by omega]
      rfl
    rw [h1]
    dsimp only
    rw [if_pos (by rw [List.length_map]), e]
    dsimp only [tgV, List.set]
    rw [t]
    dsimp only
    rw [ih, List.set_set]
    simp only [List.flatMap_cons, List.append_assoc]
theorem flat_len {p : Sp} : ∀ qs : List (List Qt), (qs.flatMap (stepc p)).length ≤ 2 * qs.length
  | [] => by simp
  | c :: qs => by
    have := flat_len (p := p) qs
    have sl : (stepc p c).length ≤ 2 := by
      unfold stepc
      split <;> simp
    rw [List.flatMap_cons, List.length_append, List.length_cons]
    omega
theorem ev_lc2 {l1 l2 : Nat} {o0 o3 o4 o4' : Option D} {side : D} {st1 st2 : S} (h1 : nl true [] st = .ok (.loc l2) st1) (h2 : sForL (iLoc (gVar 1)) (tgV 4) b__law_corners_1 [o0, some (.loc l1), some side, some (.loc l2), o4] st1 = .nx [o0, some (.loc l1), some side, some (.loc l2), o4'] st2) :
    b__law_corners_2 [o0, some (.loc l1), some side, o3, o4] st = .nx [o0, some (.loc l2), some side, some (.loc l2), o4'] st2 := by
  unfold b__law_corners_2
  generalize sForL (iLoc (gVar 1)) (tgV 4) b__law_corners_1 = lp at h2 ⊢
  simp -implicitDefEqProofs only [ap_fnF, ap_seq, ap_skip, ap_if, ap_ret, ap_asg, ap_asg2, ap_drop, ap_par, ap_par3, ap_unp, ap_for, ap_forL, ap_var, ap_c, ap_bin, ap_un, ap_nil, ap_cons, ap_call, ap_def, ap_tr, ap_not, ap_and, ap_or, ap_andv, ap_orv, ap_ife, ap_of, ap_mul, ap_div, ap_mod, ap_sub, ap_addi, ap_lt, ap_le, ap_gt, ap_ge, ap_eqi, ap_nei, ap_eqs, ap_neg, ap_truth, ap_bits, List.length, Nat.reduceSub, Nat.reduceAdd, Nat.reduceLeDiff, List.nil_append, List.cons_append, List.append_nil, List.set, List.getElem?_cons_zero, List.getElem?_cons_succ, List.getElem?_nil, setAll, fNot, eq_self, if_true, if_false, reduceIte, id_eq, decide_true, decide_false, Bool.false_eq_true, Bool.true_eq_false, Bool.not_true, Bool.not_false, Bool.true_or, Bool.false_or, Bool.or_true, Bool.or_false, Bool.true_and, Bool.false_and, Bool.and_true, Bool.and_false,h1, h2]
theorem lc_out {o0 : Option D} : ∀ (ps : List Sp) (acc : List (List Qt)) (l1 : Nat) (o2 o3 o4 : Option D) (st : S), st[l1]? = some (acc.map dp) → (∀ c ∈ acc, c.length + ps.length < 1000) → acc.length * 2 ^ ps.length ≤ 1000 →
    ∃ l' r' ex, loopV (tgV 2) b__law_corners_2 (ps.map ds) [o0, some (.loc l1), o2, o3, o4] st = .nx (o0 :: some (.loc l') :: r') (st ++ ex) ∧ (st ++ ex)[l']? = some ((acc.flatMap fun c => (cors ps).map (c ++ ·)).map dp)
  | [], acc, l1, o2, o3, o4, st, h1, _, _ => by
    refine ⟨l1, [o2, o3, o4], [], by rw [List.append_nil]; rfl, ?_⟩
    rw [List.append_nil, h1, cors_nil]
    have e : acc.flatMap (fun c => [[]].map (c ++ ·)) = acc := by
      simp
    rw [e]
  | p :: r, acc, l1, o2, o3, o4, st, h1, hc, hs => by
    have hlt := (List.getElem?_eq_some_iff.mp h1).1
    have p1 : 1 ≤ 2 ^ r.length := Nat.one_le_two_pow
    have hs2 : acc.length * 2 * 2 ^ r.length ≤ 1000 := by
      rw [List.length_cons, Nat.pow_succ, Nat.mul_comm (2 ^ r.length) 2, ← Nat.mul_assoc] at hs
      exact hs
    have hs3 : acc.length * 2 ≤ 1000 := Nat.le_trans (Nat.le_mul_of_pos_right _ p1) hs2
    have h1' : (st ++ [([] : List D)])[l1]? = some (acc.map dp) := by rw [List.getElem?_append_left hlt]; exact h1
    have h2' : (st ++ [([] : List D)])[st.length]? = some (([] : List (List Qt)).map dp) := by
      rw [List.getElem?_append_right (Nat.le_refl _), Nat.sub_self]
      rfl
    obtain ⟨o4', lp⟩ := lc_in (p := p) (o0 := o0) (all := acc) (l1 := l1) (l2 := st.length) (by omega) acc [] [] o4 (st ++ [[]]) rfl h1' h2' (by simp; omega) (fun c h => by have := hc c h; omega)
    have e2 : (st ++ [([] : List D)]).set st.length (([] ++ acc.flatMap (stepc p)).map dp) = st ++ [(acc.flatMap (stepc p)).map dp] := by
      rw [List.set_append_right _ _ (Nat.le_refl _), Nat.sub_self]
      rfl
    rw [e2] at lp
    have t := ev_lc2 (st := st) (o0 := o0) (o3 := o3) (o4 := o4) (o4' := o4') (l1 := l1) (l2 := st.length) (side := ds p) (st1 := st ++ [[]]) (st2 := st ++ [(acc.flatMap (stepc p)).map dp]) (nl_loc (by decide)) (by
      rw [ap_forL]
      have gi : iLoc (gVar 1) [o0, some (.loc l1), some (ds p), some (.loc st.length), o4] (st ++ [[]]) = .ok (l1, acc.length) (st ++ [[]]) := by
        show (match (st ++ [([] : List D)])[l1]? with
          | some ds => R.ok (l1, ds.length) (st ++ [[]])
          | none => .bad) = _
        rw [h1']
        dsimp only
        rw [List.length_map]
      rw [gi]
      exact lp)
    obtain ⟨l', r', ex, ih, at'⟩ := lc_out r (acc.flatMap (stepc p)) st.length (some (ds p)) (some (.loc st.length)) o4' (st ++ [(acc.flatMap (stepc p)).map dp]) (by
      rw [List.getElem?_append_right (Nat.le_refl _), Nat.sub_self]
      rfl) (fun c h => by
        obtain ⟨b, hb, hcb⟩ := List.mem_flatMap.mp h
        have := hc b hb
        unfold stepc at hcb
        rw [List.length_cons] at this
        split at hcb
        · rcases List.mem_cons.mp hcb with rfl | hcb
          · rw [List.length_append, List.length_singleton]; omega
          · rw [List.mem_singleton.mp hcb, List.length_append, List.length_singleton]; omega
        · rw [List.mem_singleton.mp hcb, List.length_append, List.length_singleton]; omega) (by
        have := flat_len (p := p) acc
        have z : (acc.flatMap (stepc p)).length * 2 ^ r.length ≤ acc.length * 2 * 2 ^ r.length := Nat.mul_le_mul_right _ (by omega)
        omega)
    refine ⟨l', r', [(acc.flatMap (stepc p)).map dp] ++ ex, ?_, ?_⟩
    · rw [List.map_cons]
      unfold loopV
      show (match b__law_corners_2 [o0, some (.loc l1), some (ds p), o3, o4] st with
        | .nx r2 st2 => loopV (tgV 2) b__law_corners_2 (r.map ds) r2 st2
        | .ct r2 st2 => loopV (tgV 2) b__law_corners_2 (r.map ds) r2 st2
        | .bk r2 st2 => .nx r2 st2
        | o => o) = _
      rw [t]
      dsimp only
      rw [ih, List.append_assoc]
    · rw [← List.append_assoc, at']
      congr 2
      rw [List.flatMap_assoc]
      congr 1
      funext c
      exact stepc_cors c
theorem p_law_corners {ps : List Sp} (hl : ps.length ≤ 8) : ∃ l' ex, F__law_corners [db ps] st = .ok (.loc l') (st ++ ex) ∧ (st ++ ex)[l']? = some ((cors ps).map dp) := by
  have h0 : (st ++ [[dp []]])[st.length]? = some (([[]] : List (List Qt)).map dp) := by
    rw [List.getElem?_append_right (Nat.le_refl _), Nat.sub_self]
    rfl
  have p8 : 2 ^ ps.length ≤ 256 := Nat.pow_le_pow_right (by decide) hl
  obtain ⟨l', r', ex, lp, at'⟩ := lc_out (o0 := some (db ps)) ps [[]] st.length none none none (st ++ [[dp []]]) h0 (fun c h => by
    rw [List.mem_singleton.mp h]
    simp
    omega) (by simp; omega)
  refine ⟨l', [[dp []]] ++ ex, ?_, ?_⟩
  · refine fn_rt (N := N__law_corners) (g := g__law_corners) (r := [some (db ps), none, none, none, none]) rfl ?_
    unfold g__law_corners
    have e0 : fTup [] st = .ok (.tup []) st := rfl
    have e1 : nl true [.tup []] st = .ok (.loc st.length) (st ++ [[.tup []]]) := nl_loc (by decide)
    have s1 : sAsg 1 (gCall (nl true) (gCons (gCall fTup gNil) gNil)) [some (db ps), none, none, none, none] st = .nx [some (db ps), some (.loc st.length), none, none, none] (st ++ [[dp []]]) := by
      simp -implicitDefEqProofs only [ap_fnF, ap_seq, ap_skip, ap_if, ap_ret, ap_asg, ap_asg2, ap_drop, ap_par, ap_par3, ap_unp, ap_for, ap_forL, ap_var, ap_c, ap_bin, ap_un, ap_nil, ap_cons, ap_call, ap_def, ap_tr, ap_not, ap_and, ap_or, ap_andv, ap_orv, ap_ife, ap_of, ap_mul, ap_div, ap_mod, ap_sub, ap_addi, ap_lt, ap_le, ap_gt, ap_ge, ap_eqi, ap_nei, ap_eqs, ap_neg, ap_truth, ap_bits, List.length, Nat.reduceSub, Nat.reduceAdd, Nat.reduceLeDiff, List.nil_append, List.cons_append, List.append_nil, List.set, List.getElem?_cons_zero, List.getElem?_cons_succ, List.getElem?_nil, setAll, fNot, eq_self, if_true, if_false, reduceIte, id_eq, decide_true, decide_false, Bool.false_eq_true, Bool.true_eq_false, Bool.not_true, Bool.not_false, Bool.true_or, Bool.false_or, Bool.or_true, Bool.or_false, Bool.true_and, Bool.false_and, Bool.and_true, Bool.and_false,e0, e1]
      rfl
    have s2 : sFor (iSq (gVar 0)) (tgV 2) b__law_corners_2 [some (db ps), some (.loc st.length), none, none, none] (st ++ [[dp []]]) = .nx (some (db ps) :: some (.loc l') :: r') (st ++ [[dp []]] ++ ex) := by
      rw [ap_for]
      exact lp
    refine seq_nx s1 (seq_nx s2 ?_)
    rw [← List.append_assoc]
    rfl
  · rw [← List.append_assoc, at']
    congr 2
    simp
end K00
end Sv
set_option Elab.async false
set_option linter.all false
set_option maxRecDepth 100000
set_option maxHeartbeats 4000000
set_option exponentiation.threshold 10000
namespace Sv
open PySem PySem.Spec PyProof.Rows L2
namespace K00
variable {st : S}
/-! ### what is wrong -/
theorem pick_at {xs : List D} {k : Int} (h0 : 0 ≤ k) (h1 : k < (xs.length : Int)) : ∃ d ∈ xs, ∀ st : S, fIx (.tup xs) (.int k) st = .ok d st := by
  obtain ⟨n, rfl⟩ : ∃ n : Nat, k = (n : Int) := ⟨k.toNat, by omega⟩
  have hn : n < xs.length := by omega
  exact ⟨xs[n], List.getElem_mem hn, fun st => tix (List.getElem?_eq_getElem hn)⟩
theorem len_tup {xs : List D} : fLen [.tup xs] st = .ok (.int xs.length) st := rfl
/-- one of a tuple's values, drawn -/
theorem p_pick {l : Nat} {xs : List D} {r : En} {i j : Nat} (h : Row st l) (hx : 0 < xs.length) (hi : r[i]? = some (some (.tup xs))) (hl : r[j]? = some (some (.loc l))) :
    ∃ d ∈ xs, ∃ st', gBin fIx (gVar i) (gDef 2 F__law_take (gCons (gVar j) (gCons (gCall fLen (gCons (gVar i) gNil)) gNil))) r st = .ok d st' ∧ Row st' l := by
  obtain ⟨v, st', e, v0, v1, r'⟩ := p_draw (xs.length : Int) h (by omega)
  obtain ⟨d, hd, ed⟩ := pick_at v0 v1
  refine ⟨d, hd, st', ?_, r'⟩
  have t := len_tup (st := st) (xs := xs)
  have t2 := ed st'
  simp -implicitDefEqProofs only [ap_bin, ap_def, ap_call, ap_cons, ap_nil, ap_var, hi, hl, t, List.length, Nat.reduceAdd, if_true, e, t2]
def q01 : D := .tup [.int 0, .int 1]
def q11 : D := .tup [.int 1, .int 1]
def badS : List D := [.non, q01, .tup [q11, q01], .lv [q01, q11], .tup [q01], .tup [q01, q11, .tup [.int 2, .int 1]], .tup [q01, .tup [.int 2, .int 2]], .tup [q01, .bl true], .str "0:1", .int 3, .tup [], .tup [.tup [.int 1, .int (-1)], q11], .tup [q01, .lv [.int 1, .int 1]], .tup [.tup [.int (-1), .int 2], .tup [.int (-1), .int 1]]]
theorem p_bad_spans : F__law_bad_spans [] st = .ok (.tup badS) st := rfl
theorem ev_span_no {d : D} (h : F_is_pair [d] st = .ok (.bl false) st) : F_is_span [d] st = .ok (.bl false) st := by
  have hs : startD N_is_span [d] = [some d, none, none] := rfl
  unfold F_is_span
  rw [ap_fnF, hs]
  unfold g_is_span
  simp -implicitDefEqProofs only [ap_fnF, ap_seq, ap_skip, ap_if, ap_ret, ap_asg, ap_asg2, ap_drop, ap_par, ap_par3, ap_unp, ap_for, ap_forL, ap_var, ap_c, ap_bin, ap_un, ap_nil, ap_cons, ap_call, ap_def, ap_tr, ap_not, ap_and, ap_or, ap_andv, ap_orv, ap_ife, ap_of, ap_mul, ap_div, ap_mod, ap_sub, ap_addi, ap_lt, ap_le, ap_gt, ap_ge, ap_eqi, ap_nei, ap_eqs, ap_neg, ap_truth, ap_bits, List.length, Nat.reduceSub, Nat.reduceAdd, Nat.reduceLeDiff, List.nil_append, List.cons_append, List.append_nil, List.set, List.getElem?_cons_zero, List.getElem?_cons_succ, List.getElem?_nil, setAll, fNot, eq_self, if_true, if_false, reduceIte, id_eq, decide_true, decide_false, Bool.false_eq_true, Bool.true_eq_false, Bool.not_true, Bool.not_false, Bool.true_or, Bool.false_or, Bool.or_true, Bool.or_false, Bool.true_and, Bool.false_and, Bool.and_true, Bool.and_false,h]
theorem ev_span_nof {a b : D} (h : F_is_pair [.tup [a, b]] st = .ok (.bl true) st) (h1 : F_is_quotient [a] st = .ok (.bl false) st) : F_is_span [.tup [a, b]] st = .ok (.bl false) st := by
  have hs : startD N_is_span [.tup [a, b]] = [some (.tup [a, b]), none, none] := rfl
  unfold F_is_span
  rw [ap_fnF, hs]
  unfold g_is_span
  simp -implicitDefEqProofs only [ap_fnF, ap_seq, ap_skip, ap_if, ap_ret, ap_asg, ap_asg2, ap_drop, ap_par, ap_par3, ap_unp, ap_for, ap_forL, ap_var, ap_c, ap_bin, ap_un, ap_nil, ap_cons, ap_call, ap_def, ap_tr, ap_not, ap_and, ap_or, ap_andv, ap_orv, ap_ife, ap_of, ap_mul, ap_div, ap_mod, ap_sub, ap_addi, ap_lt, ap_le, ap_gt, ap_ge, ap_eqi, ap_nei, ap_eqs, ap_neg, ap_truth, ap_bits, List.length, Nat.reduceSub, Nat.reduceAdd, Nat.reduceLeDiff, List.nil_append, List.cons_append, List.append_nil, List.set, List.getElem?_cons_zero, List.getElem?_cons_succ, List.getElem?_nil, setAll, fNot, eq_self, if_true, if_false, reduceIte, id_eq, decide_true, decide_false, Bool.false_eq_true, Bool.true_eq_false, Bool.not_true, Bool.not_false, Bool.true_or, Bool.false_or, Bool.or_true, Bool.or_false, Bool.true_and, Bool.false_and, Bool.and_true, Bool.and_false,h, h1]
theorem ev_span_nos {a b : D} (h : F_is_pair [.tup [a, b]] st = .ok (.bl true) st) (h1 : F_is_quotient [a] st = .ok (.bl true) st) (h2 : F_is_quotient [b] st = .ok (.bl false) st) : F_is_span [.tup [a, b]] st = .ok (.bl false) st := by
  have hs : startD N_is_span [.tup [a, b]] = [some (.tup [a, b]), none, none] := rfl
  unfold F_is_span
  rw [ap_fnF, hs]
  unfold g_is_span
  simp -implicitDefEqProofs only [ap_fnF, ap_seq, ap_skip, ap_if, ap_ret, ap_asg, ap_asg2, ap_drop, ap_par, ap_par3, ap_unp, ap_for, ap_forL, ap_var, ap_c, ap_bin, ap_un, ap_nil, ap_cons, ap_call, ap_def, ap_tr, ap_not, ap_and, ap_or, ap_andv, ap_orv, ap_ife, ap_of, ap_mul, ap_div, ap_mod, ap_sub, ap_addi, ap_lt, ap_le, ap_gt, ap_ge, ap_eqi, ap_nei, ap_eqs, ap_neg, ap_truth, ap_bits, List.length, Nat.reduceSub, Nat.reduceAdd, Nat.reduceLeDiff, List.nil_append, List.cons_append, List.append_nil, List.set, List.getElem?_cons_zero, List.getElem?_cons_succ, List.getElem?_nil, setAll, fNot, eq_self, if_true, if_false, reduceIte, id_eq, decide_true, decide_false, Bool.false_eq_true, Bool.true_eq_false, Bool.not_true, Bool.not_false, Bool.true_or, Bool.false_or, Bool.or_true, Bool.or_false, Bool.true_and, Bool.false_and, Bool.and_true, Bool.and_false,h, h1, h2]
theorem ev_span_no3 {p : Qt × Qt} (h1 : W 3000 p.1) (h2 : W 3000 p.2) (h : isSp p = false) : F_is_span [ds p] st = .ok (.bl false) st := by rw [p_is_span h1 h2, h]
theorem notPair {d : D} (h : ∀ n, d ≠ .ty n) (k : isPair d = false) : F_is_pair [d] st = .ok (.bl false) st := by rw [p_is_pair h, k]
theorem yesPair {a b : D} : F_is_pair [.tup [a, b]] st = .ok (.bl true) st := by rw [p_is_pair fun n z => by cases z]; rfl
theorem qt_of {d : D} {c : Bool} (h : nt d = true) (k : isQt d = c) : F_is_quotient [d] st = .ok (.bl c) st := by rw [p_is_quotient h, k]
theorem bad_span {d : D} (hd : d ∈ badS) : F_is_span [d] st = .ok (.bl false) st := by
  simp only [badS, List.mem_cons, List.not_mem_nil, or_false] at hd
  rcases hd with rfl | rfl | rfl | rfl | rfl | rfl | rfl | rfl | rfl | rfl | rfl | rfl | rfl | rfl
  · exact ev_span_no (notPair (fun n z => by cases z) rfl)
  · exact ev_span_nof yesPair (qt_of rfl rfl)
  · exact ev_span_no3 (p := ((1, 1), (0, 1))) (W.mono (n := 2) ⟨by decide, by decide⟩ (by decide)) (W.mono (n := 2) ⟨by decide, by decide⟩ (by decide)) (by decide)
  · exact ev_span_no (notPair (fun n z => by cases z) rfl)
  · exact ev_span_no (notPair (fun n z => by cases z) rfl)
  · exact ev_span_no (notPair (fun n z => by cases z) rfl)
  · exact ev_span_nos yesPair (qt_of rfl rfl) (qt_of rfl rfl)
  · exact ev_span_nos yesPair (qt_of rfl rfl) (qt_of rfl rfl)
  · exact ev_span_no (notPair (fun n z => by cases z) rfl)
  · exact ev_span_no (notPair (fun n z => by cases z) rfl)
  · exact ev_span_no (notPair (fun n z => by cases z) rfl)
  · exact ev_span_nof yesPair (qt_of rfl rfl)
  · exact ev_span_nos yesPair (qt_of rfl rfl) (qt_of rfl rfl)
  · exact ev_span_no3 (p := ((-1, 2), (-1, 1))) (W.mono (n := 2) ⟨by decide, by decide⟩ (by decide)) (W.mono (n := 2) ⟨by decide, by decide⟩ (by decide)) (by decide)
/-! ### refused quotients -/
def badQ : List D := [.non, .bl true, .int 3, .str "1/2", .lv [.int 1, .int 2], .tup [.int 1], .tup [.int 1, .int 2, .int 3], .tup [.int 2, .int 4], .tup [.int 1, .int 0], .tup [.int 1, .int (-2)], .tup [.bl true, .int 1], .tup [.int 1, .bl true], .tup [.int 0, .int 2], .tup [.int 0, .int (-1)], .tup [], .tup [q01, q11], .int 0, .tup [.int 0, .int 0]]
theorem bad_quot {d : D} (hd : d ∈ badQ) : nt d = true ∧ isQt d = false := by
  simp only [badQ, List.mem_cons, List.not_mem_nil, or_false] at hd
  rcases hd with rfl | rfl | rfl | rfl | rfl | rfl | rfl | rfl | rfl | rfl | rfl | rfl | rfl | rfl | rfl | rfl | rfl | rfl <;> exact ⟨by decide, by decide⟩
section
variable {p : Qt × Qt} {d : D}
theorem ev_sp2 {F : List D → S → R D} {N : List Str} {body : GS} {A : D} {o2 : En} (hF : F = fnF N (gSeq (sDrop (gDef 2 F_ask (gCons (gDef 1 F_is_span (gCons (gVar 1) gNil)) (gCons (gC (.str "other")) gNil)))) body)) (hs : startD N [A, d] = some A :: some d :: o2) (q : F_is_span [d] st = .ok (.bl false) st) : F [A, d] st = .err "NotUsable" [("at", .int (-1)), ("word", .str "other")] st := by
  have a := p_ask_no (st := st) (w := "other")
  rw [hF, ap_fnF, hs]
  simp -implicitDefEqProofs only [ap_fnF, ap_seq, ap_skip, ap_if, ap_ret, ap_asg, ap_asg2, ap_drop, ap_par, ap_par3, ap_unp, ap_for, ap_forL, ap_var, ap_c, ap_bin, ap_un, ap_nil, ap_cons, ap_call, ap_def, ap_tr, ap_not, ap_and, ap_or, ap_andv, ap_orv, ap_ife, ap_of, ap_mul, ap_div, ap_mod, ap_sub, ap_addi, ap_lt, ap_le, ap_gt, ap_ge, ap_eqi, ap_nei, ap_eqs, ap_neg, ap_truth, ap_bits, List.length, Nat.reduceSub, Nat.reduceAdd, Nat.reduceLeDiff, List.nil_append, List.cons_append, List.append_nil, List.set, List.getElem?_cons_zero, List.getElem?_cons_succ, List.getElem?_nil, setAll, fNot, eq_self, if_true, if_false, reduceIte, id_eq, decide_true, decide_false, Bool.false_eq_true, Bool.true_eq_false, Bool.not_true, Bool.not_false, Bool.true_or, Bool.false_or, Bool.or_true, Bool.or_false, Bool.true_and, Bool.false_and, Bool.and_true, Bool.and_false,q, a]
theorem ev_sq2 {F : List D → S → R D} {N : List Str} {body : GS} {A : D} {o2 : En} (hF : F = fnF N (gSeq (sDrop (gDef 1 F_ask_quotient (gCons (gVar 1) gNil))) body)) (hs : startD N [A, d] = some A :: some d :: o2) (q : F_ask_quotient [d] st = .err "NotUsable" [("at", .int (-1)), ("word", .str "quotient")] st) : F [A, d] st = .err "NotUsable" [("at", .int (-1)), ("word", .str "quotient")] st := by
  rw [hF, ap_fnF, hs]
  simp -implicitDefEqProofs only [ap_fnF, ap_seq, ap_skip, ap_if, ap_ret, ap_asg, ap_asg2, ap_drop, ap_par, ap_par3, ap_unp, ap_for, ap_forL, ap_var, ap_c, ap_bin, ap_un, ap_nil, ap_cons, ap_call, ap_def, ap_tr, ap_not, ap_and, ap_or, ap_andv, ap_orv, ap_ife, ap_of, ap_mul, ap_div, ap_mod, ap_sub, ap_addi, ap_lt, ap_le, ap_gt, ap_ge, ap_eqi, ap_nei, ap_eqs, ap_neg, ap_truth, ap_bits, List.length, Nat.reduceSub, Nat.reduceAdd, Nat.reduceLeDiff, List.nil_append, List.cons_append, List.append_nil, List.set, List.getElem?_cons_zero, List.getElem?_cons_succ, List.getElem?_nil, setAll, fNot, eq_self, if_true, if_false, reduceIte, id_eq, decide_true, decide_false, Bool.false_eq_true, Bool.true_eq_false, Bool.not_true, Bool.not_false, Bool.true_or, Bool.false_or, Bool.or_true, Bool.or_false, Bool.true_and, Bool.false_and, Bool.and_true, Bool.and_false,q]
end
theorem ev_qo1 {a b : D} (h : F_is_integer [a] st = .ok (.bl false) st) : F_quotient_of [a, b] st = .err "NotUsable" [("at", .int (-1)), ("word", .str "top")] st := by
  have hs : startD N_quotient_of [a, b] = [some a, some b] := rfl
  have n := p_ask_no (st := st) (w := "top")
  unfold F_quotient_of
  rw [ap_fnF, hs]
  unfold g_quotient_of
  simp -implicitDefEqProofs only [ap_fnF, ap_seq, ap_skip, ap_if, ap_ret, ap_asg, ap_asg2, ap_drop, ap_par, ap_par3, ap_unp, ap_for, ap_forL, ap_var, ap_c, ap_bin, ap_un, ap_nil, ap_cons, ap_call, ap_def, ap_tr, ap_not, ap_and, ap_or, ap_andv, ap_orv, ap_ife, ap_of, ap_mul, ap_div, ap_mod, ap_sub, ap_addi, ap_lt, ap_le, ap_gt, ap_ge, ap_eqi, ap_nei, ap_eqs, ap_neg, ap_truth, ap_bits, List.length, Nat.reduceSub, Nat.reduceAdd, Nat.reduceLeDiff, List.nil_append, List.cons_append, List.append_nil, List.set, List.getElem?_cons_zero, List.getElem?_cons_succ, List.getElem?_nil, setAll, fNot, eq_self, if_true, if_false, reduceIte, id_eq, decide_true, decide_false, Bool.false_eq_true, Bool.true_eq_false, Bool.not_true, Bool.not_false, Bool.true_or, Bool.false_or, Bool.or_true, Bool.or_false, Bool.true_and, Bool.false_and, Bool.and_true, Bool.and_false,h, n]
theorem ev_qo2 {a b : D} (h : F_is_integer [a] st = .ok (.bl true) st) (h2 : F_is_integer [b] st = .ok (.bl false) st) : F_quotient_of [a, b] st = .err "NotUsable" [("at", .int (-1)), ("word", .str "bottom")] st := by
  have hs : startD N_quotient_of [a, b] = [some a, some b] := rfl
  have y := p_ask_yes (st := st) (w := "top")
  have n := p_ask_no (st := st) (w := "bottom")
  unfold F_quotient_of
  rw [ap_fnF, hs]
  unfold g_quotient_of
  simp -implicitDefEqProofs only [ap_fnF, ap_seq, ap_skip, ap_if, ap_ret, ap_asg, ap_asg2, ap_drop, ap_par, ap_par3, ap_unp, ap_for, ap_forL, ap_var, ap_c, ap_bin, ap_un, ap_nil, ap_cons, ap_call, ap_def, ap_tr, ap_not, ap_and, ap_or, ap_andv, ap_orv, ap_ife, ap_of, ap_mul, ap_div, ap_mod, ap_sub, ap_addi, ap_lt, ap_le, ap_gt, ap_ge, ap_eqi, ap_nei, ap_eqs, ap_neg, ap_truth, ap_bits, List.length, Nat.reduceSub, Nat.reduceAdd, Nat.reduceLeDiff, List.nil_append, List.cons_append, List.append_nil, List.set, List.getElem?_cons_zero, List.getElem?_cons_succ, List.getElem?_nil, setAll, fNot, eq_self, if_true, if_false, reduceIte, id_eq, decide_true, decide_false, Bool.false_eq_true, Bool.true_eq_false, Bool.not_true, Bool.not_false, Bool.true_or, Bool.false_or, Bool.or_true, Bool.or_false, Bool.true_and, Bool.false_and, Bool.and_true, Bool.and_false,h, h2, y, n]
theorem ev_qo3 {a : D} (h : F_is_integer [a] st = .ok (.bl true) st) : F_quotient_of [a, .int 0] st = .err "NotUsable" [("at", .int (-1)), ("word", .str "bottom")] st := by
  have hs : startD N_quotient_of [a, .int 0] = [some a, some (.int 0)] := rfl
  have y := p_ask_yes (st := st) (w := "top")
  have n := p_ask_no (st := st) (w := "bottom")
  have h2 : F_is_integer [.int 0] st = .ok (.bl true) st := p_is_integer (d := .int 0) fun n z => by cases z
  have z : decide ((0 : Int) = 0) = true := rfl
  unfold F_quotient_of
  rw [ap_fnF, hs]
  unfold g_quotient_of
  simp -implicitDefEqProofs only [ap_fnF, ap_seq, ap_skip, ap_if, ap_ret, ap_asg, ap_asg2, ap_drop, ap_par, ap_par3, ap_unp, ap_for, ap_forL, ap_var, ap_c, ap_bin, ap_un, ap_nil, ap_cons, ap_call, ap_def, ap_tr, ap_not, ap_and, ap_or, ap_andv, ap_orv, ap_ife, ap_of, ap_mul, ap_div, ap_mod, ap_sub, ap_addi, ap_lt, ap_le, ap_gt, ap_ge, ap_eqi, ap_nei, ap_eqs, ap_neg, ap_truth, ap_bits, List.length, Nat.reduceSub, Nat.reduceAdd, Nat.reduceLeDiff, List.nil_append, List.cons_append, List.append_nil, List.set, List.getElem?_cons_zero, List.getElem?_cons_succ, List.getElem?_nil, setAll, fNot, eq_self, if_true, if_false, reduceIte, id_eq, decide_true, decide_false, Bool.false_eq_true, Bool.true_eq_false, Bool.not_true, Bool.not_false, Bool.true_or, Bool.false_or, Bool.or_true, Bool.or_false, Bool.true_and, Bool.false_and, Bool.and_true, Bool.and_false,h, h2, y, n, z]
def tops : List D := [.non, .bl true, .str "1", q11, .lv [.int 1], .bl false, .str ""]
def bottoms : List D := [.int 0, .non, .bl true, .str "2", q11, .bl false, .lv []]
theorem bad_top {d : D} (hd : d ∈ tops) : F_is_integer [d] st = .ok (.bl false) st := by
  simp only [tops, List.mem_cons, List.not_mem_nil, or_false] at hd
  rcases hd with rfl | rfl | rfl | rfl | rfl | rfl | rfl <;> exact p_is_integer fun n z => by cases z
theorem bad_bottom {a d : D} (h : F_is_integer [a] st = .ok (.bl true) st) (hd : d ∈ bottoms) : F_quotient_of [a, d] st = .err "NotUsable" [("at", .int (-1)), ("word", .str "bottom")] st := by
  simp only [bottoms, List.mem_cons, List.not_mem_nil, or_false] at hd
  rcases hd with rfl | rfl | rfl | rfl | rfl | rfl | rfl
  · exact ev_qo3 h
  all_goals exact ev_qo2 h (p_is_integer fun n z => by cases z)
/-- a check of a refusal -/
theorem same_ref {w : Str} (hw : w.length ≤ 100000) : F__law_same [refd w, refd w] st = .ok (.bl true) st := p_same (sm_refd hw)
theorem chk {ga : G} {w : Str} {r : En} (e : ga r st = .ok (refd w) st) (h : F__law_same [refd w, refd w] st = .ok (.bl true) st) :
    sIf (gNot (gTr (gDef 2 F__law_same (gCons ga (gCons (gCall fTup (gCons (gC (.str w)) (gCons (gUn fNeg (gC (.int 1))) (gCons (gC (.str "refused")) gNil)))) gNil))))) (sRet (gC (.bl false))) gSkip r st = .nx r st := by
  have m := mk_ref (st := st) (w := w) (r := r)
  generalize gCall fTup (gCons (gC (.str w)) (gCons (gUn fNeg (gC (.int 1))) (gCons (gC (.str "refused")) gNil))) = gg at m ⊢
  simp -implicitDefEqProofs only [ap_fnF, ap_seq, ap_skip, ap_if, ap_ret, ap_asg, ap_asg2, ap_drop, ap_par, ap_par3, ap_unp, ap_for, ap_forL, ap_var, ap_c, ap_bin, ap_un, ap_nil, ap_cons, ap_call, ap_def, ap_tr, ap_not, ap_and, ap_or, ap_andv, ap_orv, ap_ife, ap_of, ap_mul, ap_div, ap_mod, ap_sub, ap_addi, ap_lt, ap_le, ap_gt, ap_ge, ap_eqi, ap_nei, ap_eqs, ap_neg, ap_truth, ap_bits, List.length, Nat.reduceSub, Nat.reduceAdd, Nat.reduceLeDiff, List.nil_append, List.cons_append, List.append_nil, List.set, List.getElem?_cons_zero, List.getElem?_cons_succ, List.getElem?_nil, setAll, fNot, eq_self, if_true, if_false, reduceIte, id_eq, decide_true, decide_false, Bool.false_eq_true, Bool.true_eq_false, Bool.not_true, Bool.not_false, Bool.true_or, Bool.false_or, Bool.or_true, Bool.or_false, Bool.true_and, Bool.false_and, Bool.and_true, Bool.and_false,e, m, h]
theorem chkR {ga : G} {w : Str} {r : En} (e : ga r st = .ok (refd w) st) (h : F__law_same [refd w, refd w] st = .ok (.bl true) st) :
    sRet (gDef 2 F__law_same (gCons ga (gCons (gCall fTup (gCons (gC (.str w)) (gCons (gUn fNeg (gC (.int 1))) (gCons (gC (.str "refused")) gNil)))) gNil))) r st = .rt (.bl true) st := by
  have m := mk_ref (st := st) (w := w) (r := r)
  generalize gCall fTup (gCons (gC (.str w)) (gCons (gUn fNeg (gC (.int 1))) (gCons (gC (.str "refused")) gNil))) = gg at m ⊢
  simp -implicitDefEqProofs only [ap_fnF, ap_seq, ap_skip, ap_if, ap_ret, ap_asg, ap_asg2, ap_drop, ap_par, ap_par3, ap_unp, ap_for, ap_forL, ap_var, ap_c, ap_bin, ap_un, ap_nil, ap_cons, ap_call, ap_def, ap_tr, ap_not, ap_and, ap_or, ap_andv, ap_orv, ap_ife, ap_of, ap_mul, ap_div, ap_mod, ap_sub, ap_addi, ap_lt, ap_le, ap_gt, ap_ge, ap_eqi, ap_nei, ap_eqs, ap_neg, ap_truth, ap_bits, List.length, Nat.reduceSub, Nat.reduceAdd, Nat.reduceLeDiff, List.nil_append, List.cons_append, List.append_nil, List.set, List.getElem?_cons_zero, List.getElem?_cons_succ, List.getElem?_nil, setAll, fNot, eq_self, if_true, if_false, reduceIte, id_eq, decide_true, decide_false, Bool.false_eq_true, Bool.true_eq_false, Bool.not_true, Bool.not_false, Bool.true_or, Bool.false_or, Bool.or_true, Bool.or_false, Bool.true_and, Bool.false_and, Bool.and_true, Bool.and_false,e, m, h]
theorem def3 {F : List D → S → R D} {ga gb gc : G} {r : En} {a b c : D} {x : R D} (h1 : ga r st = .ok a st) (h2 : gb r st = .ok b st) (h3 : gc r st = .ok c st) (h : F [a, b, c] st = x) : gDef 3 F (gCons ga (gCons gb (gCons gc gNil))) r st = x := by
  simp -implicitDefEqProofs only [ap_fnF, ap_seq, ap_skip, ap_if, ap_ret, ap_asg, ap_asg2, ap_drop, ap_par, ap_par3, ap_unp, ap_for, ap_forL, ap_var, ap_c, ap_bin, ap_un, ap_nil, ap_cons, ap_call, ap_def, ap_tr, ap_not, ap_and, ap_or, ap_andv, ap_orv, ap_ife, ap_of, ap_mul, ap_div, ap_mod, ap_sub, ap_addi, ap_lt, ap_le, ap_gt, ap_ge, ap_eqi, ap_nei, ap_eqs, ap_neg, ap_truth, ap_bits, List.length, Nat.reduceSub, Nat.reduceAdd, Nat.reduceLeDiff, List.nil_append, List.cons_append, List.append_nil, List.set, List.getElem?_cons_zero, List.getElem?_cons_succ, List.getElem?_nil, setAll, fNot, eq_self, if_true, if_false, reduceIte, id_eq, decide_true, decide_false, Bool.false_eq_true, Bool.true_eq_false, Bool.not_true, Bool.not_false, Bool.true_or, Bool.false_or, Bool.or_true, Bool.or_false, Bool.true_and, Bool.false_and, Bool.and_true, Bool.and_false,h1, h2, h3, h]
abbrev okOther : F__law_same [refd "other", refd "other"] st = .ok (.bl true) st := same_ref (by decide)
abbrev okQuot : F__law_same [refd "quotient", refd "quotient"] st = .ok (.bl true) st := same_ref (by decide)
abbrev okTop : F__law_same [refd "top", refd "top"] st = .ok (.bl true) st := same_ref (by decide)
abbrev okBottom : F__law_same [refd "bottom", refd "bottom"] st = .ok (.bl true) st := same_ref (by decide)
abbrev okPoint : F__law_same [refd "point", refd "point"] st = .ok (.bl true) st := same_ref (by decide)
abbrev okWhich : F__law_same [refd "which", refd "which"] st = .ok (.bl true) st := same_ref (by decide)
abbrev okSpan : F__law_same [refd "span", refd "span"] st = .ok (.bl true) st := same_ref (by decide)
theorem rf1 {l : Nat} {w a b c o4 : D} {o7 o8 o9 o10 : Option D} {wd : Str} (e : F__law_ask [.str wd, a, b] st = .ok (refd "other") st) : b__law_refused_1 [some (.loc l), some a, some w, some c, some o4, some b, some (.str wd), o7, o8, o9, o10] st = .nx [some (.loc l), some a, some w, some c, some o4, some b, some (.str wd), o7, o8, o9, o10] st :=
  chk (def3 rfl rfl rfl e) okOther
theorem rf2 {l : Nat} {w a b c o4 : D} {o7 o8 o9 o10 : Option D} {wd : Str} (e : F__law_ask_span [.str wd, w, b] st = .ok (refd "quotient") st) : b__law_refused_2 [some (.loc l), some a, some w, some c, some o4, some b, some (.str wd), o7, o8, o9, o10] st = .nx [some (.loc l), some a, some w, some c, some o4, some b, some (.str wd), o7, o8, o9, o10] st :=
  chk (def3 rfl rfl rfl e) okQuot
theorem rf3 {l : Nat} {w a b c o4 : D} {o7 o8 o9 o10 : Option D} {wd : Str} (e : F__law_ask_span [.str wd, w, b] st = .ok (refd "other") st) : b__law_refused_3 [some (.loc l), some a, some w, some c, some o4, some b, some (.str wd), o7, o8, o9, o10] st = .nx [some (.loc l), some a, some w, some c, some o4, some b, some (.str wd), o7, o8, o9, o10] st :=
  chk (def3 rfl rfl rfl e) okOther
end K00
end Sv
set_option Elab.async false
set_option linter.all false
set_option maxRecDepth 100000
set_option maxHeartbeats 4000000
set_option exponentiation.threshold 10000
namespace Sv
open PySem PySem.Spec PyProof.Rows L2
namespace K00
variable {st : S}
theorem r_s1 {l : Nat} {o1 o2 o3 o4 o5 o6 o7 o8 o9 o10 : Option D} {x y z : D} {st1 st2 st3 : S} (e1 : F__law_quotient [.loc l] st = .ok x st1) (e2 : F__law_span [.loc l] st1 = .ok y st2) (e3 : gDef0 F__law_bad_spans [some (.loc l), o1, o2, o3, o4, o5, o6, o7, o8, o9, o10] st2 = .ok z st3) :
    sPar3 1 2 3 (gCons (gDef 1 F__law_quotient (gCons (gVar 0) gNil)) (gCons (gDef 1 F__law_span (gCons (gVar 0) gNil)) (gCons (gDef0 F__law_bad_spans) gNil))) [some (.loc l), o1, o2, o3, o4, o5, o6, o7, o8, o9, o10] st =
      .nx [some (.loc l), some x, some y, some z, o4, o5, o6, o7, o8, o9, o10] st3 := by
  simp -implicitDefEqProofs only [ap_fnF, ap_seq, ap_skip, ap_if, ap_ret, ap_asg, ap_asg2, ap_drop, ap_par, ap_par3, ap_unp, ap_for, ap_forL, ap_var, ap_c, ap_bin, ap_un, ap_nil, ap_cons, ap_call, ap_def, ap_tr, ap_not, ap_and, ap_or, ap_andv, ap_orv, ap_ife, ap_of, ap_mul, ap_div, ap_mod, ap_sub, ap_addi, ap_lt, ap_le, ap_gt, ap_ge, ap_eqi, ap_nei, ap_eqs, ap_neg, ap_truth, ap_bits, List.length, Nat.reduceSub, Nat.reduceAdd, Nat.reduceLeDiff, List.nil_append, List.cons_append, List.append_nil, List.set, List.getElem?_cons_zero, List.getElem?_cons_succ, List.getElem?_nil, setAll, fNot, eq_self, if_true, if_false, reduceIte, id_eq, decide_true, decide_false, Bool.false_eq_true, Bool.true_eq_false, Bool.not_true, Bool.not_false, Bool.true_or, Bool.false_or, Bool.or_true, Bool.or_false, Bool.true_and, Bool.false_and, Bool.and_true, Bool.and_false,e1, e2, e3]
theorem asg_ok {i : Nat} {ga : G} {r r' : En} {d : D} {st1 : S} (e : ga r st = .ok d st1) (h : r.set i (some d) = r') : sAsg i ga r st = .nx r' st1 := by
  rw [ap_asg, e]
  dsimp only
  rw [h]
theorem par_ok {i j : Nat} {ga gb : G} {r r' : En} {a b : D} {st1 st2 : S} (e1 : ga r st = .ok a st1) (e2 : gb r st1 = .ok b st2) (h : (r.set i (some a)).set j (some b) = r') : sPar i j (gCons ga (gCons gb gNil)) r st = .nx r' st2 := by
  simp -implicitDefEqProofs only [ap_fnF, ap_seq, ap_skip, ap_if, ap_ret, ap_asg, ap_asg2, ap_drop, ap_par, ap_par3, ap_unp, ap_for, ap_forL, ap_var, ap_c, ap_bin, ap_un, ap_nil, ap_cons, ap_call, ap_def, ap_tr, ap_not, ap_and, ap_or, ap_andv, ap_orv, ap_ife, ap_of, ap_mul, ap_div, ap_mod, ap_sub, ap_addi, ap_lt, ap_le, ap_gt, ap_ge, ap_eqi, ap_nei, ap_eqs, ap_neg, ap_truth, ap_bits, List.length, Nat.reduceSub, Nat.reduceAdd, Nat.reduceLeDiff, List.nil_append, List.cons_append, List.append_nil, List.set, List.getElem?_cons_zero, List.getElem?_cons_succ, List.getElem?_nil, setAll, fNot, eq_self, if_true, if_false, reduceIte, id_eq, decide_true, decide_false, Bool.false_eq_true, Bool.true_eq_false, Bool.not_true, Bool.not_false, Bool.true_or, Bool.false_or, Bool.or_true, Bool.or_false, Bool.true_and, Bool.false_and, Bool.and_true, Bool.and_false,e1, e2, h]
theorem for_words {xs : List D} {ga : G} {body : GS} {r r' : En} {i : Nat} {st' : S} (h1 : ga r st = .ok (.tup xs) st) (h2 : loopV (tgV i) body xs r st = .nx r' st') : sFor (iSq ga) (tgV i) body r st = .nx r' st' := by
  rw [ap_for]
  have e : iSq ga r st = .ok xs st := by
    unfold iSq
    rw [h1]
  rw [e]
  exact h2
theorem p_law_refused {l : Nat} (h : Row st l) : ∃ st', F__law_refused [.loc l] st = .ok (.bl true) st' ∧ Row st' l := by
  obtain ⟨x, st1, e1, hx, r1⟩ := p_quotient h
  obtain ⟨p, st2, e2, hp, r2⟩ := p_span r1
  obtain ⟨b1, hb1, st3, e3, r3⟩ := p_pick (xs := badQ) (r := [some (.loc l), some (dq x), some (ds p), some (.tup badS), some (.tup badQ), none, none, none, none, none, none]) (i := 4) (j := 0) r2 (by decide) rfl rfl
  obtain ⟨b2, hb2, st4, e4, r4⟩ := p_pick (xs := badS) (r := [some (.loc l), some (dq x), some (ds p), some (.tup badS), some (.tup badQ), some b1, some (.str "holds"), none, none, none, none]) (i := 3) (j := 0) r3 (by decide) rfl rfl
  obtain ⟨t, ht, st5, e5, r5⟩ := p_pick (xs := tops) (r := [some (.loc l), some (dq x), some (ds p), some (.tup badS), some (.tup badQ), some b2, some (.str "spans_apart"), some (.tup tops), some (.tup bottoms), none, none]) (i := 7) (j := 0) r4 (by decide) rfl rfl
  obtain ⟨b, hb, st6, e6, r6⟩ := p_pick (xs := bottoms) (r := [some (.loc l), some (dq x), some (ds p), some (.tup badS), some (.tup badQ), some b2, some (.str "spans_apart"), some (.tup tops), some (.tup bottoms), none, none]) (i := 8) (j := 0) r5 (by decide) rfl rfl
  obtain ⟨n1, q1⟩ := bad_quot hb1
  have a1 : F__law_ask [.str "plus", dq x, b1] st3 = .ok (refd "other") st3 := by rw [ask_plus, p_plus_no n1 q1, caught_no]
  have a2 : F__law_ask [.str "minus", dq x, b1] st3 = .ok (refd "other") st3 := by rw [ask_minus, p_minus_no n1 q1, caught_no]
  have a3 : F__law_ask [.str "times", dq x, b1] st3 = .ok (refd "other") st3 := by rw [ask_times, p_times_no n1 q1, caught_no]
  have a4 : F__law_ask [.str "over", dq x, b1] st3 = .ok (refd "other") st3 := by rw [ask_over, p_over_no n1 q1, caught_no]
  have a5 : F__law_ask [.str "less", dq x, b1] st3 = .ok (refd "other") st3 := by rw [ask_less, p_less_no n1 q1, caught_no]
  have a6 : F__law_ask [.str "over", dq x, dq (0, 1)] st3 = .ok (refd "other") st3 := by rw [ask_over, p_over_nought, caught_no]
  have aq := p_ask_quotient_no (st := st3) n1 q1
  have a7 : F__law_ask_span [.str "scaled_span", ds p, b1] st3 = .ok (refd "quotient") st3 := by
    rw [ask_span_scaled_span, ev_sq2 (F := F_scaled_span) (N := N_scaled_span) (o2 := [none]) rfl rfl aq, caught_no]
  have a8 : F__law_ask_span [.str "holds", ds p, b1] st3 = .ok (refd "quotient") st3 := by
    rw [ask_span_holds, ev_sq2 (F := F_holds) (N := N_holds) (o2 := []) rfl rfl aq, caught_no]
  have as := bad_span (st := st4) hb2
  have s1 : F__law_ask_span [.str "span_plus", ds p, b2] st4 = .ok (refd "other") st4 := by
    rw [ask_span_span_plus, ev_sp2 (F := F_span_plus) (N := N_span_plus) (o2 := []) rfl rfl as, caught_no]
  have s2 : F__law_ask_span [.str "span_minus", ds p, b2] st4 = .ok (refd "other") st4 := by
    rw [ask_span_span_minus, ev_sp2 (F := F_span_minus) (N := N_span_minus) (o2 := []) rfl rfl as, caught_no]
  have s3 : F__law_ask_span [.str "span_times", ds p, b2] st4 = .ok (refd "other") st4 := by
    rw [ask_span_span_times, ev_sp2 (F := F_span_times) (N := N_span_times) (o2 := [none, none]) rfl rfl as, caught_no]
  have s4 : F__law_ask_span [.str "span_within", ds p, b2] st4 = .ok (refd "other") st4 := by
    rw [ask_span_span_within, ev_sp2 (F := F_span_within) (N := N_span_within) (o2 := []) rfl rfl as, caught_no]
  have s5 : F__law_ask_span [.str "spans_apart", ds p, b2] st4 = .ok (refd "other") st4 := by
    rw [ask_span_spans_apart, ev_sp2 (F := F_spans_apart) (N := N_spans_apart) (o2 := []) rfl rfl as, caught_no]
  have it := bad_top (st := st6) ht
  have c1 : F__law_ask [.str "quotient_of", t, b] st6 = .ok (refd "top") st6 := by rw [ask_quotient_of, ev_qo1 it, caught_no]
  have c2 : F__law_ask [.str "quotient_of", t, .int x.2] st6 = .ok (refd "top") st6 := by rw [ask_quotient_of, ev_qo1 it, caught_no]
  have c3 : F__law_ask [.str "quotient_of", .int x.1, b] st6 = .ok (refd "bottom") st6 := by rw [ask_quotient_of, bad_bottom (p_is_integer (d := .int x.1) fun n z => by cases z) hb, caught_no]
  refine ⟨st6, fn_rt (N := N__law_refused) (g := g__law_refused) (r := [some (.loc l), none, none, none, none, none, none, none, none, none, none]) rfl ?_, r6⟩
  unfold g__law_refused
  refine seq_nx (r_s1 e1 e2 (z := .tup badS) rfl) ?_
  refine seq_nx (asg_ok (d := .tup badQ) (st1 := st2) (r' := [some (.loc l), some (dq x), some (ds p), some (.tup badS), some (.tup badQ), none, none, none, none, none, none]) rfl rfl) ?_
  refine seq_nx (asg_ok e3 rfl) ?_
  refine seq_nx (for_words (xs := [.str "plus", .str "minus", .str "times", .str "over", .str "less"]) (r' := [some (.loc l), some (dq x), some (ds p), some (.tup badS), some (.tup badQ), some b1, some (.str "less"), none, none, none, none]) (st' := st3) rfl (by
    simp only [loopV, tgV, List.set, rf1 a1, rf1 a2, rf1 a3, rf1 a4, rf1 a5])) ?_
  refine seq_nx (chk (def3 (a := .str "over") (b := dq x) (c := dq (0, 1)) rfl rfl rfl a6) okOther) ?_
  refine seq_nx (for_words (xs := [.str "scaled_span", .str "holds"]) (r' := [some (.loc l), some (dq x), some (ds p), some (.tup badS), some (.tup badQ), some b1, some (.str "holds"), none, none, none, none]) (st' := st3) rfl (by
    simp only [loopV, tgV, List.set, rf2 a7, rf2 a8])) ?_
  refine seq_nx (asg_ok e4 rfl) ?_
  refine seq_nx (for_words (xs := [.str "span_plus", .str "span_minus", .str "span_times", .str "span_within", .str "spans_apart"]) (r' := [some (.loc l), some (dq x), some (ds p), some (.tup badS), some (.tup badQ), some b2, some (.str "spans_apart"), none, none, none, none]) (st' := st4) rfl (by
    simp only [loopV, tgV, List.set, rf3 s1, rf3 s2, rf3 s3, rf3 s4, rf3 s5])) ?_
  refine seq_nx (par_ok (a := .tup tops) (b := .tup bottoms) (st1 := st4) (st2 := st4) rfl rfl rfl) ?_
  refine seq_nx (par_ok e5 e6 rfl) ?_
  refine seq_nx (chk (def3 (a := .str "quotient_of") (b := t) (c := b) rfl rfl rfl c1) okTop) ?_
  refine seq_nx (chk (def3 (a := .str "quotient_of") (b := t) (c := .int x.2) rfl rfl rfl c2) okTop) ?_
  exact chkR (def3 (a := .str "quotient_of") (b := .int x.1) (c := b) rfl rfl rfl c3) okBottom
end K00
end Sv
set_option Elab.async false
set_option linter.all false
set_option maxRecDepth 100000
set_option maxHeartbeats 4000000
set_option exponentiation.threshold 10000
namespace Sv
open PySem PySem.Spec PyProof.Rows L2
namespace K00
variable {st : S}
/-! ### wrong points, wrong places -/
def ptsB (xs : List D) : List D := [.non, .lv xs, .tup (xs.drop 1), .tup (xs ++ [q01]), .tup (xs.drop 1 ++ [.tup [.int 2, .int 4]]), .tup (xs.drop 1 ++ [.int 1]), .tup (.bl true :: xs.drop 1), .tup (xs.drop 1 ++ [.tup [q01, q01]]), .str "0", .int 0, .tup (xs.drop 1 ++ [.tup [.int 1, .int 0]]), .tup [.tup xs]]
theorem sl1 {xs : List D} {r : En} {i : Nat} (hr : r[i]? = some (some (.tup xs))) (h : 1 ≤ xs.length) : gSl false (gVar i) (goSome (gC (.int 1))) goNone r st = .ok (.tup (xs.drop 1)) st := by
  have e : gVar i r st = .ok (.tup xs) st := by rw [ap_var, hr]
  rw [← cut_drop (k := 1) h]
  unfold gSl
  rw [e]
  rfl
theorem addt {xs ys : List D} (h : xs.length + ys.length ≤ 100000) : fAdd false (.tup xs) (.tup ys) st = .ok (.tup (xs ++ ys)) st := by
  show (if xs.length + ys.length ≤ 100000 then R.ok (D.tup (xs ++ ys)) st else R.bad) = _
  rw [if_pos h]
theorem bb_s2 {xs : List D} {l : Nat} {B P sp : D} {n : Int} {o5 o6 o7 o8 o9 o10 : Option D} (h : 1 ≤ xs.length) (h2 : xs.length ≤ 1000) :
    sAsg 5 (gCall fTup (gCons (gC .non) (gCons (gCall (fList false) (gCons (gVar 2) gNil)) (gCons (gSl false (gVar 2) (goSome (gC (.int 1))) goNone) (gCons (gBin (fAdd false) (gVar 2) (gCall fTup (gCons (gCall fTup (gCons (gC (.int 0)) (gCons (gC (.int 1)) gNil))) gNil))) (gCons (gBin (fAdd false) (gSl false (gVar 2) (goSome (gC (.int 1))) goNone) (gCall fTup (gCons (gCall fTup (gCons (gC (.int 2)) (gCons (gC (.int 4)) gNil))) gNil))) (gCons (gBin (fAdd false) (gSl false (gVar 2) (goSome (gC (.int 1))) goNone) (gCall fTup (gCons (gC (.int 1)) gNil))) (gCons (gBin (fAdd false) (gCall fTup (gCons (gC (.bl true)) gNil)) (gSl false (gVar 2) (goSome (gC (.int 1))) goNone)) (gCons (gBin (fAdd false) (gSl false (gVar 2) (goSome (gC (.int 1))) goNone) (gCall fTup (gCons (gCall fTup (gCons (gCall fTup (gCons (gC (.int 0)) (gCons (gC (.int 1)) gNil))) (gCons (gCall fTup (gCons (gC (.int 0)) (gCons (gC (.int 1)) gNil))) gNil))) gNil))) (gCons (gC (.str "0")) (gCons (gC (.int 0)) (gCons (gBin (fAdd false) (gSl false (gVar 2) (goSome (gC (.int 1))) goNone) (gCall fTup (gCons (gCall fTup (gCons (gC (.int 1)) (gCons (gC (.int 0)) gNil))) gNil))) (gCons (gCall fTup (gCons (gVar 2) gNil)) gNil))))))))))))) [some (.loc l), some B, some (.tup xs), some sp, some (.int n), o5, o6, o7, o8, o9, o10] st =
      .nx [some (.loc l), some B, some (.tup xs), some sp, some (.int n), some (.tup (ptsB xs)), o6, o7, o8, o9, o10] st := by
  have s := sl1 (st := st) (xs := xs) (r := [some (.loc l), some B, some (.tup xs), some sp, some (.int n), o5, o6, o7, o8, o9, o10]) (i := 2) rfl h
  have fl : fList false [.tup xs] st = .ok (.lv xs) st := nl_lv (by omega)
  have dl : (xs.drop 1).length ≤ 1000 := by rw [List.length_drop]; omega
  have a1 := addt (st := st) (xs := xs) (ys := [q01]) (by simp; omega)
  have a2 : ∀ d : D, fAdd false (.tup (xs.drop 1)) (.tup [d]) st = .ok (.tup (xs.drop 1 ++ [d])) st := fun d => addt (by simp; omega)
  have a3 := addt (st := st) (xs := [.bl true]) (ys := xs.drop 1) (by simp; omega)
  have t1 : ∀ a : D, fTup [a] st = .ok (.tup [a]) st := fun _ => rfl
  have t2 : ∀ a b : D, fTup [a, b] st = .ok (.tup [a, b]) st := fun _ _ => rfl
  have t12 : ∀ a b c d e f g h i j k l : D, fTup [a, b, c, d, e, f, g, h, i, j, k, l] st = .ok (.tup [a, b, c, d, e, f, g, h, i, j, k, l]) st := fun _ _ _ _ _ _ _ _ _ _ _ _ => rfl
  unfold q01 at a1
  generalize gSl false (gVar 2) (goSome (gC (.int 1))) goNone = gs at s ⊢
  simp -implicitDefEqProofs only [ap_fnF, ap_seq, ap_skip, ap_if, ap_ret, ap_asg, ap_asg2, ap_drop, ap_par, ap_par3, ap_unp, ap_for, ap_forL, ap_var, ap_c, ap_bin, ap_un, ap_nil, ap_cons, ap_call, ap_def, ap_tr, ap_not, ap_and, ap_or, ap_andv, ap_orv, ap_ife, ap_of, ap_mul, ap_div, ap_mod, ap_sub, ap_addi, ap_lt, ap_le, ap_gt, ap_ge, ap_eqi, ap_nei, ap_eqs, ap_neg, ap_truth, ap_bits, List.length, Nat.reduceSub, Nat.reduceAdd, Nat.reduceLeDiff, List.nil_append, List.cons_append, List.append_nil, List.set, List.getElem?_cons_zero, List.getElem?_cons_succ, List.getElem?_nil, setAll, fNot, eq_self, if_true, if_false, reduceIte, id_eq, decide_true, decide_false, Bool.false_eq_true, Bool.true_eq_false, Bool.not_true, Bool.not_false, Bool.true_or, Bool.false_or, Bool.or_true, Bool.or_false, Bool.true_and, Bool.false_and, Bool.and_true, Bool.and_false,s, fl, a1, a2, a3, t1, t2, t12]
  rfl
theorem all_snoc {xs : List D} {d : D} (h : isQt d = false) : (xs ++ [d]).all isQt = false := by
  rw [List.all_append]
  simp [h]
theorem nts_append : ∀ {xs ys : List D}, nts xs = true → nts ys = true → nts (xs ++ ys) = true
  | [], ys, _, h => h
  | x :: xs, ys, h, k => by
    have h : (nt x && nts xs) = true := h
    obtain ⟨h1, h2⟩ := Bool.and_eq_true_iff.mp h
    show (nt x && nts (xs ++ ys)) = true
    rw [h1, nts_append h2 k]
    rfl
theorem nts_drop {xs : List D} (h : nts xs = true) : nts (xs.drop 1) = true := by
  cases xs with
  | nil => rfl
  | cons x xs =>
    have h : (nt x && nts xs) = true := h
    exact (Bool.and_eq_true_iff.mp h).2
theorem bad_pt {qs : List Qt} {d : D} (h0 : 1 ≤ qs.length) (h8 : qs.length ≤ 8) (hd : d ∈ ptsB (qs.map dq)) : nt d = true ∧ isPt (qs.length : Int) d = false ∧ ∀ ds, d = .tup ds → ds.length ≤ 100000 := by
  have n0 : nts (qs.map dq) = true := nts_map (fun _ => rfl) qs
  have n1 := nts_drop n0
  have ln : (qs.map dq).length = qs.length := List.length_map ..
  have ld : ((qs.map dq).drop 1).length = qs.length - 1 := by rw [List.length_drop, ln]
  have sn : ∀ d : D, nt d = true → nt (.tup ((qs.map dq).drop 1 ++ [d])) = true := fun d h => nts_append n1 (by show (nt d && nts []) = true; rw [h]; rfl)
  have sp : ∀ d : D, isQt d = false → isPt (qs.length : Int) (.tup ((qs.map dq).drop 1 ++ [d])) = false := fun d h => by
    show (decide _ && (((qs.map dq).drop 1 ++ [d]).all isQt)) = false
    rw [all_snoc h, Bool.and_false]
  have sl : ∀ d : D, ∀ ds, D.tup ((qs.map dq).drop 1 ++ [d]) = .tup ds → ds.length ≤ 100000 := fun d ds e => by
    cases e
    rw [List.length_append, ld, List.length_singleton]
    omega
  have nl : ∀ n : Int, ∀ xs : List D, (xs.length : Int) ≠ n → isPt n (.tup xs) = false := fun n xs h => by
    show (decide ((xs.length : Int) = n) && _) = false
    rw [decide_eq_false h, Bool.false_and]
  simp only [ptsB, List.mem_cons, List.not_mem_nil, or_false] at hd
  rcases hd with rfl | rfl | rfl | rfl | rfl | rfl | rfl | rfl | rfl | rfl | rfl | rfl
  · exact ⟨rfl, rfl, fun ds e => by cases e⟩
  · exact ⟨n0, rfl, fun ds e => by cases e⟩
  · exact ⟨n1, nl _ _ (by rw [ld]; omega), fun ds e => by cases e; rw [ld]; omega⟩
  · exact ⟨nts_append n0 rfl, nl _ _ (by rw [List.length_append, ln, List.length_singleton]; omega), fun ds e => by cases e; rw [List.length_append, ln, List.length_singleton]; omega⟩
  · exact ⟨sn _ rfl, sp _ (by decide), sl _⟩
  · exact ⟨sn _ rfl, sp _ rfl, sl _⟩
  · refine ⟨by show (true && nts ((qs.map dq).drop 1)) = true; rw [n1]; rfl, ?_, fun ds e => by cases e; rw [List.length_cons, ld]; omega⟩
    show (decide _ && (false && _)) = false
    rw [Bool.false_and, Bool.and_false]
  · exact ⟨sn _ rfl, sp _ rfl, sl _⟩
  · exact ⟨rfl, rfl, fun ds e => by cases e⟩
  · exact ⟨rfl, rfl, fun ds e => by cases e⟩
  · exact ⟨sn _ rfl, sp _ (by decide), sl _⟩
  · refine ⟨by show (nts (qs.map dq) && true) = true; rw [n0]; rfl, ?_, fun ds e => by cases e; simp⟩
    have z : isQt (.tup (qs.map dq)) = false := by
      rcases qs with _ | ⟨a, _ | ⟨b, _ | ⟨c, t⟩⟩⟩ <;> rfl
    show (decide _ && ((isQt (.tup (qs.map dq))) && _)) = false
    rw [z, Bool.false_and, Bool.and_false]
def nones : List D := [.tup [], .non, .lv [q01], q01, .tup [q01, .tup [.int 3, .int (-1)]], .tup [q01, .non], .tup [.int 1], .tup [.tup [.bl true, .int 1]], .str "1", .int 5]
theorem bad_none {d : D} (hd : d ∈ nones) : F_point_box [d] st = .err "NotUsable" [("at", .int (-1)), ("word", .str "point")] st := by
  have pt : ∀ (n : Int) (xs : List D), nts xs = true → xs.length ≤ 100000 → isPt n (.tup xs) = false → F_is_point [.int n, .tup xs] st = .ok (.bl false) st := fun n xs h hl k => by
    rw [p_is_point (d := .tup xs) h (fun ds e => by cases e; exact hl), k]
  simp only [nones, List.mem_cons, List.not_mem_nil, or_false] at hd
  rcases hd with rfl | rfl | rfl | rfl | rfl | rfl | rfl | rfl | rfl | rfl
  · exact ev_point_box_no2 len_tup rfl
  · exact ev_point_box_no (b := false) rfl
  · exact ev_point_box_no (b := false) rfl
  · exact ev_point_box_no3 (xs := [.int 0, .int 1]) len_tup rfl (pt _ _ rfl (by simp) rfl)
  · exact ev_point_box_no3 len_tup rfl (pt _ _ rfl (by simp) (by decide))
  · exact ev_point_box_no3 len_tup rfl (pt _ _ rfl (by simp) (by decide))
  · exact ev_point_box_no3 len_tup rfl (pt _ _ rfl (by simp) rfl)
  · exact ev_point_box_no3 len_tup rfl (pt _ _ rfl (by simp) rfl)
  · exact ev_point_box_no (b := false) rfl
  · exact ev_point_box_no (b := false) rfl
def places (n : Int) : List D := [.int (-1), .int n, .bl true, .non, .str "0", .tup [.int 0], .bl false, .int (n + 1)]
theorem bad_place {n : Int} {d : D} (hd : d ∈ places n) : (∀ n, d ≠ .ty n) ∧ isIn n d = false := by
  simp only [places, List.mem_cons, List.not_mem_nil, or_false] at hd
  rcases hd with rfl | rfl | rfl | rfl | rfl | rfl | rfl | rfl
  · exact ⟨fun n z => (by cases z), rfl⟩
  · refine ⟨fun n z => (by cases z), ?_⟩
    show (decide (0 ≤ n) && decide (n < n)) = false
    rw [decide_eq_false (show ¬ n < n by omega), Bool.and_false]
  · exact ⟨fun n z => (by cases z), rfl⟩
  · exact ⟨fun n z => (by cases z), rfl⟩
  · exact ⟨fun n z => (by cases z), rfl⟩
  · exact ⟨fun n z => (by cases z), rfl⟩
  · exact ⟨fun n z => (by cases z), rfl⟩
  · refine ⟨fun n z => (by cases z), ?_⟩
    show (decide (0 ≤ n + 1) && decide (n + 1 < n)) = false
    rw [decide_eq_false (show ¬ n + 1 < n by omega), Bool.and_false]
theorem pl_s {l : Nat} {B P sp : D} {n : Int} {o5 o6 o7 o8 o9 o10 : Option D} :
    sAsg 8 (gCall fTup (gCons (gUn fNeg (gC (.int 1))) (gCons (gVar 4) (gCons (gC (.bl true)) (gCons (gC .non) (gCons (gC (.str "0")) (gCons (gCall fTup (gCons (gC (.int 0)) gNil)) (gCons (gC (.bl false)) (gCons (gBin (fAdd false) (gVar 4) (gC (.int 1))) gNil))))))))) [some (.loc l), some B, some P, some sp, some (.int n), o5, o6, o7, o8, o9, o10] st =
      .nx [some (.loc l), some B, some P, some sp, some (.int n), o5, o6, o7, some (.tup (places n)), o9, o10] st := rfl
theorem p_bad_boxes {l : Nat} {ps : List Sp} {qs : List Qt} {s : Sp} (h : Row st l) (hb : Bok ps) (h0 : 1 ≤ ps.length) (hq : qs.length = ps.length) (hs : Spok s) : ∃ st', F__law_bad_boxes [.loc l, db ps, dp qs, ds s] st = .ok (.bl true) st' ∧ Row st' l := by
  have h8 := hb.2
  obtain ⟨d1, hd1, st1, e1, r1⟩ := p_pick (xs := ptsB (qs.map dq)) (r := [some (.loc l), some (db ps), some (dp qs), some (ds s), some (.int ps.length), some (.tup (ptsB (qs.map dq))), none, none, none, none, none]) (i := 5) (j := 0) h (by simp [ptsB]) rfl rfl
  obtain ⟨d2, hd2, st2, e2, r2⟩ := p_pick (xs := nones) (r := [some (.loc l), some (db ps), some (dp qs), some (ds s), some (.int ps.length), some (.tup (ptsB (qs.map dq))), some d1, some (.tup nones), none, none, none]) (i := 7) (j := 0) r1 (by decide) rfl rfl
  obtain ⟨d3, hd3, st3, e3, r3⟩ := p_pick (xs := places ps.length) (r := [some (.loc l), some (db ps), some (dp qs), some (ds s), some (.int ps.length), some (.tup (ptsB (qs.map dq))), some d1, some (.tup nones), some (.tup (places ps.length)), none, none]) (i := 8) (j := 0) r2 (by simp [places]) rfl rfl
  obtain ⟨d4, hd4, st4, e4, r4⟩ := p_pick (xs := badS) (r := [some (.loc l), some (db ps), some (dp qs), some (ds s), some (.int ps.length), some (.tup (ptsB (qs.map dq))), some d1, some (.tup nones), some (.tup (places ps.length)), some d3, some (.tup badS)]) (i := 10) (j := 0) r3 (by decide) rfl rfl
  obtain ⟨n1, p1, l1⟩ := bad_pt (by omega) (by omega) hd1
  rw [hq] at p1
  obtain ⟨n3, p3⟩ := bad_place hd3
  have a1 : F__law_ask [.str "in_box", db ps, d1] st1 = .ok (refd "point") st1 := by rw [ask_in_box, p_in_box_no n1 l1 p1, caught_no]
  have a2 : F__law_ask [.str "point_box", d2, .int 0] st2 = .ok (refd "point") st2 := by rw [ask_point_box, bad_none hd2, caught_no]
  have w : ∀ s' : D, F__law_ask_side [db ps, d3, s'] st4 = .ok (refd "which") st4 := fun s' => by
    rw [p_ask_side, ev_with_side_w len_db (p_ask_input_no n3 p3), caught_no]
  have ai : F_ask_input [.int ps.length, .int ((ps.length : Int) - 1)] st4 = .ok .non st4 := by
    refine p_ask_input (fun n z => by cases z) ?_
    show (decide (0 ≤ (ps.length : Int) - 1) && decide ((ps.length : Int) - 1 < (ps.length : Int))) = true
    rw [decide_eq_true (by omega), decide_eq_true (by omega)]
    rfl
  have sp : F__law_ask_side [db ps, .int ((ps.length : Int) - 1), d4] st4 = .ok (refd "span") st4 := by
    rw [p_ask_side, ev_with_side_s len_db ai (bad_span hd4), caught_no]
  have e0 := len_db (st := st) (ps := ps)
  refine ⟨st4, fn_rt (N := N__law_bad_boxes) (g := g__law_bad_boxes) (r := [some (.loc l), some (db ps), some (dp qs), some (ds s), none, none, none, none, none, none, none]) rfl ?_, r4⟩
  unfold g__law_bad_boxes
  refine seq_nx (asg_ok (d := .int ps.length) (st1 := st) (by simp -implicitDefEqProofs only [ap_fnF, ap_seq, ap_skip, ap_if, ap_ret, ap_asg, ap_asg2, ap_drop, ap_par, ap_par3, ap_unp, ap_for, ap_forL, ap_var, ap_c, ap_bin, ap_un, ap_nil, ap_cons, ap_call, ap_def, ap_tr, ap_not, ap_and, ap_or, ap_andv, ap_orv, ap_ife, ap_of, ap_mul, ap_div, ap_mod, ap_sub, ap_addi, ap_lt, ap_le, ap_gt, ap_ge, ap_eqi, ap_nei, ap_eqs, ap_neg, ap_truth, ap_bits, List.length, Nat.reduceSub, Nat.reduceAdd, Nat.reduceLeDiff, List.nil_append, List.cons_append, List.append_nil, List.set, List.getElem?_cons_zero, List.getElem?_cons_succ, List.getElem?_nil, setAll, fNot, eq_self, if_true, if_false, reduceIte, id_eq, decide_true, decide_false, Bool.false_eq_true, Bool.true_eq_false, Bool.not_true, Bool.not_false, Bool.true_or, Bool.false_or, Bool.or_true, Bool.or_false, Bool.true_and, Bool.false_and, Bool.and_true, Bool.and_false,e0]) rfl) ?_
  refine seq_nx (bb_s2 (P := dp qs) (xs := qs.map dq) (by rw [List.length_map]; omega) (by rw [List.length_map]; omega)) ?_
  refine seq_nx (asg_ok e1 rfl) ?_
  refine seq_nx (chk (def3 (a := .str "in_box") (b := db ps) (c := d1) rfl rfl rfl a1) okPoint) ?_
  refine seq_nx (asg_ok (d := .tup nones) (st1 := st1) rfl rfl) ?_
  have k2 : (gDef 3 F__law_ask (gCons (gC (.str "point_box")) (gCons (gBin fIx (gVar 7) (gDef 2 F__law_take (gCons (gVar 0) (gCons (gCall fLen (gCons (gVar 7) gNil)) gNil)))) (gCons (gC (.int 0)) gNil)))) [some (.loc l), some (db ps), some (dp qs), some (ds s), some (.int ps.length), some (.tup (ptsB (qs.map dq))), some d1, some (.tup nones), none, none, none] st1 = .ok (refd "point") st2 := by
    generalize gBin fIx (gVar 7) (gDef 2 F__law_take (gCons (gVar 0) (gCons (gCall fLen (gCons (gVar 7) gNil)) gNil))) = gg at e2 ⊢
    simp -implicitDefEqProofs only [ap_fnF, ap_seq, ap_skip, ap_if, ap_ret, ap_asg, ap_asg2, ap_drop, ap_par, ap_par3, ap_unp, ap_for, ap_forL, ap_var, ap_c, ap_bin, ap_un, ap_nil, ap_cons, ap_call, ap_def, ap_tr, ap_not, ap_and, ap_or, ap_andv, ap_orv, ap_ife, ap_of, ap_mul, ap_div, ap_mod, ap_sub, ap_addi, ap_lt, ap_le, ap_gt, ap_ge, ap_eqi, ap_nei, ap_eqs, ap_neg, ap_truth, ap_bits, List.length, Nat.reduceSub, Nat.reduceAdd, Nat.reduceLeDiff, List.nil_append, List.cons_append, List.append_nil, List.set, List.getElem?_cons_zero, List.getElem?_cons_succ, List.getElem?_nil, setAll, fNot, eq_self, if_true, if_false, reduceIte, id_eq, decide_true, decide_false, Bool.false_eq_true, Bool.true_eq_false, Bool.not_true, Bool.not_false, Bool.true_or, Bool.false_or, Bool.or_true, Bool.or_false, Bool.true_and, Bool.false_and, Bool.and_true, Bool.and_false,e2, a2]
  have k2' : sIf (gNot (gTr (gDef 2 F__law_same (gCons (gDef 3 F__law_ask (gCons (gC (.str "point_box")) (gCons (gBin fIx (gVar 7) (gDef 2 F__law_take (gCons (gVar 0) (gCons (gCall fLen (gCons (gVar 7) gNil)) gNil)))) (gCons (gC (.int 0)) gNil)))) (gCons (gCall fTup (gCons (gC (.str "point")) (gCons (gUn fNeg (gC (.int 1))) (gCons (gC (.str "refused")) gNil)))) gNil))))) (sRet (gC (.bl false))) gSkip [some (.loc l), some (db ps), some (dp qs), some (ds s), some (.int ps.length), some (.tup (ptsB (qs.map dq))), some d1, some (.tup nones), none, none, none] st1 = .nx [some (.loc l), some (db ps), some (dp qs), some (ds s), some (.int ps.length), some (.tup (ptsB (qs.map dq))), some d1, some (.tup nones), none, none, none] st2 := by
    have m := mk_ref (st := st2) (w := "point") (r := [some (.loc l), some (db ps), some (dp qs), some (ds s), some (.int ps.length), some (.tup (ptsB (qs.map dq))), some d1, some (.tup nones), none, none, none])
    have ok := okPoint (st := st2)
    generalize gDef 3 F__law_ask (gCons (gC (.str "point_box")) (gCons (gBin fIx (gVar 7) (gDef 2 F__law_take (gCons (gVar 0) (gCons (gCall fLen (gCons (gVar 7) gNil)) gNil)))) (gCons (gC (.int 0)) gNil))) = g1 at k2 ⊢
    generalize gCall fTup (gCons (gC (.str "point")) (gCons (gUn fNeg (gC (.int 1))) (gCons (gC (.str "refused")) gNil))) = g2 at m ⊢
    simp -implicitDefEqProofs only [ap_fnF, ap_seq, ap_skip, ap_if, ap_ret, ap_asg, ap_asg2, ap_drop, ap_par, ap_par3, ap_unp, ap_for, ap_forL, ap_var, ap_c, ap_bin, ap_un, ap_nil, ap_cons, ap_call, ap_def, ap_tr, ap_not, ap_and, ap_or, ap_andv, ap_orv, ap_ife, ap_of, ap_mul, ap_div, ap_mod, ap_sub, ap_addi, ap_lt, ap_le, ap_gt, ap_ge, ap_eqi, ap_nei, ap_eqs, ap_neg, ap_truth, ap_bits, List.length, Nat.reduceSub, Nat.reduceAdd, Nat.reduceLeDiff, List.nil_append, List.cons_append, List.append_nil, List.set, List.getElem?_cons_zero, List.getElem?_cons_succ, List.getElem?_nil, setAll, fNot, eq_self, if_true, if_false, reduceIte, id_eq, decide_true, decide_false, Bool.false_eq_true, Bool.true_eq_false, Bool.not_true, Bool.not_false, Bool.true_or, Bool.false_or, Bool.or_true, Bool.or_false, Bool.true_and, Bool.false_and, Bool.and_true, Bool.and_false,k2, m, ok]
  refine seq_nx k2' ?_
  refine seq_nx pl_s ?_
  refine seq_nx (par_ok (b := .tup badS) (st2 := st3) e3 rfl rfl) ?_
  refine seq_nx (asg_ok e4 rfl) ?_
  refine seq_nx (chk (def3 (a := db ps) (b := d3) (c := d4) rfl rfl rfl (w d4)) okWhich) ?_
  refine seq_nx (chk (def3 (a := db ps) (b := d3) (c := ds s) rfl rfl rfl (w (ds s))) okWhich) ?_
  exact chkR (def3 (a := db ps) (b := .int ((ps.length : Int) - 1)) (c := d4) rfl rfl rfl sp) okSpan
end K00
end Sv
set_option Elab.async false
set_option linter.all false
set_option maxRecDepth 100000
set_option maxHeartbeats 4000000
set_option exponentiation.threshold 10000
namespace Sv
open PySem PySem.Spec PyProof.Rows L2
/-- elements that change the store -/
theorem lc_st {t : D → En → Option En} {ge : G} {r0 : En} (P : S → Prop) (Y : D → Prop) : ∀ {ds : List D} {st : S}, (∀ d ∈ ds, ∀ st, P st → ∃ r1 y st', t d r0 = some r1 ∧ ge r1 st = .ok y st' ∧ P st' ∧ Y y) → P st → ∃ ys st', lcLoop t gYes ge r0 ds st = .ok ys st' ∧ P st' ∧ ys.length = ds.length ∧ ∀ y ∈ ys, Y y
  | [], st, _, p => ⟨[], st, rfl, p, rfl, fun y h => by cases h⟩
  | d :: ds, st, h, p => by
    obtain ⟨r1, y, st1, e1, e2, p1, hy⟩ := h d (List.mem_cons_self ..) st p
    obtain ⟨ys, st2, e3, p2, hl, hys⟩ := lc_st P Y (ds := ds) (st := st1) (fun d hd => h d (List.mem_cons_of_mem _ hd)) p1
    refine ⟨y :: ys, st2, ?_, p2, by rw [List.length_cons, List.length_cons, hl], fun z hz => ?_⟩
    · unfold lcLoop
      rw [e1]
      dsimp only [gYes]
      rw [e2]
      dsimp only
      rw [e3]
    · rcases List.mem_cons.mp hz with k | k
      · rw [k]
        exact hy
      · exact hys z k
theorem list_map_of {α : Type} {f : α → D} {Q : α → Prop} : ∀ {ys : List D}, (∀ y ∈ ys, ∃ a, y = f a ∧ Q a) → ∃ xs : List α, ys = xs.map f ∧ ∀ a ∈ xs, Q a
  | [], _ => ⟨[], rfl, fun a h => by cases h⟩
  | y :: ys, h => by
    obtain ⟨a, e, q⟩ := h y (List.mem_cons_self ..)
    obtain ⟨xs, e2, q2⟩ := list_map_of (ys := ys) fun z hz => h z (List.mem_cons_of_mem _ hz)
    refine ⟨a :: xs, by rw [e, e2]; rfl, fun z hz => ?_⟩
    rcases List.mem_cons.mp hz with k | k
    · rw [k]
      exact q
    · exact q2 z k
namespace K00
variable {st : S}
/-! ### boxes -/
theorem tup_lv {xs : List D} : fTuple [.lv xs] st = .ok (.tup xs) st := rfl
theorem x_s1 {l : Nat} {v : Int} {o1 o2 o3 o4 o5 o6 o7 o8 o9 o10 o11 : Option D} {st1 : S} (e : F__law_take [.loc l, .int 6] st = .ok (.int v) st1) :
    sAsg 1 (gBin (fAdd false) (gC (.int 1)) (gDef 2 F__law_take (gCons (gVar 0) (gCons (gC (.int 6)) gNil)))) [some (.loc l), o1, o2, o3, o4, o5, o6, o7, o8, o9, o10, o11] st = .nx [some (.loc l), some (.int (1 + v)), o2, o3, o4, o5, o6, o7, o8, o9, o10, o11] st1 := by
  simp -implicitDefEqProofs only [ap_fnF, ap_seq, ap_skip, ap_if, ap_ret, ap_asg, ap_asg2, ap_drop, ap_par, ap_par3, ap_unp, ap_for, ap_forL, ap_var, ap_c, ap_bin, ap_un, ap_nil, ap_cons, ap_call, ap_def, ap_tr, ap_not, ap_and, ap_or, ap_andv, ap_orv, ap_ife, ap_of, ap_mul, ap_div, ap_mod, ap_sub, ap_addi, ap_lt, ap_le, ap_gt, ap_ge, ap_eqi, ap_nei, ap_eqs, ap_neg, ap_truth, ap_bits, List.length, Nat.reduceSub, Nat.reduceAdd, Nat.reduceLeDiff, List.nil_append, List.cons_append, List.append_nil, List.set, List.getElem?_cons_zero, List.getElem?_cons_succ, List.getElem?_nil, setAll, fNot, eq_self, if_true, if_false, reduceIte, id_eq, decide_true, decide_false, Bool.false_eq_true, Bool.true_eq_false, Bool.not_true, Bool.not_false, Bool.true_or, Bool.false_or, Bool.or_true, Bool.or_false, Bool.true_and, Bool.false_and, Bool.and_true, Bool.and_false,e]
theorem x_s2 {l : Nat} {v n : Int} {o2 o3 o4 o5 o6 o7 o8 o9 o10 o11 : Option D} {st1 : S} {c : Bool} (e : F__law_take [.loc l, .int 12] st = .ok (.int v) st1) (h : decide (v = 11) = c) :
    sIf (gTr (gBin fEq (gDef 2 F__law_take (gCons (gVar 0) (gCons (gC (.int 12)) gNil))) (gC (.int 11)))) (sAsg 1 (gC (.int 8))) gSkip [some (.loc l), some (.int n), o2, o3, o4, o5, o6, o7, o8, o9, o10, o11] st = .nx [some (.loc l), some (.int (if c = true then 8 else n)), o2, o3, o4, o5, o6, o7, o8, o9, o10, o11] st1 := by
  cases c <;> simp -implicitDefEqProofs only [ap_fnF, ap_seq, ap_skip, ap_if, ap_ret, ap_asg, ap_asg2, ap_drop, ap_par, ap_par3, ap_unp, ap_for, ap_forL, ap_var, ap_c, ap_bin, ap_un, ap_nil, ap_cons, ap_call, ap_def, ap_tr, ap_not, ap_and, ap_or, ap_andv, ap_orv, ap_ife, ap_of, ap_mul, ap_div, ap_mod, ap_sub, ap_addi, ap_lt, ap_le, ap_gt, ap_ge, ap_eqi, ap_nei, ap_eqs, ap_neg, ap_truth, ap_bits, List.length, Nat.reduceSub, Nat.reduceAdd, Nat.reduceLeDiff, List.nil_append, List.cons_append, List.append_nil, List.set, List.getElem?_cons_zero, List.getElem?_cons_succ, List.getElem?_nil, setAll, fNot, eq_self, if_true, if_false, reduceIte, id_eq, decide_true, decide_false, Bool.false_eq_true, Bool.true_eq_false, Bool.not_true, Bool.not_false, Bool.true_or, Bool.false_or, Bool.or_true, Bool.or_false, Bool.true_and, Bool.false_and, Bool.and_true, Bool.and_false,e, h]
theorem range_v {r : En} {i n : Nat} (h : r[i]? = some (some (di n))) (hn : n ≤ 100000) : iOf iRange1 (gCons (gVar i) gNil) r st = .ok (rangeD 0 n) st := by
  refine range1_ok ?_ hn
  rw [ap_cons, ap_var, h]
  rfl
theorem x_s3 {l n : Nat} {o2 o3 o4 o5 o6 o7 o8 o9 o10 o11 : Option D} (h : Row st l) (hn : n ≤ 8) :
    ∃ ps st', sAsg 2 (gCall fTuple (gCons (gLc false [3] (iOf iRange1 (gCons (gVar 1) gNil)) (tgV 3) gYes (gDef 1 F__law_span (gCons (gVar 0) gNil))) gNil)) [some (.loc l), some (di n), o2, o3, o4, o5, o6, o7, o8, o9, o10, o11] st =
      .nx [some (.loc l), some (di n), some (db ps), o3, o4, o5, o6, o7, o8, o9, o10, o11] st' ∧ Row st' l ∧ ps.length = n ∧ ∀ p ∈ ps, Spok p := by
  obtain ⟨ys, st', e, r', hl, hy⟩ := lc_st (t := tgV 3) (ge := gDef 1 F__law_span (gCons (gVar 0) gNil)) (r0 := [some (.loc l), some (di n), o2, none, o4, o5, o6, o7, o8, o9, o10, o11]) (fun s => Row s l) (fun y => ∃ p, y = ds p ∧ Spok p) (ds := rangeD 0 n) (st := st) (fun d _ s hs => by
    obtain ⟨p, s', e, hp, r'⟩ := p_span hs
    refine ⟨[some (.loc l), some (di n), o2, some d, o4, o5, o6, o7, o8, o9, o10, o11], ds p, s', rfl, ?_, r', p, rfl, hp⟩
    simp -implicitDefEqProofs only [ap_fnF, ap_seq, ap_skip, ap_if, ap_ret, ap_asg, ap_asg2, ap_drop, ap_par, ap_par3, ap_unp, ap_for, ap_forL, ap_var, ap_c, ap_bin, ap_un, ap_nil, ap_cons, ap_call, ap_def, ap_tr, ap_not, ap_and, ap_or, ap_andv, ap_orv, ap_ife, ap_of, ap_mul, ap_div, ap_mod, ap_sub, ap_addi, ap_lt, ap_le, ap_gt, ap_ge, ap_eqi, ap_nei, ap_eqs, ap_neg, ap_truth, ap_bits, List.length, Nat.reduceSub, Nat.reduceAdd, Nat.reduceLeDiff, List.nil_append, List.cons_append, List.append_nil, List.set, List.getElem?_cons_zero, List.getElem?_cons_succ, List.getElem?_nil, setAll, fNot, eq_self, if_true, if_false, reduceIte, id_eq, decide_true, decide_false, Bool.false_eq_true, Bool.true_eq_false, Bool.not_true, Bool.not_false, Bool.true_or, Bool.false_or, Bool.or_true, Bool.or_false, Bool.true_and, Bool.false_and, Bool.and_true, Bool.and_false,e]) h
  obtain ⟨ps, rfl, hp⟩ := list_map_of hy
  have pl : ps.length = n := by
    rw [List.length_map, rangeD_len] at hl
    exact hl
  refine ⟨ps, st', asg_ok (d := db ps) (st1 := st') ?_ rfl, r', pl, hp⟩
  have g := range_v (st := st) (r := [some (.loc l), some (di n), o2, o3, o4, o5, o6, o7, o8, o9, o10, o11]) (i := 1) (n := n) rfl (by omega)
  have e2 := gLc_ok (c := false) (vs := [3]) (r := [some (.loc l), some (di n), o2, o3, o4, o5, o6, o7, o8, o9, o10, o11]) g e
  rw [nl_lv (by rw [List.length_map]; omega)] at e2
  have t := tup_lv (st := st') (xs := ps.map ds)
  generalize gLc false [3] (iOf iRange1 (gCons (gVar 1) gNil)) (tgV 3) gYes (gDef 1 F__law_span (gCons (gVar 0) gNil)) = gg at e2 ⊢
  simp -implicitDefEqProofs only [ap_fnF, ap_seq, ap_skip, ap_if, ap_ret, ap_asg, ap_asg2, ap_drop, ap_par, ap_par3, ap_unp, ap_for, ap_forL, ap_var, ap_c, ap_bin, ap_un, ap_nil, ap_cons, ap_call, ap_def, ap_tr, ap_not, ap_and, ap_or, ap_andv, ap_orv, ap_ife, ap_of, ap_mul, ap_div, ap_mod, ap_sub, ap_addi, ap_lt, ap_le, ap_gt, ap_ge, ap_eqi, ap_nei, ap_eqs, ap_neg, ap_truth, ap_bits, List.length, Nat.reduceSub, Nat.reduceAdd, Nat.reduceLeDiff, List.nil_append, List.cons_append, List.append_nil, List.set, List.getElem?_cons_zero, List.getElem?_cons_succ, List.getElem?_nil, setAll, fNot, eq_self, if_true, if_false, reduceIte, id_eq, decide_true, decide_false, Bool.false_eq_true, Bool.true_eq_false, Bool.not_true, Bool.not_false, Bool.true_or, Bool.false_or, Bool.or_true, Bool.or_false, Bool.true_and, Bool.false_and, Bool.and_true, Bool.and_false,e2, t]
  rfl
theorem x_s4 {ps : List Sp} {o0 o1 o3 o4 o5 o6 o7 o8 o9 o10 o11 : Option D} (hl : ps.length ≤ 8) :
    ∃ ex, sAsg 4 (gCall fTuple (gCons (gDef 1 F__law_corners (gCons (gVar 2) gNil)) gNil)) [o0, o1, some (db ps), o3, o4, o5, o6, o7, o8, o9, o10, o11] st = .nx [o0, o1, some (db ps), o3, some (.tup ((cors ps).map dp)), o5, o6, o7, o8, o9, o10, o11] (st ++ ex) := by
  obtain ⟨l', ex, e, at'⟩ := p_law_corners (st := st) hl
  refine ⟨ex, asg_ok (d := .tup ((cors ps).map dp)) ?_ rfl⟩
  have t : fTuple [.loc l'] (st ++ ex) = .ok (.tup ((cors ps).map dp)) (st ++ ex) := by
    show (match (st ++ ex)[l']? with
      | some ds => R.ok (D.tup ds) (st ++ ex)
      | none => .bad) = _
    rw [at']
  simp -implicitDefEqProofs only [ap_fnF, ap_seq, ap_skip, ap_if, ap_ret, ap_asg, ap_asg2, ap_drop, ap_par, ap_par3, ap_unp, ap_for, ap_forL, ap_var, ap_c, ap_bin, ap_un, ap_nil, ap_cons, ap_call, ap_def, ap_tr, ap_not, ap_and, ap_or, ap_andv, ap_orv, ap_ife, ap_of, ap_mul, ap_div, ap_mod, ap_sub, ap_addi, ap_lt, ap_le, ap_gt, ap_ge, ap_eqi, ap_nei, ap_eqs, ap_neg, ap_truth, ap_bits, List.length, Nat.reduceSub, Nat.reduceAdd, Nat.reduceLeDiff, List.nil_append, List.cons_append, List.append_nil, List.set, List.getElem?_cons_zero, List.getElem?_cons_succ, List.getElem?_nil, setAll, fNot, eq_self, if_true, if_false, reduceIte, id_eq, decide_true, decide_false, Bool.false_eq_true, Bool.true_eq_false, Bool.not_true, Bool.not_false, Bool.true_or, Bool.false_or, Bool.or_true, Bool.or_false, Bool.true_and, Bool.false_and, Bool.and_true, Bool.and_false,e, t]
theorem cors_len {ps : List Sp} (hl : ps.length ≤ 8) : (cors ps).length ≤ 256 := by
  unfold cors
  rw [List.length_map, List.length_range]
  exact Nat.pow_le_pow_right (by decide) (Nat.le_trans (wix_len 0 ps) hl)
theorem gen_pos {r : En} {ga : G} {a : D} {F : List D → S → R (List D)} {ys : List D} {st' : S} (h1 : ga r st = .ok a st) (h : F [a] st = .ok ys st') (hl : ys.length ≤ 100000) : gCall fTuple (gCons (gLstG false 1 F (gCons ga gNil)) gNil) r st = .ok (.tup ys) st' := by
  have e : gLstG false 1 F (gCons ga gNil) r st = .ok (.lv ys) st' := by
    unfold gLstG
    rw [ap_cons, h1]
    dsimp only
    rw [ap_nil]
    dsimp only
    rw [if_pos (by rfl), h]
    exact nl_lv hl
  have t := tup_lv (st := st') (xs := ys)
  generalize gLstG false 1 F (gCons ga gNil) = gg at e ⊢
  simp -implicitDefEqProofs only [ap_fnF, ap_seq, ap_skip, ap_if, ap_ret, ap_asg, ap_asg2, ap_drop, ap_par, ap_par3, ap_unp, ap_for, ap_forL, ap_var, ap_c, ap_bin, ap_un, ap_nil, ap_cons, ap_call, ap_def, ap_tr, ap_not, ap_and, ap_or, ap_andv, ap_orv, ap_ife, ap_of, ap_mul, ap_div, ap_mod, ap_sub, ap_addi, ap_lt, ap_le, ap_gt, ap_ge, ap_eqi, ap_nei, ap_eqs, ap_neg, ap_truth, ap_bits, List.length, Nat.reduceSub, Nat.reduceAdd, Nat.reduceLeDiff, List.nil_append, List.cons_append, List.append_nil, List.set, List.getElem?_cons_zero, List.getElem?_cons_succ, List.getElem?_nil, setAll, fNot, eq_self, if_true, if_false, reduceIte, id_eq, decide_true, decide_false, Bool.false_eq_true, Bool.true_eq_false, Bool.not_true, Bool.not_false, Bool.true_or, Bool.false_or, Bool.or_true, Bool.or_false, Bool.true_and, Bool.false_and, Bool.and_true, Bool.and_false,e, t]
theorem gen_kw {r : En} {ga : G} {a : D} {F : List D → S → R (List D)} {ys : List D} {st' : S} (h1 : ga r st = .ok a st) (h : F [a] st = .ok ys st') (hl : ys.length ≤ 100000) : gCall fTuple (gCons (gLstGk false 1 1 [0] F (gCons ga gNil)) gNil) r st = .ok (.tup ys) st' := by
  have e : gLstGk false 1 1 [0] F (gCons ga gNil) r st = .ok (.lv ys) st' := by
    unfold gLstGk
    rw [ap_cons, h1]
    dsimp only
    rw [ap_nil]
    dsimp only
    rw [if_pos ⟨rfl, rfl⟩]
    show gMk false (F [a] st) = _
    rw [h]
    exact nl_lv hl
  have t := tup_lv (st := st') (xs := ys)
  generalize gLstGk false 1 1 [0] F (gCons ga gNil) = gg at e ⊢
  simp -implicitDefEqProofs only [ap_fnF, ap_seq, ap_skip, ap_if, ap_ret, ap_asg, ap_asg2, ap_drop, ap_par, ap_par3, ap_unp, ap_for, ap_forL, ap_var, ap_c, ap_bin, ap_un, ap_nil, ap_cons, ap_call, ap_def, ap_tr, ap_not, ap_and, ap_or, ap_andv, ap_orv, ap_ife, ap_of, ap_mul, ap_div, ap_mod, ap_sub, ap_addi, ap_lt, ap_le, ap_gt, ap_ge, ap_eqi, ap_nei, ap_eqs, ap_neg, ap_truth, ap_bits, List.length, Nat.reduceSub, Nat.reduceAdd, Nat.reduceLeDiff, List.nil_append, List.cons_append, List.append_nil, List.set, List.getElem?_cons_zero, List.getElem?_cons_succ, List.getElem?_nil, setAll, fNot, eq_self, if_true, if_false, reduceIte, id_eq, decide_true, decide_false, Bool.false_eq_true, Bool.true_eq_false, Bool.not_true, Bool.not_false, Bool.true_or, Bool.false_or, Bool.or_true, Bool.or_false, Bool.true_and, Bool.false_and, Bool.and_true, Bool.and_false,e, t]
theorem sm_cors {ps : List Sp} : SM 6 (.tup ((cors ps).map dp)) := sm_map (fun c => sm_map (fun q => sm_dq) c) (cors ps)
theorem sm_db {ps : List Sp} : SM 6 (db ps) := sm_map (n := 5) (fun p => sm_ds) ps
theorem sm_dn {ks : List Nat} : SM 6 (dn ks) := sm_map (n := 5) (f := di) (fun k => (trivial : SM 5 (.int (k : Int)))) ks
theorem x_s5 {ps : List Sp} {o0 o1 o3 o5 o6 o7 o8 o9 o10 o11 : Option D} (hb : Bok ps) :
    ∃ ex, sIf (gOr (gNot (gTr (gDef 2 F__law_same (gCons (gCall fTuple (gCons (gLstG false 1 F_corners_of (gCons (gVar 2) gNil)) gNil)) (gCons (gVar 4) gNil))))) (gNot (gTr (gDef 2 F__law_same (gCons (gCall fTuple (gCons (gLstGk false 1 1 [0] F_corners_of (gCons (gVar 2) gNil)) gNil)) (gCons (gVar 4) gNil)))))) (sRet (gC (.bl false))) gSkip [o0, o1, some (db ps), o3, some (.tup ((cors ps).map dp)), o5, o6, o7, o8, o9, o10, o11] st =
      .nx [o0, o1, some (db ps), o3, some (.tup ((cors ps).map dp)), o5, o6, o7, o8, o9, o10, o11] (st ++ ex) := by
  have cl : ((cors ps).map dp).length ≤ 100000 := by have := cors_len hb.2; rw [List.length_map]; omega
  obtain ⟨ex1, c1⟩ := p_corners (st := st) hb
  obtain ⟨ex2, c2⟩ := p_corners (st := st ++ ex1) hb
  have g1 := gen_pos (r := [o0, o1, some (db ps), o3, some (.tup ((cors ps).map dp)), o5, o6, o7, o8, o9, o10, o11]) (ga := gVar 2) rfl c1 cl
  have g2 := gen_kw (r := [o0, o1, some (db ps), o3, some (.tup ((cors ps).map dp)), o5, o6, o7, o8, o9, o10, o11]) (ga := gVar 2) rfl c2 cl
  have s1 := p_same (st := st ++ ex1) (sm_cors (ps := ps))
  have s2 := p_same (st := st ++ ex1 ++ ex2) (sm_cors (ps := ps))
  refine ⟨ex1 ++ ex2, ?_⟩
  rw [← List.append_assoc]
  generalize gCall fTuple (gCons (gLstG false 1 F_corners_of (gCons (gVar 2) gNil)) gNil) = a at g1 ⊢
  generalize gCall fTuple (gCons (gLstGk false 1 1 [0] F_corners_of (gCons (gVar 2) gNil)) gNil) = b at g2 ⊢
  generalize (cors ps).map dp = cc at *
  simp -implicitDefEqProofs only [ap_fnF, ap_seq, ap_skip, ap_if, ap_ret, ap_asg, ap_asg2, ap_drop, ap_par, ap_par3, ap_unp, ap_for, ap_forL, ap_var, ap_c, ap_bin, ap_un, ap_nil, ap_cons, ap_call, ap_def, ap_tr, ap_not, ap_and, ap_or, ap_andv, ap_orv, ap_ife, ap_of, ap_mul, ap_div, ap_mod, ap_sub, ap_addi, ap_lt, ap_le, ap_gt, ap_ge, ap_eqi, ap_nei, ap_eqs, ap_neg, ap_truth, ap_bits, List.length, Nat.reduceSub, Nat.reduceAdd, Nat.reduceLeDiff, List.nil_append, List.cons_append, List.append_nil, List.set, List.getElem?_cons_zero, List.getElem?_cons_succ, List.getElem?_nil, setAll, fNot, eq_self, if_true, if_false, reduceIte, id_eq, decide_true, decide_false, Bool.false_eq_true, Bool.true_eq_false, Bool.not_true, Bool.not_false, Bool.true_or, Bool.false_or, Bool.or_true, Bool.or_false, Bool.true_and, Bool.false_and, Bool.and_true, Bool.and_false,g1, g2, s1, s2]
theorem x_s6 {ps : List Sp} {o0 o3 o4 o5 o6 o7 o8 o9 o10 o11 : Option D} (hb : Bok ps) :
    sAsg 5 (gCall fTuple (gCons (gLc false [3] (iOf iRange1 (gCons (gVar 1) gNil)) (tgV 3) (gTr (gBin fNe (gBin fIx (gBin fIx (gVar 2) (gVar 3)) (gC (.int 0))) (gBin fIx (gBin fIx (gVar 2) (gVar 3)) (gC (.int 1))))) (gVar 3)) gNil)) [o0, some (di ps.length), some (db ps), o3, o4, o5, o6, o7, o8, o9, o10, o11] st =
      .nx [o0, some (di ps.length), some (db ps), o3, o4, some (dn (wix 0 ps)), o6, o7, o8, o9, o10, o11] st := by
  have l := lc_filter (st := st) (t := tgV 3) (gt := gTr (gBin fNe (gBin fIx (gBin fIx (gVar 2) (gVar 3)) (gC (.int 0))) (gBin fIx (gBin fIx (gVar 2) (gVar 3)) (gC (.int 1))))) (ge := gVar 3) (r0 := [o0, some (di ps.length), some (db ps), none, o4, o5, o6, o7, o8, o9, o10, o11])
    (wfD ps) id (ds := rangeD 0 ps.length) fun d hd => by
      obtain ⟨k, hk, rfl⟩ := range_int hd
      have h1 : ps[k]? = some (ps[k]'hk) := List.getElem?_eq_getElem hk
      refine ⟨[o0, some (di ps.length), some (db ps), some (.int k), o4, o5, o6, o7, o8, o9, o10, o11], rfl, ?_, rfl⟩
      have e : wfD ps (.int k) = !decide ((ps[k]'hk).1 = (ps[k]'hk).2) := by
        show isW (ps.getD (k : Int).toNat ((0, 1), (0, 1))) = _
        rw [Int.toNat_natCast, List.getD_eq_getElem?_getD, h1]
        rfl
      rw [e]
      generalize ps[k]'hk = p at h1
      simp -implicitDefEqProofs only [ap_fnF, ap_seq, ap_skip, ap_if, ap_ret, ap_asg, ap_asg2, ap_drop, ap_par, ap_par3, ap_unp, ap_for, ap_forL, ap_var, ap_c, ap_bin, ap_un, ap_nil, ap_cons, ap_call, ap_def, ap_tr, ap_not, ap_and, ap_or, ap_andv, ap_orv, ap_ife, ap_of, ap_mul, ap_div, ap_mod, ap_sub, ap_addi, ap_lt, ap_le, ap_gt, ap_ge, ap_eqi, ap_nei, ap_eqs, ap_neg, ap_truth, ap_bits, List.length, Nat.reduceSub, Nat.reduceAdd, Nat.reduceLeDiff, List.nil_append, List.cons_append, List.append_nil, List.set, List.getElem?_cons_zero, List.getElem?_cons_succ, List.getElem?_nil, setAll, fNot, eq_self, if_true, if_false, reduceIte, id_eq, decide_true, decide_false, Bool.false_eq_true, Bool.true_eq_false, Bool.not_true, Bool.not_false, Bool.true_or, Bool.false_or, Bool.or_true, Bool.or_false, Bool.true_and, Bool.false_and, Bool.and_true, Bool.and_false,dbix h1, dsx0, dsx1, ne_q]
  rw [List.map_id, wide_filter] at l
  have g := range_v (st := st) (r := [o0, some (di ps.length), some (db ps), o3, o4, o5, o6, o7, o8, o9, o10, o11]) (i := 1) (n := ps.length) rfl (by have := hb.2; omega)
  have e2 := gLc_ok (c := false) (vs := [3]) (r := [o0, some (di ps.length), some (db ps), o3, o4, o5, o6, o7, o8, o9, o10, o11]) g l
  rw [nl_lv (by rw [List.length_map]; have := wix_len 0 ps; have := hb.2; omega)] at e2
  have t := tup_lv (st := st) (xs := (wix 0 ps).map di)
  refine asg_ok (d := dn (wix 0 ps)) (st1 := st) ?_ rfl
  generalize gLc false [3] (iOf iRange1 (gCons (gVar 1) gNil)) (tgV 3) (gTr (gBin fNe (gBin fIx (gBin fIx (gVar 2) (gVar 3)) (gC (.int 0))) (gBin fIx (gBin fIx (gVar 2) (gVar 3)) (gC (.int 1))))) (gVar 3) = gg at e2 ⊢
  simp -implicitDefEqProofs only [ap_fnF, ap_seq, ap_skip, ap_if, ap_ret, ap_asg, ap_asg2, ap_drop, ap_par, ap_par3, ap_unp, ap_for, ap_forL, ap_var, ap_c, ap_bin, ap_un, ap_nil, ap_cons, ap_call, ap_def, ap_tr, ap_not, ap_and, ap_or, ap_andv, ap_orv, ap_ife, ap_of, ap_mul, ap_div, ap_mod, ap_sub, ap_addi, ap_lt, ap_le, ap_gt, ap_ge, ap_eqi, ap_nei, ap_eqs, ap_neg, ap_truth, ap_bits, List.length, Nat.reduceSub, Nat.reduceAdd, Nat.reduceLeDiff, List.nil_append, List.cons_append, List.append_nil, List.set, List.getElem?_cons_zero, List.getElem?_cons_succ, List.getElem?_nil, setAll, fNot, eq_self, if_true, if_false, reduceIte, id_eq, decide_true, decide_false, Bool.false_eq_true, Bool.true_eq_false, Bool.not_true, Bool.not_false, Bool.true_or, Bool.false_or, Bool.or_true, Bool.or_false, Bool.true_and, Bool.false_and, Bool.and_true, Bool.and_false,e2, t]
  rfl
theorem x_s7 {ps : List Sp} {o0 o1 o3 o4 o6 o7 o8 o9 o10 o11 : Option D} (hb : Bok ps) :
    sIf (gNot (gTr (gDef 2 F__law_same (gCons (gDef 1 F_wide_sides (gCons (gVar 2) gNil)) (gCons (gVar 5) gNil))))) (sRet (gC (.bl false))) gSkip [o0, o1, some (db ps), o3, o4, some (dn (wix 0 ps)), o6, o7, o8, o9, o10, o11] st = .nx [o0, o1, some (db ps), o3, o4, some (dn (wix 0 ps)), o6, o7, o8, o9, o10, o11] st := by
  have w := p_wide_sides (st := st) hb
  have s := p_same (st := st) (sm_dn (ks := wix 0 ps))
  simp -implicitDefEqProofs only [ap_fnF, ap_seq, ap_skip, ap_if, ap_ret, ap_asg, ap_asg2, ap_drop, ap_par, ap_par3, ap_unp, ap_for, ap_forL, ap_var, ap_c, ap_bin, ap_un, ap_nil, ap_cons, ap_call, ap_def, ap_tr, ap_not, ap_and, ap_or, ap_andv, ap_orv, ap_ife, ap_of, ap_mul, ap_div, ap_mod, ap_sub, ap_addi, ap_lt, ap_le, ap_gt, ap_ge, ap_eqi, ap_nei, ap_eqs, ap_neg, ap_truth, ap_bits, List.length, Nat.reduceSub, Nat.reduceAdd, Nat.reduceLeDiff, List.nil_append, List.cons_append, List.append_nil, List.set, List.getElem?_cons_zero, List.getElem?_cons_succ, List.getElem?_nil, setAll, fNot, eq_self, if_true, if_false, reduceIte, id_eq, decide_true, decide_false, Bool.false_eq_true, Bool.true_eq_false, Bool.not_true, Bool.not_false, Bool.true_or, Bool.false_or, Bool.or_true, Bool.or_false, Bool.true_and, Bool.false_and, Bool.and_true, Bool.and_false,w, s]
/-! ### a turn -/
theorem t_s1 {l : Nat} {ps : List Sp} {o1 o3 o4 o5 o6 o7 o8 o9 o10 o11 : Option D} (h : Row st l) (hb : Bok ps) :
    ∃ qs st', sAsg 7 (gCall fTuple (gCons (gLc false [8] (iSq (gVar 2)) (tgV 8) gYes (gDef 2 F__law_near (gCons (gVar 0) (gCons (gVar 8) gNil)))) gNil)) [some (.loc l), o1, some (db ps), o3, o4, o5, o6, o7, o8, o9, o10, o11] st =
      .nx [some (.loc l), o1, some (db ps), o3, o4, o5, o6, some (dp qs), o8, o9, o10, o11] st' ∧ Row st' l ∧ qs.length = ps.length ∧ ∀ q ∈ qs, Qok q := by
  obtain ⟨ys, st', e, r', hl, hy⟩ := lc_st (t := tgV 8) (ge := gDef 2 F__law_near (gCons (gVar 0) (gCons (gVar 8) gNil))) (r0 := [some (.loc l), o1, some (db ps), o3, o4, o5, o6, o7, none, o9, o10, o11]) (fun s => Row s l) (fun y => ∃ q, y = dq q ∧ Qok q) (ds := ps.map ds) (st := st) (fun d hd s hs => by
    obtain ⟨p, hp, rfl⟩ := List.mem_map.mp hd
    obtain ⟨q, s', e, hq, r'⟩ := p_near (hb.1 p hp) hs
    refine ⟨[some (.loc l), o1, some (db ps), o3, o4, o5, o6, o7, some (ds p), o9, o10, o11], dq q, s', rfl, ?_, r', q, rfl, hq⟩
    simp -implicitDefEqProofs only [ap_fnF, ap_seq, ap_skip, ap_if, ap_ret, ap_asg, ap_asg2, ap_drop, ap_par, ap_par3, ap_unp, ap_for, ap_forL, ap_var, ap_c, ap_bin, ap_un, ap_nil, ap_cons, ap_call, ap_def, ap_tr, ap_not, ap_and, ap_or, ap_andv, ap_orv, ap_ife, ap_of, ap_mul, ap_div, ap_mod, ap_sub, ap_addi, ap_lt, ap_le, ap_gt, ap_ge, ap_eqi, ap_nei, ap_eqs, ap_neg, ap_truth, ap_bits, List.length, Nat.reduceSub, Nat.reduceAdd, Nat.reduceLeDiff, List.nil_append, List.cons_append, List.append_nil, List.set, List.getElem?_cons_zero, List.getElem?_cons_succ, List.getElem?_nil, setAll, fNot, eq_self, if_true, if_false, reduceIte, id_eq, decide_true, decide_false, Bool.false_eq_true, Bool.true_eq_false, Bool.not_true, Bool.not_false, Bool.true_or, Bool.false_or, Bool.or_true, Bool.or_false, Bool.true_and, Bool.false_and, Bool.and_true, Bool.and_false,e]) h
  obtain ⟨qs, rfl, hq⟩ := list_map_of hy
  have ql : qs.length = ps.length := by
    rw [List.length_map, List.length_map] at hl
    exact hl
  refine ⟨qs, st', asg_ok (d := dp qs) (st1 := st') ?_ rfl, r', ql, hq⟩
  have e2 := gLc_ok (c := false) (vs := [8]) (gi := iSq (gVar 2)) (r := [some (.loc l), o1, some (db ps), o3, o4, o5, o6, o7, o8, o9, o10, o11]) (ds := ps.map ds) (st := st) rfl e
  rw [nl_lv (by rw [List.length_map]; have := hb.2; omega)] at e2
  have t := tup_lv (st := st') (xs := qs.map dq)
  generalize gLc false [8] (iSq (gVar 2)) (tgV 8) gYes (gDef 2 F__law_near (gCons (gVar 0) (gCons (gVar 8) gNil))) = gg at e2 ⊢
  simp -implicitDefEqProofs only [ap_fnF, ap_seq, ap_skip, ap_if, ap_ret, ap_asg, ap_asg2, ap_drop, ap_par, ap_par3, ap_unp, ap_for, ap_forL, ap_var, ap_c, ap_bin, ap_un, ap_nil, ap_cons, ap_call, ap_def, ap_tr, ap_not, ap_and, ap_or, ap_andv, ap_orv, ap_ife, ap_of, ap_mul, ap_div, ap_mod, ap_sub, ap_addi, ap_lt, ap_le, ap_gt, ap_ge, ap_eqi, ap_nei, ap_eqs, ap_neg, ap_truth, ap_bits, List.length, Nat.reduceSub, Nat.reduceAdd, Nat.reduceLeDiff, List.nil_append, List.cons_append, List.append_nil, List.set, List.getElem?_cons_zero, List.getElem?_cons_succ, List.getElem?_nil, setAll, fNot, eq_self, if_true, if_false, reduceIte, id_eq, decide_true, decide_false, Bool.false_eq_true, Bool.true_eq_false, Bool.not_true, Bool.not_false, Bool.true_or, Bool.false_or, Bool.or_true, Bool.or_false, Bool.true_and, Bool.false_and, Bool.and_true, Bool.and_false,e2, t]
  rfl
def nhD (ps : List Sp) (qs : List Qt) : D → Bool
  | .int k => !heldQ (ps.getD k.toNat ((0, 1), (0, 1))) (qs.getD k.toNat (0, 1))
  | _ => false
theorem filter_len {α : Type} (p : α → Bool) : ∀ xs : List α, decide (((xs.filter fun x => !p x).length : Int) = 0) = xs.all p
  | [] => rfl
  | x :: xs => by
    have ih := filter_len p xs
    cases h : p x with
    | true =>
      rw [List.filter_cons_of_neg (by simp [h]), List.all_cons, h, Bool.true_and]
      exact ih
    | false =>
      rw [List.filter_cons_of_pos (by simp [h]), List.all_cons, h, Bool.false_and]
      exact decide_eq_false (by rw [List.length_cons]; omega)
theorem t_s2 {ps : List Sp} {qs : List Qt} {o0 o3 o4 o5 o6 o8 o9 o10 o11 : Option D} (hb : Bok ps) (hq : ∀ q ∈ qs, Qok q) (hl : qs.length = ps.length) :
    sAsg 9 (gBin fEq (gCall fLen (gCons (gLc false [3] (iOf iRange1 (gCons (gVar 1) gNil)) (tgV 3) (gNot (gTr (gDef 2 F__law_held (gCons (gBin fIx (gVar 2) (gVar 3)) (gCons (gBin fIx (gVar 7) (gVar 3)) gNil))))) (gVar 3)) gNil)) (gC (.int 0))) [o0, some (di ps.length), some (db ps), o3, o4, o5, o6, some (dp qs), o8, o9, o10, o11] st =
      .nx [o0, some (di ps.length), some (db ps), o3, o4, o5, o6, some (dp qs), o8, some (.bl (inB ps qs)), o10, o11] st := by
  have l := lc_filter (st := st) (t := tgV 3) (gt := gNot (gTr (gDef 2 F__law_held (gCons (gBin fIx (gVar 2) (gVar 3)) (gCons (gBin fIx (gVar 7) (gVar 3)) gNil))))) (ge := gVar 3) (r0 := [o0, some (di ps.length), some (db ps), none, o4, o5, o6, some (dp qs), o8, o9, o10, o11])
    (nhD ps qs) id (ds := rangeD 0 ps.length) fun d hd => by
      obtain ⟨k, hk, rfl⟩ := range_int hd
      have h1 : ps[k]? = some (ps[k]'hk) := List.getElem?_eq_getElem hk
      have h2 : qs[k]? = some (qs[k]'(by omega)) := List.getElem?_eq_getElem (by omega)
      have q := p_held (st := st) (hb.1 _ (List.mem_of_getElem? h1)) (hq _ (List.mem_of_getElem? h2))
      refine ⟨[o0, some (di ps.length), some (db ps), some (.int k), o4, o5, o6, some (dp qs), o8, o9, o10, o11], rfl, ?_, rfl⟩
      have e : nhD ps qs (.int k) = !heldQ (ps[k]'hk) (qs[k]'(by omega)) := by
        show (!heldQ (ps.getD (k : Int).toNat ((0, 1), (0, 1))) (qs.getD (k : Int).toNat (0, 1))) = _
        rw [Int.toNat_natCast, List.getD_eq_getElem?_getD, List.getD_eq_getElem?_getD, h1, h2]
        rfl
      rw [e]
      generalize ps[k]'hk = p at h1 q
      generalize qs[k]'(by omega) = z at h2 q
      simp -implicitDefEqProofs only [ap_fnF, ap_seq, ap_skip, ap_if, ap_ret, ap_asg, ap_asg2, ap_drop, ap_par, ap_par3, ap_unp, ap_for, ap_forL, ap_var, ap_c, ap_bin, ap_un, ap_nil, ap_cons, ap_call, ap_def, ap_tr, ap_not, ap_and, ap_or, ap_andv, ap_orv, ap_ife, ap_of, ap_mul, ap_div, ap_mod, ap_sub, ap_addi, ap_lt, ap_le, ap_gt, ap_ge, ap_eqi, ap_nei, ap_eqs, ap_neg, ap_truth, ap_bits, List.length, Nat.reduceSub, Nat.reduceAdd, Nat.reduceLeDiff, List.nil_append, List.cons_append, List.append_nil, List.set, List.getElem?_cons_zero, List.getElem?_cons_succ, List.getElem?_nil, setAll, fNot, eq_self, if_true, if_false, reduceIte, id_eq, decide_true, decide_false, Bool.false_eq_true, Bool.true_eq_false, Bool.not_true, Bool.not_false, Bool.true_or, Bool.false_or, Bool.or_true, Bool.or_false, Bool.true_and, Bool.false_and, Bool.and_true, Bool.and_false,dbix h1, dpix h2, q]
  have g := range_v (st := st) (r := [o0, some (di ps.length), some (db ps), o3, o4, o5, o6, some (dp qs), o8, o9, o10, o11]) (i := 1) (n := ps.length) rfl (by have := hb.2; omega)
  have e2 := gLc_ok (c := false) (vs := [3]) (r := [o0, some (di ps.length), some (db ps), o3, o4, o5, o6, some (dp qs), o8, o9, o10, o11]) g l
  have ll : (((rangeD 0 ps.length).filter (nhD ps qs)).map id).length ≤ 100000 := by
    rw [List.length_map]
    have := List.length_filter_le (nhD ps qs) (rangeD 0 ps.length)
    rw [rangeD_len] at this
    have := hb.2
    omega
  rw [nl_lv ll] at e2
  have t : fLen [.lv (((rangeD 0 ps.length).filter (nhD ps qs)).map id)] st = .ok (.int (((rangeD 0 ps.length).filter (nhD ps qs)).map id).length) st := rfl
  have ei : decide (((((rangeD 0 ps.length).filter (nhD ps qs)).map id).length : Int) = 0) = inB ps qs := by
    rw [List.map_id, rangeD0, List.filter_map, List.length_map]
    have z := filter_len (fun k => heldQ (ps.getD k ((0, 1), (0, 1))) (qs.getD k (0, 1))) (List.range ps.length)
    exact z
  refine asg_ok (d := .bl (inB ps qs)) (st1 := st) ?_ rfl
  generalize (((rangeD 0 ps.length).filter (nhD ps qs)).map id) = xs at *
  generalize gLc false [3] (iOf iRange1 (gCons (gVar 1) gNil)) (tgV 3) (gNot (gTr (gDef 2 F__law_held (gCons (gBin fIx (gVar 2) (gVar 3)) (gCons (gBin fIx (gVar 7) (gVar 3)) gNil))))) (gVar 3) = gg at e2 ⊢
  simp -implicitDefEqProofs only [ap_fnF, ap_seq, ap_skip, ap_if, ap_ret, ap_asg, ap_asg2, ap_drop, ap_par, ap_par3, ap_unp, ap_for, ap_forL, ap_var, ap_c, ap_bin, ap_un, ap_nil, ap_cons, ap_call, ap_def, ap_tr, ap_not, ap_and, ap_or, ap_andv, ap_orv, ap_ife, ap_of, ap_mul, ap_div, ap_mod, ap_sub, ap_addi, ap_lt, ap_le, ap_gt, ap_ge, ap_eqi, ap_nei, ap_eqs, ap_neg, ap_truth, ap_bits, List.length, Nat.reduceSub, Nat.reduceAdd, Nat.reduceLeDiff, List.nil_append, List.cons_append, List.append_nil, List.set, List.getElem?_cons_zero, List.getElem?_cons_succ, List.getElem?_nil, setAll, fNot, eq_self, if_true, if_false, reduceIte, id_eq, decide_true, decide_false, Bool.false_eq_true, Bool.true_eq_false, Bool.not_true, Bool.not_false, Bool.true_or, Bool.false_or, Bool.or_true, Bool.or_false, Bool.true_and, Bool.false_and, Bool.and_true, Bool.and_false,e2, t, ei]
section
variable {o0 o1 o3 o4 o5 o6 o8 o9 o10 o11 : Option D} {ps : List Sp} {qs : List Qt} {b : D}
theorem t_s3 (e1 : F__law_ask [.str "in_box", db ps, dp qs] st = .ok b st) (e2 : F__law_truth [b, b] st = .ok (.bl true) st) :
    sIf (gNot (gTr (gDef 2 F__law_truth (gCons (gDef 3 F__law_ask (gCons (gC (.str "in_box")) (gCons (gVar 2) (gCons (gVar 7) gNil)))) (gCons (gVar 9) gNil))))) (sRet (gC (.bl false))) gSkip [o0, o1, some (db ps), o3, o4, o5, o6, some (dp qs), o8, some b, o10, o11] st = .nx [o0, o1, some (db ps), o3, o4, o5, o6, some (dp qs), o8, some b, o10, o11] st := by
  simp -implicitDefEqProofs only [ap_fnF, ap_seq, ap_skip, ap_if, ap_ret, ap_asg, ap_asg2, ap_drop, ap_par, ap_par3, ap_unp, ap_for, ap_forL, ap_var, ap_c, ap_bin, ap_un, ap_nil, ap_cons, ap_call, ap_def, ap_tr, ap_not, ap_and, ap_or, ap_andv, ap_orv, ap_ife, ap_of, ap_mul, ap_div, ap_mod, ap_sub, ap_addi, ap_lt, ap_le, ap_gt, ap_ge, ap_eqi, ap_nei, ap_eqs, ap_neg, ap_truth, ap_bits, List.length, Nat.reduceSub, Nat.reduceAdd, Nat.reduceLeDiff, List.nil_append, List.cons_append, List.append_nil, List.set, List.getElem?_cons_zero, List.getElem?_cons_succ, List.getElem?_nil, setAll, fNot, eq_self, if_true, if_false, reduceIte, id_eq, decide_true, decide_false, Bool.false_eq_true, Bool.true_eq_false, Bool.not_true, Bool.not_false, Bool.true_or, Bool.false_or, Bool.or_true, Bool.or_false, Bool.true_and, Bool.false_and, Bool.and_true, Bool.and_false,e1, e2]
theorem pb_lc (hl : qs.length ≤ 8) : gCall fTuple (gCons (gLc false [10] (iSq (gVar 7)) (tgV 10) gYes (gCall fTup (gCons (gVar 10) (gCons (gVar 10) gNil)))) gNil) [o0, o1, some (db ps), o3, o4, o5, o6, some (dp qs), o8, o9, o10, o11] st = .ok (db (spP qs)) st := by
  have l := lc_map (st := st) (t := tgV 10) (ge := gCall fTup (gCons (gVar 10) (gCons (gVar 10) gNil))) (r0 := [o0, o1, some (db ps), o3, o4, o5, o6, some (dp qs), o8, o9, none, o11]) (fun d => .tup [d, d]) (ds := qs.map dq) fun d hd => ⟨[o0, o1, some (db ps), o3, o4, o5, o6, some (dp qs), o8, o9, some d, o11], rfl, rfl⟩
  have e2 := gLc_ok (c := false) (vs := [10]) (gi := iSq (gVar 7)) (r := [o0, o1, some (db ps), o3, o4, o5, o6, some (dp qs), o8, o9, o10, o11]) (ds := qs.map dq) (st := st) rfl l
  have e : (qs.map dq).map (fun d => D.tup [d, d]) = (spP qs).map ds := by
    unfold spP
    rw [List.map_map, List.map_map]
    rfl
  rw [e, nl_lv (by unfold spP; rw [List.length_map, List.length_map]; omega)] at e2
  have t := tup_lv (st := st) (xs := (spP qs).map ds)
  generalize gLc false [10] (iSq (gVar 7)) (tgV 10) gYes (gCall fTup (gCons (gVar 10) (gCons (gVar 10) gNil))) = gg at e2 ⊢
  simp -implicitDefEqProofs only [ap_fnF, ap_seq, ap_skip, ap_if, ap_ret, ap_asg, ap_asg2, ap_drop, ap_par, ap_par3, ap_unp, ap_for, ap_forL, ap_var, ap_c, ap_bin, ap_un, ap_nil, ap_cons, ap_call, ap_def, ap_tr, ap_not, ap_and, ap_or, ap_andv, ap_orv, ap_ife, ap_of, ap_mul, ap_div, ap_mod, ap_sub, ap_addi, ap_lt, ap_le, ap_gt, ap_ge, ap_eqi, ap_nei, ap_eqs, ap_neg, ap_truth, ap_bits, List.length, Nat.reduceSub, Nat.reduceAdd, Nat.reduceLeDiff, List.nil_append, List.cons_append, List.append_nil, List.set, List.getElem?_cons_zero, List.getElem?_cons_succ, List.getElem?_nil, setAll, fNot, eq_self, if_true, if_false, reduceIte, id_eq, decide_true, decide_false, Bool.false_eq_true, Bool.true_eq_false, Bool.not_true, Bool.not_false, Bool.true_or, Bool.false_or, Bool.or_true, Bool.or_false, Bool.true_and, Bool.false_and, Bool.and_true, Bool.and_false,e2, t]
  rfl
theorem t_s4 (hl : qs.length ≤ 8) (e1 : F__law_ask [.str "point_box", dp qs, .int 0] st = .ok (db (spP qs)) st) :
    sIf (gNot (gTr (gDef 2 F__law_same (gCons (gDef 3 F__law_ask (gCons (gC (.str "point_box")) (gCons (gVar 7) (gCons (gC (.int 0)) gNil)))) (gCons (gCall fTuple (gCons (gLc false [10] (iSq (gVar 7)) (tgV 10) gYes (gCall fTup (gCons (gVar 10) (gCons (gVar 10) gNil)))) gNil)) gNil))))) (sRet (gC (.bl false))) gSkip [o0, o1, some (db ps), o3, o4, o5, o6, some (dp qs), o8, o9, o10, o11] st = .nx [o0, o1, some (db ps), o3, o4, o5, o6, some (dp qs), o8, o9, o10, o11] st := by
  have k := pb_lc (st := st) (o0 := o0) (o1 := o1) (o3 := o3) (o4 := o4) (o5 := o5) (o6 := o6) (o8 := o8) (o9 := o9) (o10 := o10) (o11 := o11) (ps := ps) hl
  have s := p_same (st := st) (sm_db (ps := spP qs))
  generalize gCall fTuple (gCons (gLc false [10] (iSq (gVar 7)) (tgV 10) gYes (gCall fTup (gCons (gVar 10) (gCons (gVar 10) gNil)))) gNil) = gg at k ⊢
  simp -implicitDefEqProofs only [ap_fnF, ap_seq, ap_skip, ap_if, ap_ret, ap_asg, ap_asg2, ap_drop, ap_par, ap_par3, ap_unp, ap_for, ap_forL, ap_var, ap_c, ap_bin, ap_un, ap_nil, ap_cons, ap_call, ap_def, ap_tr, ap_not, ap_and, ap_or, ap_andv, ap_orv, ap_ife, ap_of, ap_mul, ap_div, ap_mod, ap_sub, ap_addi, ap_lt, ap_le, ap_gt, ap_ge, ap_eqi, ap_nei, ap_eqs, ap_neg, ap_truth, ap_bits, List.length, Nat.reduceSub, Nat.reduceAdd, Nat.reduceLeDiff, List.nil_append, List.cons_append, List.append_nil, List.set, List.getElem?_cons_zero, List.getElem?_cons_succ, List.getElem?_nil, setAll, fNot, eq_self, if_true, if_false, reduceIte, id_eq, decide_true, decide_false, Bool.false_eq_true, Bool.true_eq_false, Bool.not_true, Bool.not_false, Bool.true_or, Bool.false_or, Bool.or_true, Bool.or_false, Bool.true_and, Bool.false_and, Bool.and_true, Bool.and_false,e1, k, s]
theorem t_s5 {l : Nat} {n v : Int} {s : D} {o7 : Option D} {st1 st2 : S} (e1 : F__law_take [.loc l, .int n] st = .ok (.int v) st1) (e2 : F__law_span [.loc l] st1 = .ok s st2) :
    sPar 3 11 (gCons (gDef 2 F__law_take (gCons (gVar 0) (gCons (gVar 1) gNil))) (gCons (gDef 1 F__law_span (gCons (gVar 0) gNil)) gNil)) [some (.loc l), some (.int n), some (db ps), o3, o4, o5, o6, o7, o8, o9, o10, o11] st = .nx [some (.loc l), some (.int n), some (db ps), some (.int v), o4, o5, o6, o7, o8, o9, o10, some s] st2 := by
  simp -implicitDefEqProofs only [ap_fnF, ap_seq, ap_skip, ap_if, ap_ret, ap_asg, ap_asg2, ap_drop, ap_par, ap_par3, ap_unp, ap_for, ap_forL, ap_var, ap_c, ap_bin, ap_un, ap_nil, ap_cons, ap_call, ap_def, ap_tr, ap_not, ap_and, ap_or, ap_andv, ap_orv, ap_ife, ap_of, ap_mul, ap_div, ap_mod, ap_sub, ap_addi, ap_lt, ap_le, ap_gt, ap_ge, ap_eqi, ap_nei, ap_eqs, ap_neg, ap_truth, ap_bits, List.length, Nat.reduceSub, Nat.reduceAdd, Nat.reduceLeDiff, List.nil_append, List.cons_append, List.append_nil, List.set, List.getElem?_cons_zero, List.getElem?_cons_succ, List.getElem?_nil, setAll, fNot, eq_self, if_true, if_false, reduceIte, id_eq, decide_true, decide_false, Bool.false_eq_true, Bool.true_eq_false, Bool.not_true, Bool.not_false, Bool.true_or, Bool.false_or, Bool.or_true, Bool.or_false, Bool.true_and, Bool.false_and, Bool.and_true, Bool.and_false,e1, e2]
theorem t_s6 {k : Nat} {s : Sp} {o7 : Option D} (hk : k < ps.length) (hl : ps.length ≤ 8) :
    sAsg 4 (gBin (fAdd false) (gBin (fAdd false) (gSl false (gVar 2) goNone (goSome (gVar 3))) (gCall fTup (gCons (gVar 11) gNil))) (gSl false (gVar 2) (goSome (gBin (fAdd false) (gVar 3) (gC (.int 1)))) goNone)) [o0, o1, some (db ps), some (di k), o4, o5, o6, o7, o8, o9, o10, some (ds s)] st =
      .nx [o0, o1, some (db ps), some (di k), some (db (putS ps k s)), o5, o6, o7, o8, o9, o10, some (ds s)] st := by
  have lm : (ps.map ds).length = ps.length := List.length_map ..
  have e1 : gSl false (gVar 2) goNone (goSome (gVar 3)) [o0, o1, some (db ps), some (di k), o4, o5, o6, o7, o8, o9, o10, some (ds s)] st = .ok (.tup ((ps.map ds).take k)) st := by
    rw [← cut_take (by omega)]
    rfl
  have e2 : gSl false (gVar 2) (goSome (gBin (fAdd false) (gVar 3) (gC (.int 1)))) goNone [o0, o1, some (db ps), some (di k), o4, o5, o6, o7, o8, o9, o10, some (ds s)] st = .ok (.tup ((ps.map ds).drop (k + 1))) st := by
    rw [← cut_drop (by omega)]
    rfl
  have t1 : ∀ a : D, fTup [a] st = .ok (.tup [a]) st := fun _ => rfl
  have a1 := addt (st := st) (xs := (ps.map ds).take k) (ys := [ds s]) (by rw [List.length_take]; simp only [List.length_singleton]; omega)
  have a2 := addt (st := st) (xs := (ps.map ds).take k ++ [ds s]) (ys := (ps.map ds).drop (k + 1)) (by rw [List.length_append, List.length_take, List.length_drop]; simp only [List.length_singleton]; omega)
  rw [db_putS] at a2
  refine asg_ok (d := db (putS ps k s)) (st1 := st) ?_ rfl
  generalize (ps.map ds).take k ++ [ds s] = ys at a1 a2
  generalize gSl false (gVar 2) goNone (goSome (gVar 3)) = g1 at e1 ⊢
  generalize gSl false (gVar 2) (goSome (gBin (fAdd false) (gVar 3) (gC (.int 1)))) goNone = g2 at e2 ⊢
  simp -implicitDefEqProofs only [ap_fnF, ap_seq, ap_skip, ap_if, ap_ret, ap_asg, ap_asg2, ap_drop, ap_par, ap_par3, ap_unp, ap_for, ap_forL, ap_var, ap_c, ap_bin, ap_un, ap_nil, ap_cons, ap_call, ap_def, ap_tr, ap_not, ap_and, ap_or, ap_andv, ap_orv, ap_ife, ap_of, ap_mul, ap_div, ap_mod, ap_sub, ap_addi, ap_lt, ap_le, ap_gt, ap_ge, ap_eqi, ap_nei, ap_eqs, ap_neg, ap_truth, ap_bits, List.length, Nat.reduceSub, Nat.reduceAdd, Nat.reduceLeDiff, List.nil_append, List.cons_append, List.append_nil, List.set, List.getElem?_cons_zero, List.getElem?_cons_succ, List.getElem?_nil, setAll, fNot, eq_self, if_true, if_false, reduceIte, id_eq, decide_true, decide_false, Bool.false_eq_true, Bool.true_eq_false, Bool.not_true, Bool.not_false, Bool.true_or, Bool.false_or, Bool.or_true, Bool.or_false, Bool.true_and, Bool.false_and, Bool.and_true, Bool.and_false,e1, e2, t1, a1, a2]
theorem t_s7 {k : D} {s d : D} {o7 : Option D} (e1 : F__law_ask_side [db ps, k, s] st = .ok d st) (e2 : F__law_same [d, d] st = .ok (.bl true) st) :
    sIf (gNot (gTr (gDef 2 F__law_same (gCons (gDef 3 F__law_ask_side (gCons (gVar 2) (gCons (gVar 3) (gCons (gVar 11) gNil)))) (gCons (gVar 4) gNil))))) (sRet (gC (.bl false))) gSkip [o0, o1, some (db ps), some k, some d, o5, o6, o7, o8, o9, o10, some s] st = .nx [o0, o1, some (db ps), some k, some d, o5, o6, o7, o8, o9, o10, some s] st := by
  simp -implicitDefEqProofs only [ap_fnF, ap_seq, ap_skip, ap_if, ap_ret, ap_asg, ap_asg2, ap_drop, ap_par, ap_par3, ap_unp, ap_for, ap_forL, ap_var, ap_c, ap_bin, ap_un, ap_nil, ap_cons, ap_call, ap_def, ap_tr, ap_not, ap_and, ap_or, ap_andv, ap_orv, ap_ife, ap_of, ap_mul, ap_div, ap_mod, ap_sub, ap_addi, ap_lt, ap_le, ap_gt, ap_ge, ap_eqi, ap_nei, ap_eqs, ap_neg, ap_truth, ap_bits, List.length, Nat.reduceSub, Nat.reduceAdd, Nat.reduceLeDiff, List.nil_append, List.cons_append, List.append_nil, List.set, List.getElem?_cons_zero, List.getElem?_cons_succ, List.getElem?_nil, setAll, fNot, eq_self, if_true, if_false, reduceIte, id_eq, decide_true, decide_false, Bool.false_eq_true, Bool.true_eq_false, Bool.not_true, Bool.not_false, Bool.true_or, Bool.false_or, Bool.or_true, Bool.or_false, Bool.true_and, Bool.false_and, Bool.and_true, Bool.and_false,e1, e2]
end
/-- behind a turn -/
def BxSt (l : Nat) (ps : List Sp) (w : D) (r : En) : Prop := ∃ o6 o8 o10 k s qs, r = [some (.loc l), some (di ps.length), some (db ps), some (di k), some (db (putS ps k s)), some w, o6, some (dp qs), o8, some (.bl (inB ps qs)), o10, some (ds s)] ∧ k < ps.length ∧ Spok s ∧ qs.length = ps.length ∧ ∀ q ∈ qs, Qok q
theorem b_turn {l : Nat} {ps : List Sp} {w : D} {o3 o4 o6 o7 o8 o9 o10 o11 : Option D} (h : Row st l) (hb : Bok ps) (h0 : 1 ≤ ps.length) : ∃ r' st', b__law_boxes_1 [some (.loc l), some (di ps.length), some (db ps), o3, o4, some w, o6, o7, o8, o9, o10, o11] st = .nx r' st' ∧ BxSt l ps w r' ∧ Row st' l := by
  have h8 := hb.2
  obtain ⟨qs, st1, e1, r1, ql, hq⟩ := t_s1 (o1 := some (di ps.length)) (o3 := o3) (o4 := o4) (o5 := some w) (o6 := o6) (o7 := o7) (o8 := o8) (o9 := o9) (o10 := o10) (o11 := o11) h hb
  obtain ⟨v, st2, e2, v0, v1, r2⟩ := p_draw (ps.length : Int) r1 (by omega)
  obtain ⟨s, st3, e3, hs, r3⟩ := p_span r2
  obtain ⟨k, rfl⟩ : ∃ k : Nat, v = (k : Int) := ⟨v.toNat, by omega⟩
  have hk : k < ps.length := by omega
  have a1 : F__law_ask [.str "in_box", db ps, dp qs] st1 = .ok (.bl (inB ps qs)) st1 := by rw [ask_in_box, p_in_box hb hq ql, caught_ok]
  have a2 : F__law_ask [.str "point_box", dp qs, .int 0] st1 = .ok (db (spP qs)) st1 := by rw [ask_point_box, p_point_box (by omega) (by omega) hq, caught_ok]
  have a3 : F__law_ask_side [db ps, di k, ds s] st3 = .ok (db (putS ps k s)) st3 := by
    rw [p_ask_side]
    have z := p_with_side (st := st3) hb hk hs
    show caught (F_with_side [db ps, .int k, ds s] st3) = _
    rw [z, caught_ok]
  refine ⟨_, st3, ?_, ⟨o6, o8, o10, k, s, qs, rfl, hk, hs, ql, hq⟩, r3⟩
  unfold b__law_boxes_1
  exact seq_nx e1 (seq_nx (t_s2 hb hq ql) (seq_nx (t_s3 a1 p_truth) (seq_nx (t_s4 (by omega) a2) (seq_nx (t_s5 e2 e3) (seq_nx (t_s6 hk h8) (t_s7 a3 (p_same sm_db)))))))
theorem kw3 {F : List D → S → R D} {ga gb gc : G} {r : En} {a b c : D} {x : R D} (h1 : ga r st = .ok a st) (h2 : gb r st = .ok b st) (h3 : gc r st = .ok c st) (h : F [c, b, a] st = x) : gKw 3 3 [2, 1, 0] F (gCons ga (gCons gb (gCons gc gNil))) r st = x := by
  rw [ap_kw, ap_cons, h1]
  dsimp only
  rw [ap_cons, h2]
  dsimp only
  rw [ap_cons, h3]
  dsimp only
  rw [ap_nil]
  dsimp only
  rw [if_pos (by exact ⟨rfl, rfl⟩)]
  exact h
theorem kw1 {F : List D → S → R D} {ga : G} {r : En} {a : D} {x : R D} (h1 : ga r st = .ok a st) (h : F [a] st = x) : gKw 1 1 [0] F (gCons ga gNil) r st = x := by
  rw [ap_kw, ap_cons, h1]
  dsimp only
  rw [ap_nil]
  dsimp only
  rw [if_pos (by exact ⟨rfl, rfl⟩)]
  exact h
section
variable {l : Nat} {ps : List Sp} {qs : List Qt} {k d w s : D} {b : Bool} {o0 o1 o6 o8 o9 o10 : Option D}
theorem z_s1 (e1 : F_with_side [db ps, k, s] st = .ok d st) (e2 : F__law_same [d, d] st = .ok (.bl true) st) (e3 : F_wide_sides [db ps] st = .ok w st) (e4 : F__law_same [w, w] st = .ok (.bl true) st) :
    sIf (gOr (gNot (gTr (gDef 2 F__law_same (gCons (gKw 3 3 [2, 1, 0] F_with_side (gCons (gVar 11) (gCons (gVar 3) (gCons (gVar 2) gNil)))) (gCons (gVar 4) gNil))))) (gNot (gTr (gDef 2 F__law_same (gCons (gKw 1 1 [0] F_wide_sides (gCons (gVar 2) gNil)) (gCons (gVar 5) gNil)))))) (sRet (gC (.bl false))) gSkip [o0, o1, some (db ps), some k, some d, some w, o6, some (dp qs), o8, o9, o10, some s] st =
      .nx [o0, o1, some (db ps), some k, some d, some w, o6, some (dp qs), o8, o9, o10, some s] st := by
  have k1 : gKw 3 3 [2, 1, 0] F_with_side (gCons (gVar 11) (gCons (gVar 3) (gCons (gVar 2) gNil))) [o0, o1, some (db ps), some k, some d, some w, o6, some (dp qs), o8, o9, o10, some s] st = .ok d st := kw3 rfl rfl rfl e1
  have k2 : gKw 1 1 [0] F_wide_sides (gCons (gVar 2) gNil) [o0, o1, some (db ps), some k, some d, some w, o6, some (dp qs), o8, o9, o10, some s] st = .ok w st := kw1 rfl e3
  simp -implicitDefEqProofs only [ap_fnF, ap_seq, ap_skip, ap_if, ap_ret, ap_asg, ap_asg2, ap_drop, ap_par, ap_par3, ap_unp, ap_for, ap_forL, ap_var, ap_c, ap_bin, ap_un, ap_nil, ap_cons, ap_call, ap_def, ap_tr, ap_not, ap_and, ap_or, ap_andv, ap_orv, ap_ife, ap_of, ap_mul, ap_div, ap_mod, ap_sub, ap_addi, ap_lt, ap_le, ap_gt, ap_ge, ap_eqi, ap_nei, ap_eqs, ap_neg, ap_truth, ap_bits, List.length, Nat.reduceSub, Nat.reduceAdd, Nat.reduceLeDiff, List.nil_append, List.cons_append, List.append_nil, List.set, List.getElem?_cons_zero, List.getElem?_cons_succ, List.getElem?_nil, setAll, fNot, eq_self, if_true, if_false, reduceIte, id_eq, decide_true, decide_false, Bool.false_eq_true, Bool.true_eq_false, Bool.not_true, Bool.not_false, Bool.true_or, Bool.false_or, Bool.or_true, Bool.or_false, Bool.true_and, Bool.false_and, Bool.and_true, Bool.and_false,k1, k2, e2, e4]
theorem z_s2 (hl : qs.length ≤ 8) (e1 : F_point_box [dp qs] st = .ok (db (spP qs)) st) :
    sIf (gNot (gTr (gDef 2 F__law_same (gCons (gKw 1 1 [0] F_point_box (gCons (gVar 7) gNil)) (gCons (gCall fTuple (gCons (gLc false [10] (iSq (gVar 7)) (tgV 10) gYes (gCall fTup (gCons (gVar 10) (gCons (gVar 10) gNil)))) gNil)) gNil))))) (sRet (gC (.bl false))) gSkip [o0, o1, some (db ps), some k, some d, some w, o6, some (dp qs), o8, o9, o10, some s] st =
      .nx [o0, o1, some (db ps), some k, some d, some w, o6, some (dp qs), o8, o9, o10, some s] st := by
  have kk := pb_lc (st := st) (o0 := o0) (o1 := o1) (o3 := some k) (o4 := some d) (o5 := some w) (o6 := o6) (o8 := o8) (o9 := o9) (o10 := o10) (o11 := some s) (ps := ps) hl
  have sm := p_same (st := st) (sm_db (ps := spP qs))
  have k1 : gKw 1 1 [0] F_point_box (gCons (gVar 7) gNil) [o0, o1, some (db ps), some k, some d, some w, o6, some (dp qs), o8, o9, o10, some s] st = .ok (db (spP qs)) st := kw1 rfl e1
  generalize gCall fTuple (gCons (gLc false [10] (iSq (gVar 7)) (tgV 10) gYes (gCall fTup (gCons (gVar 10) (gCons (gVar 10) gNil)))) gNil) = gg at kk ⊢
  simp -implicitDefEqProofs only [ap_fnF, ap_seq, ap_skip, ap_if, ap_ret, ap_asg, ap_asg2, ap_drop, ap_par, ap_par3, ap_unp, ap_for, ap_forL, ap_var, ap_c, ap_bin, ap_un, ap_nil, ap_cons, ap_call, ap_def, ap_tr, ap_not, ap_and, ap_or, ap_andv, ap_orv, ap_ife, ap_of, ap_mul, ap_div, ap_mod, ap_sub, ap_addi, ap_lt, ap_le, ap_gt, ap_ge, ap_eqi, ap_nei, ap_eqs, ap_neg, ap_truth, ap_bits, List.length, Nat.reduceSub, Nat.reduceAdd, Nat.reduceLeDiff, List.nil_append, List.cons_append, List.append_nil, List.set, List.getElem?_cons_zero, List.getElem?_cons_succ, List.getElem?_nil, setAll, fNot, eq_self, if_true, if_false, reduceIte, id_eq, decide_true, decide_false, Bool.false_eq_true, Bool.true_eq_false, Bool.not_true, Bool.not_false, Bool.true_or, Bool.false_or, Bool.or_true, Bool.or_false, Bool.true_and, Bool.false_and, Bool.and_true, Bool.and_false,k1, kk, sm]
theorem z_s3 {st' : S} (e1 : F_in_box [db ps, dp qs] st = .ok (.bl b) st) (e2 : F__law_truth [.bl b, .bl b] st = .ok (.bl true) st) (e3 : F__law_bad_boxes [.loc l, db ps, dp qs, s] st = .ok (.bl true) st') :
    sRet (gAndV (gDef 2 F__law_truth (gCons (gKw 2 2 [1, 0] F_in_box (gCons (gVar 7) (gCons (gVar 2) gNil))) (gCons (gVar 9) gNil))) (gDef 4 F__law_bad_boxes (gCons (gVar 0) (gCons (gVar 2) (gCons (gVar 7) (gCons (gVar 11) gNil)))))) [some (.loc l), o1, some (db ps), some k, some d, some w, o6, some (dp qs), o8, some (.bl b), o10, some s] st = .rt (.bl true) st' := by
  have k1 : gKw 2 2 [1, 0] F_in_box (gCons (gVar 7) (gCons (gVar 2) gNil)) [some (.loc l), o1, some (db ps), some k, some d, some w, o6, some (dp qs), o8, some (.bl b), o10, some s] st = .ok (.bl b) st := kw2 rfl rfl e1
  simp -implicitDefEqProofs only [ap_fnF, ap_seq, ap_skip, ap_if, ap_ret, ap_asg, ap_asg2, ap_drop, ap_par, ap_par3, ap_unp, ap_for, ap_forL, ap_var, ap_c, ap_bin, ap_un, ap_nil, ap_cons, ap_call, ap_def, ap_tr, ap_not, ap_and, ap_or, ap_andv, ap_orv, ap_ife, ap_of, ap_mul, ap_div, ap_mod, ap_sub, ap_addi, ap_lt, ap_le, ap_gt, ap_ge, ap_eqi, ap_nei, ap_eqs, ap_neg, ap_truth, ap_bits, List.length, Nat.reduceSub, Nat.reduceAdd, Nat.reduceLeDiff, List.nil_append, List.cons_append, List.append_nil, List.set, List.getElem?_cons_zero, List.getElem?_cons_succ, List.getElem?_nil, setAll, fNot, eq_self, if_true, if_false, reduceIte, id_eq, decide_true, decide_false, Bool.false_eq_true, Bool.true_eq_false, Bool.not_true, Bool.not_false, Bool.true_or, Bool.false_or, Bool.or_true, Bool.or_false, Bool.true_and, Bool.false_and, Bool.and_true, Bool.and_false,k1, e2, e3]
end
theorem for4' {i : Nat} {body : GS} {r r' : En} {st' : S} (h : loopV (tgV i) body [.int 0, .int 1, .int 2, .int 3] r st = .nx r' st') : sFor (iOf iRange1 (gCons (gC (.int 4)) gNil)) (tgV i) body r st = .nx r' st' := by
  have e : iOf iRange1 (gCons (gC (.int 4)) gNil) r st = .ok (rangeD 0 4) st := range1_ok (n := 4) rfl (by decide)
  rw [ap_for, e]
  exact h
theorem p_law_boxes {l : Nat} (h : Row st l) : ∃ st', F__law_boxes [.loc l] st = .ok (.bl true) st' ∧ Row st' l := by
  obtain ⟨v, st1, e1, v0, v1, r1⟩ := p_draw 6 h (by decide)
  obtain ⟨u, st2, e2, u0, u1, r2⟩ := p_draw 12 r1 (by decide)
  obtain ⟨n, en, hn0, hn8⟩ : ∃ n : Nat, (if decide (u = 11) = true then 8 else 1 + v) = (n : Int) ∧ 1 ≤ n ∧ n ≤ 8 := by
    by_cases z : u = 11
    · exact ⟨8, if_pos (decide_eq_true z), by decide, by decide⟩
    · exact ⟨(1 + v).toNat, by rw [if_neg (by simpa using z)]; omega, by omega, by omega⟩
  have s2 := x_s2 (n := 1 + v) (o2 := none) (o3 := none) (o4 := none) (o5 := none) (o6 := none) (o7 := none) (o8 := none) (o9 := none) (o10 := none) (o11 := none) e2 rfl
  rw [en] at s2
  obtain ⟨ps, st3, e3, r3, pl, hp⟩ := x_s3 (o2 := none) (o3 := none) (o4 := none) (o5 := none) (o6 := none) (o7 := none) (o8 := none) (o9 := none) (o10 := none) (o11 := none) r2 hn8
  subst pl
  have hb : Bok ps := ⟨hp, hn8⟩
  obtain ⟨ex4, e4⟩ := x_s4 (st := st3) (o0 := some (.loc l)) (o1 := some (di ps.length)) (o3 := none) (o4 := none) (o5 := none) (o6 := none) (o7 := none) (o8 := none) (o9 := none) (o10 := none) (o11 := none) hn8
  obtain ⟨ex5, e5⟩ := x_s5 (st := st3 ++ ex4) (o0 := some (.loc l)) (o1 := some (di ps.length)) (o3 := none) (o5 := none) (o6 := none) (o7 := none) (o8 := none) (o9 := none) (o10 := none) (o11 := none) hb
  have r5 : Row (st3 ++ ex4 ++ ex5) l := (r3.more).more
  have e6 := x_s6 (st := st3 ++ ex4 ++ ex5) (o0 := some (.loc l)) (o3 := none) (o4 := some (.tup ((cors ps).map dp))) (o5 := none) (o6 := none) (o7 := none) (o8 := none) (o9 := none) (o10 := none) (o11 := none) hb
  have e7 := x_s7 (st := st3 ++ ex4 ++ ex5) (o0 := some (.loc l)) (o1 := some (di ps.length)) (o3 := none) (o4 := some (.tup ((cors ps).map dp))) (o6 := none) (o7 := none) (o8 := none) (o9 := none) (o10 := none) (o11 := none) hb
  obtain ⟨r9, st9, lp, ⟨o6, o8, o10, k, s, qs, rfl, hk, hs, ql, hq⟩, hr⟩ := loopV_inv (t := tgV 6) (body := b__law_boxes_1) (P := fun r s => (∃ o3 o4 o6 o7 o8 o9 o10 o11, r = [some (.loc l), some (di ps.length), some (db ps), o3, o4, some (dn (wix 0 ps)), o6, o7, o8, o9, o10, o11]) ∧ Row s l)
    (Q := fun r s => BxSt l ps (dn (wix 0 ps)) r ∧ Row s l) (fun r s ⟨⟨o6, o8, o10, k, s', qs, e, _⟩, hr⟩ => ⟨⟨_, _, _, _, _, _, _, _, e⟩, hr⟩)
    (fun d r s ⟨⟨o3, o4, o6, o7, o8, o9, o10, o11, e⟩, hr⟩ => by
      subst e
      obtain ⟨r', st', e, hs, hr'⟩ := b_turn (w := dn (wix 0 ps)) (o3 := o3) (o4 := o4) (o6 := some d) (o7 := o7) (o8 := o8) (o9 := o9) (o10 := o10) (o11 := o11) hr hb hn0
      exact ⟨_, r', st', rfl, e, hs, hr'⟩)
    [.int 0, .int 1, .int 2, .int 3] [some (.loc l), some (di ps.length), some (db ps), none, some (.tup ((cors ps).map dp)), some (dn (wix 0 ps)), none, none, none, none, none, none] (st3 ++ ex4 ++ ex5) ⟨⟨_, _, _, _, _, _, _, _, rfl⟩, r5⟩ (by simp)
  obtain ⟨st10, eb, r10⟩ := p_bad_boxes (qs := qs) hr hb hn0 ql hs
  refine ⟨st10, fn_rt (N := N__law_boxes) (g := g__law_boxes) (r := [some (.loc l), none, none, none, none, none, none, none, none, none, none, none]) rfl ?_, r10⟩
  unfold g__law_boxes
  exact seq_nx (x_s1 e1) (seq_nx s2 (seq_nx e3 (seq_nx e4 (seq_nx e5 (seq_nx e6 (seq_nx e7 (seq_nx (for4' lp) (seq_nx (z_s1 (p_with_side hb hk hs) (p_same sm_db) (p_wide_sides hb) (p_same sm_dn)) (seq_nx (z_s2 (by omega) (p_point_box (by omega) (by omega) hq)) (z_s3 (p_in_box hb hq ql) p_truth eb))))))))))
end K00
end Sv
set_option Elab.async false
set_option linter.all false
set_option maxRecDepth 100000
set_option maxHeartbeats 4000000
set_option exponentiation.threshold 10000
namespace Sv
open PySem PySem.Spec PyProof.Rows L2
theorem loopV_count {t : D → En → Option En} {body : GS} (N : Nat) (P : Nat → En → S → Prop) (Y : D → Prop) (h : ∀ n d r st, n < N → Y d → P n r st → ∃ r1 r2 st2, t d r = some r1 ∧ body r1 st = .nx r2 st2 ∧ P (n + 1) r2 st2) : ∀ (ds : List D) (n : Nat) (r : En) (st : S), n + ds.length ≤ N → (∀ d ∈ ds, Y d) → P n r st → ∃ r2 st2, loopV t body ds r st = .nx r2 st2 ∧ P (n + ds.length) r2 st2
  | [], n, r, st, _, _, p => ⟨r, st, rfl, p⟩
  | d :: ds, n, r, st, hn, hy, p => by
    rw [List.length_cons] at hn
    obtain ⟨r1, r2, st2, e1, e2, p2⟩ := h n d r st (by omega) (hy d (List.mem_cons_self ..)) p
    obtain ⟨r3, st3, e3, p3⟩ := loopV_count N P Y h ds (n + 1) r2 st2 (by omega) (fun d hd => hy d (List.mem_cons_of_mem _ hd)) p2
    refine ⟨r3, st3, ?_, by rw [List.length_cons, show n + (ds.length + 1) = n + 1 + ds.length by omega]; exact p3⟩
    unfold loopV
    rw [e1]
    dsimp only
    rw [e2]
    exact e3
namespace K00
variable {st : S}
/-! ### the row -/
def RowN (st : S) (l n : Nat) : Prop := ∃ vs : List Int, st[l]? = some (vs.map D.int) ∧ vs.length ≤ n
theorem RowN.push {l n : Nat} {i : Int} (h : RowN st l n) (hn : n < 100000) : ∃ st', fApp (.loc l) (.int i) st = .ok .non st' ∧ RowN st' l (n + 1) := by
  obtain ⟨vs, e, hl⟩ := h
  refine ⟨_, fapp e (by rw [List.length_map]; omega), vs ++ [i], ?_, by rw [List.length_append, List.length_singleton]; omega⟩
  rw [List.getElem?_set_self (List.getElem?_eq_some_iff.mp e).1]
  simp
theorem RowN.mono {l n m : Nat} (h : RowN st l n) (k : n ≤ m) : RowN st l m := by
  obtain ⟨vs, e, hl⟩ := h
  exact ⟨vs, e, by omega⟩
theorem divc {i j : Int} (h : j ≠ 0) (k : j.natAbs < 2 ^ 64) : DivC i j := ⟨h, lt_big k (by decide)⟩
theorem w_1a {l : Nat} {o0 o2 o4 o5 o6 : Option D} {i : Int} {st1 : S} (h : decide (0 < i) = true) (d : DivC i 10007) (e : fApp (.loc l) (.int (i.fmod 10007)) st = .ok .non st1) :
    b__law_row_1 [o0, some (.loc l), o2, some (.int i), o4, o5, o6] st = .nx [o0, some (.loc l), o2, some (.int (i.fdiv 10007)), o4, o5, o6] st1 := by
  have f : fInt [.int i] st = .ok (.int i) st := rfl
  have n : ((10007 : Int) ≠ 0) = True := by decide
  unfold b__law_row_1
  simp -implicitDefEqProofs only [ap_fnF, ap_seq, ap_skip, ap_if, ap_ret, ap_asg, ap_asg2, ap_drop, ap_par, ap_par3, ap_unp, ap_for, ap_forL, ap_var, ap_c, ap_bin, ap_un, ap_nil, ap_cons, ap_call, ap_def, ap_tr, ap_not, ap_and, ap_or, ap_andv, ap_orv, ap_ife, ap_of, ap_mul, ap_div, ap_mod, ap_sub, ap_addi, ap_lt, ap_le, ap_gt, ap_ge, ap_eqi, ap_nei, ap_eqs, ap_neg, ap_truth, ap_bits, List.length, Nat.reduceSub, Nat.reduceAdd, Nat.reduceLeDiff, List.nil_append, List.cons_append, List.append_nil, List.set, List.getElem?_cons_zero, List.getElem?_cons_succ, List.getElem?_nil, setAll, fNot, eq_self, if_true, if_false, reduceIte, id_eq, decide_true, decide_false, Bool.false_eq_true, Bool.true_eq_false, Bool.not_true, Bool.not_false, Bool.true_or, Bool.false_or, Bool.or_true, Bool.or_false, Bool.true_and, Bool.false_and, Bool.and_true, Bool.and_false,ap_app, h, f, n, d, e]
theorem w_1b {l : Nat} {o0 o2 o4 o5 o6 : Option D} {i : Int} (h : decide (0 < i) = false) :
    b__law_row_1 [o0, some (.loc l), o2, some (.int i), o4, o5, o6] st = .nx [o0, some (.loc l), o2, some (.int i), o4, o5, o6] st := by
  unfold b__law_row_1
  simp -implicitDefEqProofs only [ap_fnF, ap_seq, ap_skip, ap_if, ap_ret, ap_asg, ap_asg2, ap_drop, ap_par, ap_par3, ap_unp, ap_for, ap_forL, ap_var, ap_c, ap_bin, ap_un, ap_nil, ap_cons, ap_call, ap_def, ap_tr, ap_not, ap_and, ap_or, ap_andv, ap_orv, ap_ife, ap_of, ap_mul, ap_div, ap_mod, ap_sub, ap_addi, ap_lt, ap_le, ap_gt, ap_ge, ap_eqi, ap_nei, ap_eqs, ap_neg, ap_truth, ap_bits, List.length, Nat.reduceSub, Nat.reduceAdd, Nat.reduceLeDiff, List.nil_append, List.cons_append, List.append_nil, List.set, List.getElem?_cons_zero, List.getElem?_cons_succ, List.getElem?_nil, setAll, fNot, eq_self, if_true, if_false, reduceIte, id_eq, decide_true, decide_false, Bool.false_eq_true, Bool.true_eq_false, Bool.not_true, Bool.not_false, Bool.true_or, Bool.false_or, Bool.or_true, Bool.or_false, Bool.true_and, Bool.false_and, Bool.and_true, Bool.and_false,h]
theorem w_in {l n : Nat} {o0 o2 o4 o5 o6 : Option D} {i : Int} (h : RowN st l n) (hn : n + 60 < 100000) : ∃ i' o4' st', sFor (iOf iRange1 (gCons (gC (.int 60)) gNil)) (tgV 4) b__law_row_1 [o0, some (.loc l), o2, some (.int i), o4, o5, o6] st = .nx [o0, some (.loc l), o2, some (.int i'), o4', o5, o6] st' ∧ RowN st' l (n + 60) := by
  obtain ⟨r2, st2, lp, i', o4', e, r'⟩ := loopV_count (t := tgV 4) (body := b__law_row_1) (n + 60) (fun k r s => ∃ i' o4', r = [o0, some (.loc l), o2, some (.int i'), o4', o5, o6] ∧ RowN s l k) (fun _ => True) (fun k d r s hk _ ⟨i', o4', e, hr⟩ => by
    subst e
    by_cases c : 0 < i'
    · obtain ⟨s', e, r'⟩ := hr.push (i := i'.fmod 10007) (by omega)
      exact ⟨[o0, some (.loc l), o2, some (.int i'), some d, o5, o6], _, s', rfl, w_1a (decide_eq_true c) (divc (by decide) (by decide)) e, _, _, rfl, r'⟩
    · exact ⟨[o0, some (.loc l), o2, some (.int i'), some d, o5, o6], _, s, rfl, w_1b (decide_eq_false c), _, _, rfl, hr.mono (by omega)⟩) (rangeD 0 60) n [o0, some (.loc l), o2, some (.int i), o4, o5, o6] st (by rw [rangeD_len]; omega) (fun _ _ => trivial) ⟨i, o4, rfl, h⟩
  subst e
  rw [rangeD_len] at r'
  refine ⟨i', o4', st2, ?_, r'⟩
  have g : iOf iRange1 (gCons (gC (.int 60)) gNil) [o0, some (.loc l), o2, some (.int i), o4, o5, o6] st = .ok (rangeD 0 60) st := range1_ok (n := 60) rfl (by decide)
  rw [ap_for, g]
  exact lp
theorem w_2 {l n : Nat} {o0 o3 o4 o5 o6 : Option D} {i : Int} (h : RowN st l n) (hn : n + 60 < 100000) : ∃ i' o4' st', b__law_row_2 [o0, some (.loc l), some (.int i), o3, o4, o5, o6] st = .nx [o0, some (.loc l), some (.int i), some (.int i'), o4', o5, o6] st' ∧ RowN st' l (n + 60) := by
  have fa := fabs (st := st) (i := i)
  have s1 : sAsg 3 (gCall fAbs (gCons (gVar 2) gNil)) [o0, some (.loc l), some (.int i), o3, o4, o5, o6] st = .nx [o0, some (.loc l), some (.int i), some (.int (absI i)), o4, o5, o6] st := by
    simp -implicitDefEqProofs only [ap_fnF, ap_seq, ap_skip, ap_if, ap_ret, ap_asg, ap_asg2, ap_drop, ap_par, ap_par3, ap_unp, ap_for, ap_forL, ap_var, ap_c, ap_bin, ap_un, ap_nil, ap_cons, ap_call, ap_def, ap_tr, ap_not, ap_and, ap_or, ap_andv, ap_orv, ap_ife, ap_of, ap_mul, ap_div, ap_mod, ap_sub, ap_addi, ap_lt, ap_le, ap_gt, ap_ge, ap_eqi, ap_nei, ap_eqs, ap_neg, ap_truth, ap_bits, List.length, Nat.reduceSub, Nat.reduceAdd, Nat.reduceLeDiff, List.nil_append, List.cons_append, List.append_nil, List.set, List.getElem?_cons_zero, List.getElem?_cons_succ, List.getElem?_nil, setAll, fNot, eq_self, if_true, if_false, reduceIte, id_eq, decide_true, decide_false, Bool.false_eq_true, Bool.true_eq_false, Bool.not_true, Bool.not_false, Bool.true_or, Bool.false_or, Bool.or_true, Bool.or_false, Bool.true_and, Bool.false_and, Bool.and_true, Bool.and_false,fa]
  cases c : decide (1000000000000000000 ≤ absI i) with
  | false =>
    refine ⟨absI i, o4, st, ?_, h.mono (by omega)⟩
    unfold b__law_row_2
    refine seq_nx s1 ?_
    simp -implicitDefEqProofs only [ap_fnF, ap_seq, ap_skip, ap_if, ap_ret, ap_asg, ap_asg2, ap_drop, ap_par, ap_par3, ap_unp, ap_for, ap_forL, ap_var, ap_c, ap_bin, ap_un, ap_nil, ap_cons, ap_call, ap_def, ap_tr, ap_not, ap_and, ap_or, ap_andv, ap_orv, ap_ife, ap_of, ap_mul, ap_div, ap_mod, ap_sub, ap_addi, ap_lt, ap_le, ap_gt, ap_ge, ap_eqi, ap_nei, ap_eqs, ap_neg, ap_truth, ap_bits, List.length, Nat.reduceSub, Nat.reduceAdd, Nat.reduceLeDiff, List.nil_append, List.cons_append, List.append_nil, List.set, List.getElem?_cons_zero, List.getElem?_cons_succ, List.getElem?_nil, setAll, fNot, eq_self, if_true, if_false, reduceIte, id_eq, decide_true, decide_false, Bool.false_eq_true, Bool.true_eq_false, Bool.not_true, Bool.not_false, Bool.true_or, Bool.false_or, Bool.or_true, Bool.or_false, Bool.true_and, Bool.false_and, Bool.and_true, Bool.and_false,c]
  | true =>
    obtain ⟨i', o4', st', e, r'⟩ := w_in (o0 := o0) (o2 := some (.int i)) (o4 := o4) (o5 := o5) (o6 := o6) (i := absI i) h hn
    refine ⟨i', o4', st', ?_, r'⟩
    unfold b__law_row_2
    refine seq_nx s1 ?_
    generalize sFor (iOf iRange1 (gCons (gC (.int 60)) gNil)) (tgV 4) b__law_row_1 = lp at e ⊢
    simp -implicitDefEqProofs only [ap_fnF, ap_seq, ap_skip, ap_if, ap_ret, ap_asg, ap_asg2, ap_drop, ap_par, ap_par3, ap_unp, ap_for, ap_forL, ap_var, ap_c, ap_bin, ap_un, ap_nil, ap_cons, ap_call, ap_def, ap_tr, ap_not, ap_and, ap_or, ap_andv, ap_orv, ap_ife, ap_of, ap_mul, ap_div, ap_mod, ap_sub, ap_addi, ap_lt, ap_le, ap_gt, ap_ge, ap_eqi, ap_nei, ap_eqs, ap_neg, ap_truth, ap_bits, List.length, Nat.reduceSub, Nat.reduceAdd, Nat.reduceLeDiff, List.nil_append, List.cons_append, List.append_nil, List.set, List.getElem?_cons_zero, List.getElem?_cons_succ, List.getElem?_nil, setAll, fNot, eq_self, if_true, if_false, reduceIte, id_eq, decide_true, decide_false, Bool.false_eq_true, Bool.true_eq_false, Bool.not_true, Bool.not_false, Bool.true_or, Bool.false_or, Bool.or_true, Bool.or_false, Bool.true_and, Bool.false_and, Bool.and_true, Bool.and_false,c, e]
theorem mulS {i j : Int} (h : j.natAbs < 2 ^ 60) : MulC i j := .inl (.inr h)
theorem w_3 {o0 o1 o3 o4 : Option D} {o c p : Int} : ∃ o' : Int, b__law_row_3 [o0, o1, some (.int c), o3, o4, some (.int o), some (.int p)] st = .nx [o0, o1, some (.int c), o3, o4, some (.int o'), some (.int p)] st ∧ 0 ≤ o' ∧ o' < 2147483629 := by
  have m1 : MulC o 51479 := mulS (by decide)
  have m2 : MulC c 30391 := mulS (by decide)
  have m3 : MulC p 7919 := mulS (by decide)
  have f : ∀ i : Int, fInt [.int i] st = .ok (.int i) st := fun _ => rfl
  have n : ((2147483629 : Int) ≠ 0) = True := by decide
  refine ⟨(o * 51479 + c * 30391 + p * 7919 + 11).fmod 2147483629, ?_, Int.fmod_nonneg_of_pos _ (by decide), Int.fmod_lt_of_pos _ (by decide)⟩
  unfold b__law_row_3
  simp -implicitDefEqProofs only [ap_fnF, ap_seq, ap_skip, ap_if, ap_ret, ap_asg, ap_asg2, ap_drop, ap_par, ap_par3, ap_unp, ap_for, ap_forL, ap_var, ap_c, ap_bin, ap_un, ap_nil, ap_cons, ap_call, ap_def, ap_tr, ap_not, ap_and, ap_or, ap_andv, ap_orv, ap_ife, ap_of, ap_mul, ap_div, ap_mod, ap_sub, ap_addi, ap_lt, ap_le, ap_gt, ap_ge, ap_eqi, ap_nei, ap_eqs, ap_neg, ap_truth, ap_bits, List.length, Nat.reduceSub, Nat.reduceAdd, Nat.reduceLeDiff, List.nil_append, List.cons_append, List.append_nil, List.set, List.getElem?_cons_zero, List.getElem?_cons_succ, List.getElem?_nil, setAll, fNot, eq_self, if_true, if_false, reduceIte, id_eq, decide_true, decide_false, Bool.false_eq_true, Bool.true_eq_false, Bool.not_true, Bool.not_false, Bool.true_or, Bool.false_or, Bool.or_true, Bool.or_false, Bool.true_and, Bool.false_and, Bool.and_true, Bool.and_false,m1, m2, m3, f, n]
theorem w_4 {l n : Nat} {o0 o2 o3 o4 : Option D} {o p : Int} (h : RowN st l n) (hn : n < 100000) (h0 : 0 ≤ o) (h1 : o < 2147483629) : ∃ (o' : Int) (st' : S), b__law_row_4 [o0, some (.loc l), o2, o3, o4, some (.int o), some (.int p)] st = .nx [o0, some (.loc l), o2, o3, o4, some (.int o'), some (.int p)] st' ∧ 0 ≤ o' ∧ o' < 2147483629 ∧ RowN st' l (n + 1) := by
  have m1 : MulC o o := mulS (by omega)
  have m2 : MulC o 40087 := mulS (by decide)
  have m3 : MulC p 1009 := mulS (by decide)
  have f : ∀ i : Int, fInt [.int i] st = .ok (.int i) st := fun _ => rfl
  have n' : ((2147483629 : Int) ≠ 0) = True := by decide
  have dv : ∀ i, DivC i 1024 := fun i => divc (by decide) (by decide)
  obtain ⟨st', e, r'⟩ := h.push (i := ((o * o + o * 40087 + p * 1009 + 5).fmod 2147483629).fdiv 1024) hn
  refine ⟨(o * o + o * 40087 + p * 1009 + 5).fmod 2147483629, st', ?_, Int.fmod_nonneg_of_pos _ (by decide), Int.fmod_lt_of_pos _ (by decide), r'⟩
  unfold b__law_row_4
  simp -implicitDefEqProofs only [ap_fnF, ap_seq, ap_skip, ap_if, ap_ret, ap_asg, ap_asg2, ap_drop, ap_par, ap_par3, ap_unp, ap_for, ap_forL, ap_var, ap_c, ap_bin, ap_un, ap_nil, ap_cons, ap_call, ap_def, ap_tr, ap_not, ap_and, ap_or, ap_andv, ap_orv, ap_ife, ap_of, ap_mul, ap_div, ap_mod, ap_sub, ap_addi, ap_lt, ap_le, ap_gt, ap_ge, ap_eqi, ap_nei, ap_eqs, ap_neg, ap_truth, ap_bits, List.length, Nat.reduceSub, Nat.reduceAdd, Nat.reduceLeDiff, List.nil_append, List.cons_append, List.append_nil, List.set, List.getElem?_cons_zero, List.getElem?_cons_succ, List.getElem?_nil, setAll, fNot, eq_self, if_true, if_false, reduceIte, id_eq, decide_true, decide_false, Bool.false_eq_true, Bool.true_eq_false, Bool.not_true, Bool.not_false, Bool.true_or, Bool.false_or, Bool.or_true, Bool.or_false, Bool.true_and, Bool.false_and, Bool.and_true, Bool.and_false,ap_app, m1, m2, m3, f, n', dv, e]
theorem p_law_row {ns : List Int} (hl : ns.length ≤ 63) : ∃ l st', F__law_row [.fz (ns.map D.int)] st = .ok (.loc l) st' ∧ Row st' l := by
  have lm : (ns.map D.int).length = ns.length := List.length_map ..
  generalize hF : D.fz (ns.map D.int) = Fz
  have start : RowN (st ++ [[]]) st.length 0 := ⟨[], by rw [List.getElem?_append_right (Nat.le_refl _), Nat.sub_self]; rfl, Nat.le_refl _⟩
  -- the great cells
  obtain ⟨r2, st2, lp2, o2, o3, o4, e2, h2⟩ := loopV_count (t := tgV 2) (body := b__law_row_2) 63 (fun k r s => ∃ o2 o3 o4, r = [some Fz, some (.loc st.length), o2, o3, o4, none, none] ∧ RowN s st.length (60 * k)) (fun d => ∃ i, d = .int i) (fun k d r s hk ⟨i, hd⟩ ⟨o2, o3, o4, e, hr⟩ => by
    subst e hd
    obtain ⟨i', o4', s', e, r'⟩ := w_2 (o0 := some Fz) (o3 := o3) (o4 := o4) (o5 := none) (o6 := none) (i := i) hr (by omega)
    exact ⟨[some Fz, some (.loc st.length), some (.int i), o3, o4, none, none], _, s', rfl, e, _, _, _, rfl, by rw [show 60 * (k + 1) = 60 * k + 60 by omega]; exact r'⟩)
    (ns.map D.int) 0 [some Fz, some (.loc st.length), none, none, none, none, none] (st ++ [[]]) (by rw [lm]; omega) (fun d hd => by
      obtain ⟨i, _, e⟩ := List.mem_map.mp hd
      exact ⟨i, e.symm⟩) ⟨_, _, _, rfl, start⟩
  subst e2
  rw [lm] at h2
  have s1 : sAsg 1 (gCall (nl true) gNil) [some Fz, none, none, none, none, none, none] st = .nx [some Fz, some (.loc st.length), none, none, none, none, none] (st ++ [[]]) := by
    have n := nl_loc (ys := []) (st := st) (by decide)
    simp -implicitDefEqProofs only [ap_fnF, ap_seq, ap_skip, ap_if, ap_ret, ap_asg, ap_asg2, ap_drop, ap_par, ap_par3, ap_unp, ap_for, ap_forL, ap_var, ap_c, ap_bin, ap_un, ap_nil, ap_cons, ap_call, ap_def, ap_tr, ap_not, ap_and, ap_or, ap_andv, ap_orv, ap_ife, ap_of, ap_mul, ap_div, ap_mod, ap_sub, ap_addi, ap_lt, ap_le, ap_gt, ap_ge, ap_eqi, ap_nei, ap_eqs, ap_neg, ap_truth, ap_bits, List.length, Nat.reduceSub, Nat.reduceAdd, Nat.reduceLeDiff, List.nil_append, List.cons_append, List.append_nil, List.set, List.getElem?_cons_zero, List.getElem?_cons_succ, List.getElem?_nil, setAll, fNot, eq_self, if_true, if_false, reduceIte, id_eq, decide_true, decide_false, Bool.false_eq_true, Bool.true_eq_false, Bool.not_true, Bool.not_false, Bool.true_or, Bool.false_or, Bool.or_true, Bool.or_false, Bool.true_and, Bool.false_and, Bool.and_true, Bool.and_false,n]
  have s2 : sFor (iSq (gVar 0)) (tgV 2) b__law_row_2 [some Fz, some (.loc st.length), none, none, none, none, none] (st ++ [[]]) = .nx [some Fz, some (.loc st.length), o2, o3, o4, none, none] st2 := by
    have g : iSq (gVar 0) [some Fz, some (.loc st.length), none, none, none, none, none] (st ++ [[]]) = .ok (ns.map D.int) (st ++ [[]]) := by
      subst hF
      rfl
    rw [ap_for, g]
    exact lp2
  -- the mixed numbers
  obtain ⟨r3, st3, s3, o2', o3', o4', o5', o6', e3, h3⟩ : ∃ r3 st3, (sIf (gTr (gVar 0)) (gSeq (sAsg 5 (gC (.int 77003)))
    (gSeq (sFor (iOf iEnumD (gCons (gVar 0) gNil)) (tgT [6, 2]) b__law_row_3)
    (sFor (iOf iRange1 (gCons (gC (.int 800)) gNil)) (tgV 6) b__law_row_4))) gSkip) [some Fz, some (.loc st.length), o2, o3, o4, none, none] st2 = .nx r3 st3 ∧ ∃ o2 o3 o4 o5 o6, r3 = [some Fz, some (.loc st.length), o2, o3, o4, o5, o6] ∧ RowN st3 st.length 10000 := by
    have tr : truth st2 Fz = some (!(ns.map D.int).isEmpty) := by
      subst hF
      rfl
    cases z : (ns.map D.int).isEmpty with
    | true =>
      rw [z] at tr
      refine ⟨_, st2, ?_, o2, o3, o4, none, none, rfl, h2.mono (by omega)⟩
      simp -implicitDefEqProofs only [ap_fnF, ap_seq, ap_skip, ap_if, ap_ret, ap_asg, ap_asg2, ap_drop, ap_par, ap_par3, ap_unp, ap_for, ap_forL, ap_var, ap_c, ap_bin, ap_un, ap_nil, ap_cons, ap_call, ap_def, ap_tr, ap_not, ap_and, ap_or, ap_andv, ap_orv, ap_ife, ap_of, ap_mul, ap_div, ap_mod, ap_sub, ap_addi, ap_lt, ap_le, ap_gt, ap_ge, ap_eqi, ap_nei, ap_eqs, ap_neg, ap_truth, ap_bits, List.length, Nat.reduceSub, Nat.reduceAdd, Nat.reduceLeDiff, List.nil_append, List.cons_append, List.append_nil, List.set, List.getElem?_cons_zero, List.getElem?_cons_succ, List.getElem?_nil, setAll, fNot, eq_self, if_true, if_false, reduceIte, id_eq, decide_true, decide_false, Bool.false_eq_true, Bool.true_eq_false, Bool.not_true, Bool.not_false, Bool.true_or, Bool.false_or, Bool.or_true, Bool.or_false, Bool.true_and, Bool.false_and, Bool.and_true, Bool.and_false,tr]
    | false =>
      rw [z] at tr
      obtain ⟨r4, st4, lp4, p2, p6, o, e4, h4, b0, b1⟩ := loopV_count (t := tgT [6, 2]) (body := b__law_row_3) 63 (fun k r s => ∃ p2 p6 o, r = [some Fz, some (.loc st.length), p2, o3, o4, some (.int o), p6] ∧ s = st2 ∧ 0 ≤ o ∧ o < 2147483629) (fun d => ∃ i j, d = .tup [.int i, .int j]) (fun k d r s hk ⟨i, j, hd⟩ ⟨p2, p6, o, e, hs, _, _⟩ => by
        subst e hd hs
        obtain ⟨o', e, b0, b1⟩ := w_3 (st := s) (o0 := some Fz) (o1 := some (.loc st.length)) (o3 := o3) (o4 := o4) (o := o) (c := j) (p := i)
        exact ⟨[some Fz, some (.loc st.length), some (.int j), o3, o4, some (.int o), some (.int i)], _, s, rfl, e, _, _, _, rfl, rfl, b0, b1⟩)
        (enumD (ns.map D.int)) 0 [some Fz, some (.loc st.length), o2, o3, o4, some (.int 77003), none] st2 (by
          unfold enumD
          rw [List.length_mapIdx, lm]
          omega) (fun d hd => by
          unfold enumD at hd
          obtain ⟨i, hi, e⟩ := List.mem_mapIdx.mp hd
          rw [List.getElem_map] at e
          exact ⟨_, _, e.symm⟩) ⟨_, _, _, rfl, rfl, by decide, by decide⟩
      subst e4 h4
      obtain ⟨r5, st5, lp5, p6', o', e5, h5, _, _⟩ := loopV_count (t := tgV 6) (body := b__law_row_4) (3780 + 800) (fun k r s => ∃ p6 o, r = [some Fz, some (.loc st.length), p2, o3, o4, some (.int o), p6] ∧ RowN s st.length k ∧ 0 ≤ o ∧ o < 2147483629) (fun d => ∃ i, d = .int i) (fun k d r s hk ⟨i, hd⟩ ⟨p6, o, e, hr, b0, b1⟩ => by
        subst e hd
        obtain ⟨o', s', e, b0, b1, r'⟩ := w_4 (o0 := some Fz) (o2 := p2) (o3 := o3) (o4 := o4) (o := o) (p := i) hr (by omega) b0 b1
        exact ⟨[some Fz, some (.loc st.length), p2, o3, o4, some (.int o), some (.int i)], _, s', rfl, e, _, _, rfl, r', b0, b1⟩)
        (rangeD 0 800) 3780 [some Fz, some (.loc st.length), p2, o3, o4, some (.int o), p6] st4 (by rw [rangeD_len]; omega) (fun d hd => by
          obtain ⟨k, _, e⟩ := range_int hd
          exact ⟨_, e⟩) ⟨_, _, rfl, h2.mono (by omega), b0, b1⟩
      subst e5
      rw [rangeD_len] at h5
      refine ⟨[some Fz, some (.loc st.length), p2, o3, o4, some (.int o'), p6'], st5, ?_, p2, o3, o4, some (.int o'), p6', rfl, h5.mono (by omega)⟩
      have g4 : iOf iEnumD (gCons (gVar 0) gNil) [some Fz, some (.loc st.length), o2, o3, o4, some (.int 77003), none] st4 = .ok (enumD (ns.map D.int)) st4 := by
        subst hF
        rfl
      have g5 : iOf iRange1 (gCons (gC (.int 800)) gNil) [some Fz, some (.loc st.length), p2, o3, o4, some (.int o), p6] st4 = .ok (rangeD 0 800) st4 := range1_ok (n := 800) rfl (by decide)
      have f4 : sFor (iOf iEnumD (gCons (gVar 0) gNil)) (tgT [6, 2]) b__law_row_3 [some Fz, some (.loc st.length), o2, o3, o4, some (.int 77003), none] st4 = .nx [some Fz, some (.loc st.length), p2, o3, o4, some (.int o), p6] st4 := by
        rw [ap_for, g4]
        exact lp4
      have f5 : sFor (iOf iRange1 (gCons (gC (.int 800)) gNil)) (tgV 6) b__law_row_4 [some Fz, some (.loc st.length), p2, o3, o4, some (.int o), p6] st4 = .nx [some Fz, some (.loc st.length), p2, o3, o4, some (.int o'), p6'] st5 := by
        rw [ap_for, g5]
        exact lp5
      generalize sFor (iOf iEnumD (gCons (gVar 0) gNil)) (tgT [6, 2]) b__law_row_3 = q4 at f4 ⊢
      generalize sFor (iOf iRange1 (gCons (gC (.int 800)) gNil)) (tgV 6) b__law_row_4 = q5 at f5 ⊢
      simp -implicitDefEqProofs only [ap_fnF, ap_seq, ap_skip, ap_if, ap_ret, ap_asg, ap_asg2, ap_drop, ap_par, ap_par3, ap_unp, ap_for, ap_forL, ap_var, ap_c, ap_bin, ap_un, ap_nil, ap_cons, ap_call, ap_def, ap_tr, ap_not, ap_and, ap_or, ap_andv, ap_orv, ap_ife, ap_of, ap_mul, ap_div, ap_mod, ap_sub, ap_addi, ap_lt, ap_le, ap_gt, ap_ge, ap_eqi, ap_nei, ap_eqs, ap_neg, ap_truth, ap_bits, List.length, Nat.reduceSub, Nat.reduceAdd, Nat.reduceLeDiff, List.nil_append, List.cons_append, List.append_nil, List.set, List.getElem?_cons_zero, List.getElem?_cons_succ, List.getElem?_nil, setAll, fNot, eq_self, if_true, if_false, reduceIte, id_eq, decide_true, decide_false, Bool.false_eq_true, Bool.true_eq_false, Bool.not_true, Bool.not_false, Bool.true_or, Bool.false_or, Bool.or_true, Bool.or_false, Bool.true_and, Bool.false_and, Bool.and_true, Bool.and_false,tr, f4, f5]
  subst e3
  obtain ⟨vs, ev, hv⟩ := h3
  have rv : fRevL true (.loc st.length) st3 = .ok (.loc st3.length) (st3 ++ [(vs.map D.int).reverse]) := by
    show (match st3[st.length]? with
      | some ds => nl true ds.reverse st3
      | none => .bad) = _
    rw [ev]
    exact nl_loc (by rw [List.length_reverse, List.length_map]; omega)
  refine ⟨st3.length, st3 ++ [(vs.map D.int).reverse], fn_rt (N := N__law_row) (g := g__law_row) (r := [some Fz, none, none, none, none, none, none]) rfl ?_, vs.reverse, ?_⟩
  · unfold g__law_row
    refine seq_nx s1 (seq_nx s2 (seq_nx s3 ?_))
    simp -implicitDefEqProofs only [ap_fnF, ap_seq, ap_skip, ap_if, ap_ret, ap_asg, ap_asg2, ap_drop, ap_par, ap_par3, ap_unp, ap_for, ap_forL, ap_var, ap_c, ap_bin, ap_un, ap_nil, ap_cons, ap_call, ap_def, ap_tr, ap_not, ap_and, ap_or, ap_andv, ap_orv, ap_ife, ap_of, ap_mul, ap_div, ap_mod, ap_sub, ap_addi, ap_lt, ap_le, ap_gt, ap_ge, ap_eqi, ap_nei, ap_eqs, ap_neg, ap_truth, ap_bits, List.length, Nat.reduceSub, Nat.reduceAdd, Nat.reduceLeDiff, List.nil_append, List.cons_append, List.append_nil, List.set, List.getElem?_cons_zero, List.getElem?_cons_succ, List.getElem?_nil, setAll, fNot, eq_self, if_true, if_false, reduceIte, id_eq, decide_true, decide_false, Bool.false_eq_true, Bool.true_eq_false, Bool.not_true, Bool.not_false, Bool.true_or, Bool.false_or, Bool.or_true, Bool.or_false, Bool.true_and, Bool.false_and, Bool.and_true, Bool.and_false,rv]
  · rw [List.getElem?_append_right (Nat.le_refl _), Nat.sub_self, List.map_reverse]
    rfl
theorem ev_law {A : D} {l : Nat} {st1 st2 st3 st4 st5 : S} (e1 : F__law_row [A] st = .ok (.loc l) st1) (e2 : F__law_quotients [.loc l] st1 = .ok (.bl true) st2) (e3 : F__law_spans [.loc l] st2 = .ok (.bl true) st3) (e4 : F__law_boxes [.loc l] st3 = .ok (.bl true) st4) (e5 : F__law_refused [.loc l] st4 = .ok (.bl true) st5) : F_law [A] st = .ok (.bl true) st5 := by
  refine fn_rt (N := N_law) (g := g_law) (r := [some A, none]) rfl ?_
  unfold g_law
  simp -implicitDefEqProofs only [ap_fnF, ap_seq, ap_skip, ap_if, ap_ret, ap_asg, ap_asg2, ap_drop, ap_par, ap_par3, ap_unp, ap_for, ap_forL, ap_var, ap_c, ap_bin, ap_un, ap_nil, ap_cons, ap_call, ap_def, ap_tr, ap_not, ap_and, ap_or, ap_andv, ap_orv, ap_ife, ap_of, ap_mul, ap_div, ap_mod, ap_sub, ap_addi, ap_lt, ap_le, ap_gt, ap_ge, ap_eqi, ap_nei, ap_eqs, ap_neg, ap_truth, ap_bits, List.length, Nat.reduceSub, Nat.reduceAdd, Nat.reduceLeDiff, List.nil_append, List.cons_append, List.append_nil, List.set, List.getElem?_cons_zero, List.getElem?_cons_succ, List.getElem?_nil, setAll, fNot, eq_self, if_true, if_false, reduceIte, id_eq, decide_true, decide_false, Bool.false_eq_true, Bool.true_eq_false, Bool.not_true, Bool.not_false, Bool.true_or, Bool.false_or, Bool.or_true, Bool.or_false, Bool.true_and, Bool.false_and, Bool.and_true, Bool.and_false,e1, e2, e3, e4, e5]
theorem law_true (ns : List Int) (hl : ns.length ≤ 63) (_ : ∀ z ∈ ns, Builtin.Int.intBits z ≤ 1048576) : ∃ st', F_law [.fz (ns.map D.int)] [] = .ok (.bl true) st' := by
  obtain ⟨l, st1, e1, r1⟩ := p_law_row (st := []) hl
  obtain ⟨st2, e2, r2⟩ := p_law_quotients r1
  obtain ⟨st3, e3, r3⟩ := p_law_spans r2
  obtain ⟨st4, e4, r4⟩ := p_law_boxes r3
  obtain ⟨st5, e5, r5⟩ := p_law_refused r4
  exact ⟨st5, ev_law e1 e2 e3 e4 e5⟩
end K00
end Sv
set_option Elab.async false
set_option linter.all false
set_option maxRecDepth 100000
set_option maxHeartbeats 0
namespace Sv
open PySem PySem.Spec PyProof.Rows L2
namespace K00
theorem txt {K : PySem.W.Frag} {h : Heap} {mg : Str → Option Value} {w : World} (X : K.In h) (G : h.Ns mainGlobals mg) (Y : He.SaysX fa fn [] tf ex w h K) : Txt K mg := by
  have c : He.SaysD fa fn K := Y.t.d
  have e : ∀ (i : Nat) (b : Bool), ([He.tupB K "NOUGHT" [.int 0, .int 1], xcB K "NotUsable", He.eqO (PySem.W.nsIn K mainGlobals "gcd") (some (some (.builtin "math.gcd")))] : List Bool)[i]? = some b → b = true := fun i b h => List.all_eq_true.mp (show ([He.tupB K "NOUGHT" [.int 0, .int 1], xcB K "NotUsable", He.eqO (PySem.W.nsIn K mainGlobals "gcd") (some (some (.builtin "math.gcd")))] : List Bool).all id = true from Y.more) b (List.mem_of_getElem? h)
  obtain ⟨fd1, F1⟩ := ini_of c (x := "NotUsable") (q := "NotUsable.__init__") (st := inClass (sd 4) 0) 67
  exact
    { b_abs := free_of X G c 67,
      b_all := free_of X G c 68,
      b_bool := free_of X G c 69,
      b_enumerate := free_of X G c 70,
      b_int := free_of X G c 71,
      b_isinstance := free_of X G c 72,
      b_len := free_of X G c 73,
      b_list := free_of X G c 74,
      b_max := free_of X G c 75,
      b_range := free_of X G c 76,
      b_str := free_of X G c 77,
      b_tuple := free_of X G c 78,
      b_zip := free_of X G c 79,
      c_NOUGHT := con2_of X G c (e 0 _ rfl) 80,
      e_NotUsable := ⟨_, _, fd1, xc_of X G c (e 1 _ rfl) 81 82 83, F1, F1.binds fun _ _ _ _ _ _ us hl => (match us, hl with | [_, _, _], _ => rfl), He.eqO_ok (c.fact 84 (f := .noat "NotUsable" "word") rfl), He.eqO_ok (c.fact 85 (f := .noat "NotUsable" "at") rfl)⟩,
      b_gcd := PySem.W.mg_of X G (He.eqO_ok (e 2 _ rfl)),
      d_is_integer := dfn_of X G c 0 0,
      d_is_number := dfn_of X G c 1 1,
      d_is_pair := dfn_of X G c 2 2,
      d_is_quotient := dfn_of X G c 3 3,
      d_is_span := dfn_of X G c 4 4,
      d_is_input := dfn_of X G c 5 5,
      d_is_point := dfn_of X G c 6 6,
      d_reduced := dfn_of X G c 7 7,
      d_added := dfn_of X G c 8 8,
      d_negated := dfn_of X G c 9 9,
      d_taken_off := dfn_of X G c 10 10,
      d_multiplied := dfn_of X G c 11 11,
      d_divided := dfn_of X G c 12 12,
      d_is_less := dfn_of X G c 13 13,
      d_span_over := dfn_of X G c 14 14,
      d_ask := dfn_of X G c 15 15,
      d_ask_quotient := dfn_of X G c 16 16,
      d_ask_input := dfn_of X G c 17 17,
      d_ask_point := dfn_of X G c 18 18,
      d_quotient_of := dfn_of X G c 19 19,
      d_plus := dfn_of X G c 20 20,
      d_minus := dfn_of X G c 21 21,
      d_times := dfn_of X G c 22 22,
      d_over := dfn_of X G c 23 23,
      d_less := dfn_of X G c 24 24,
      d_span_plus := dfn_of X G c 25 25,
      d_span_minus := dfn_of X G c 26 26,
      d_span_times := dfn_of X G c 27 27,
      d_scaled_span := dfn_of X G c 28 28,
      d_holds := dfn_of X G c 29 29,
      d_span_within := dfn_of X G c 30 30,
      d_spans_apart := dfn_of X G c 31 31,
      d_corners_of := dfn_of X G c 32 32,
      d_wide_sides := dfn_of X G c 33 33,
      d_in_box := dfn_of X G c 34 34,
      d_with_side := dfn_of X G c 35 35,
      d_side_put := dfn_of X G c 36 36,
      d_point_box := dfn_of X G c 37 37,
      d__law_row := dfn_of X G c 38 38,
      d__law_take := dfn_of X G c 39 39,
      d__law_common := dfn_of X G c 40 40,
      d__law_whole := dfn_of X G c 41 41,
      d__law_lowest := dfn_of X G c 42 42,
      d__law_quotient := dfn_of X G c 43 43,
      d__law_below := dfn_of X G c 44 44,
      d__law_span := dfn_of X G c 45 45,
      d__law_integer := dfn_of X G c 46 46,
      d__law_right_quotient := dfn_of X G c 47 47,
      d__law_right_span := dfn_of X G c 48 48,
      d__law_truth := dfn_of X G c 49 49,
      d__law_ask := dfn_of X G c 50 50,
      d__law_ask_span := dfn_of X G c 51 51,
      d__law_ask_side := dfn_of X G c 52 52,
      d__law_same := dfn_of X G c 53 53,
      d__law_is := dfn_of X G c 54 54,
      d__law_ends := dfn_of X G c 55 55,
      d__law_quotients := dfn_of X G c 56 56,
      d__law_near := dfn_of X G c 57 57,
      d__law_held := dfn_of X G c 58 58,
      d__law_pair_of_spans := dfn_of X G c 59 59,
      d__law_spans := dfn_of X G c 60 60,
      d__law_corners := dfn_of X G c 61 61,
      d__law_boxes := dfn_of X G c 62 62,
      d__law_bad_boxes := dfn_of X G c 63 63,
      d__law_bad_spans := dfn_of X G c 64 64,
      d__law_refused := dfn_of X G c 65 65,
      d_law := dfn_of X G c 66 66 }
theorem txtB {K : PySem.W.Frag} {h base : Heap} {mg : Str → Option Value} {w : World} (X : K.In base) (G : base.Ns mainGlobals mg) (Y : He.SaysX fa fn [] tf ex w h K) (T : Txt K mg) (tb : ∀ p ∈ tabNames.map fun x => He.cT K (x, none), LamX.TabB base mg p.1 p.2) : TxtB K mg base :=
  { toTxt := T, more := trivial,
    t_wide_sides := tbx_of (st := sd 45) X G Y.t.d (by decide) (Y.hd ("wide_sides", none) (List.mem_map.mpr ⟨"wide_sides", by decide, rfl⟩)) (tb _ (List.mem_map.mpr ⟨"wide_sides", by decide, rfl⟩)) 33 33,
    t_point_box := tbx_of (st := sd 49) X G Y.t.d (by decide) (Y.hd ("point_box", none) (List.mem_map.mpr ⟨"point_box", by decide, rfl⟩)) (tb _ (List.mem_map.mpr ⟨"point_box", by decide, rfl⟩)) 37 37 }
end K00
end Sv
open PySem PySem.W PySem.Calls PyProof.Rows
theorem PySem.Challenge.cw_sevenruns_k00_values_holds : PySem.Challenge.rw_sevenruns_k00_values.Holds := by
  w_on; o_law
  refine HandSHeadRun.head_imp (r := OpenLaw.row PySem.Challenge.rw_sevenruns_k00_values) (q := Sv.K00.qvw) (H := Sv.K00.hk) (ob := Sv.K00.ob) (M := 6000) (loose := Sv.K00.lo) (d := HandSHeadRun.topDef (OpenLaw.row PySem.Challenge.rw_sevenruns_k00_values).prog 79) (kwd := []) Sv.K00.ob_eq
    Sv.K00.run (by kernel_rfl) (by kernel_rfl) (by kernel_rfl) (by rfl) (by first | assumption | decide +kernel) (by decide +kernel) ⟨rfl, rfl, rfl, rfl, rfl, by decide +kernel⟩ ?hw ?hc
  case hw => w_witness2
  case hc =>
    refine LamX.walk_ofTsE (l := PySem.Challenge.rw_sevenruns_k00_values) (n := 63) (k := 12) (x := "_law_script") (CX := fun w => L2.CX PySem.Challenge.rw_sevenruns_k00_values.prog w) rfl (by decide) (by kernel_rfl) ⟨rfl, by decide, by decide⟩ ?F (fun w H s e s' z => by
      obtain ⟨_, _, _, _, _, _, _, _, _, _, _, _, z⟩ := z
      exact z.elim)
    intro w mg fa h Y G hmg0
    obtain ⟨K, KX, c⟩ := Y
    have hmg : mg ("law" : PySem.Str) = some (.ref fa) := by
      have e : (HandSHeadRun.topDef (OpenLaw.row PySem.Challenge.rw_sevenruns_k00_values).prog 79).name = ("law" : PySem.Str) := by kernel_rfl
      rw [← e]
      exact hmg0
    have T := Sv.K00.txt KX G c
    exact ⟨K, KX, Sv.law_at (st := Sv.K00.sd 79) hmg (fun p hp => by
      obtain ⟨x, hx, e⟩ := List.mem_map.mp hp
      rw [← e]
      exact c.empty (x, none) (List.mem_map.mpr ⟨x, hx, rfl⟩)) (fun p hp => by
      obtain ⟨x, hx, e⟩ := List.mem_map.mp hp
      rw [← e]
      exact c.out (x, none) (List.mem_map.mpr ⟨x, hx, rfl⟩)) (fun p hp => by
      obtain ⟨x, hx, e⟩ := List.mem_map.mp hp
      rw [← e]
      exact PySem.W.codeHd_of_K KX (c.hd (x, none) (List.mem_map.mpr ⟨x, hx, rfl⟩))) Sv.K00.law_true T.d_law (fun _ _ _ _ _ _ us hl => match us, hl with | [_], _ => rfl)
      fun base X2 G2 hTB => Sv.K00.ok_law (Sv.K00.txtB X2 G2 c T hTB)⟩
