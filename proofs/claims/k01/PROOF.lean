import PyProof.Rows.All
import Wide.All
import OpenK.AllK
import Wide.FinOn
import HandS.Base
import HandS.Call
import HandS.List
import HandS.Comp
import HandS.Dict
import HandS.Iter
import HandS.Text
import HandS.TupAny
import HandS.StrMore
import HandS.FStr
import HandS.DictComp
import HandS.Words
import HandS.Zip
import HandS.Strs
import HandS.IsInst
import HandS.ClsMeth
import HandS.OwnEq
import HandS.Ends
import PySem.Challenge.RW_onlyviews_k01_schemas_and_rows
import KE.OsGo
import Open.SpecLaws
import HandS.ForSpec
import KE.KCallOwn
import PyProof.InstNe
import HandS.CallLocal
import KE.GoesZip
import KE.GoesMore
import PyProof.StrBlock2
import PyProof.ReprRoads
import PyProof.StrLawsRepr
import PyProof.CallFns
import HandS.Style
set_option Elab.async false
set_option linter.all false
set_option maxRecDepth 100000
set_option maxHeartbeats 4000000
/-! DV1: plain data over the abstract heap. D: what a value reads as; B: the part of the heap that holds data; P, cs: the lists that may change, and what they hold; Ev: an expression's value by the slots' data alone. -/
namespace DV
open PySem L2

/-- plain data -/
inductive D where
  | non | bl (b : Bool) | int (i : Int) | str (x : Str)
  | lst (ds : List D) | tup (ds : List D)
  | dic (ks : List (Key × D))
  | obj (C : Addr) (fs : List (Str × D))
  | fro (ds : List D)
  | nt (ds : List D)
variable {K : PySem.W.Frag}

def Ex (H H' : Hp) : Prop := ∀ a o, H a = some o → H' a = some o
theorem RdEx {H H' : Hp} {a : Addr} {u : HO} (e : Ex H H') (h : Rd H a u) : Rd H' a u := h.elim (fun h => .inl (e _ _ h)) fun ⟨o, h⟩ => .inr ⟨o, e _ _ h⟩
theorem Ex.refl (H : Hp) : Ex H H := fun _ _ h => h
theorem Ex.trans {H H1 H2 : Hp} (a : Ex H H1) (b : Ex H1 H2) : Ex H H2 := fun x o h => b x o (a x o h)
theorem Ex.new {H : Hp} {p : Addr} {o : HO} (h : H p = none) : Ex H (upd H p o) := fun a u e => by
  rw [upd_ne (ne_of_none e h)]
  exact e
theorem Ex.free {H H' : Hp} (e : Ex H H') {p : Addr} (h : H' p = none) : H p = none := by
  cases h1 : H p with
  | none => rfl
  | some o => rw [e p o h1] at h; cases h
theorem Ex.updB {H H' : Hp} {p : Addr} {o : HO} (e : Ex H H') : Ex (upd H p o) (upd H' p o) := fun a u h => by
  by_cases hp : a = p
  · subst hp; rw [upd_same] at h ⊢; exact h
  · rw [upd_ne hp] at h ⊢; exact e a u h

mutual
inductive Rp (K : PySem.W.Frag) (B : Hp) : V → D → Prop
  | non : Rp K B .non .non
  | bl (b : Bool) : Rp K B (.bl b) (.bl b)
  | int (i : Int) : Rp K B (.int i) (.int i)
  | str (x : Str) : Rp K B (.str x) (.str x)
  | lst {a : Addr} {xs : List V} {ds : List D} : B a = some (.lst xs) → RpA K B xs ds → Rp K B (.ref a) (.lst ds)
  | tup {a : Addr} {xs : List V} {ds : List D} : Rd B a (.tup xs) → RpA K B xs ds → Rp K B (.ref a) (.tup ds)
  | dic {a : Addr} {kvs : List (Key × V)} {ks : List (Key × D)} : B a = some (.dK kvs) → RpK K B kvs ks → Rp K B (.ref a) (.dic ks)
  | nt {a : Addr} {o : Obj} {xs : List V} {ds : List D} : B a = some (.frz o (.tup xs)) → o.dict = none → RpA K B xs ds → Rp K B (.ref a) (.nt ds)
  | fro {a : Addr} {xs : List V} {ds : List D} : SqL K B a xs → RpA K B xs ds → Rp K B (.ref a) (.fro ds)
  | obj {a C dx : Addr} {fvs : List (Str × V)} {fs : List (Str × D)} : B a = some (.ins C dx fvs) → RpF K B fvs fs → Rp K B (.ref a) (.obj C fs)
inductive RpA (K : PySem.W.Frag) (B : Hp) : List V → List D → Prop
  | nil : RpA K B [] []
  | cons {v : V} {d : D} {vs : List V} {ds : List D} : Rp K B v d → RpA K B vs ds → RpA K B (v :: vs) (d :: ds)
inductive RpK (K : PySem.W.Frag) (B : Hp) : List (Key × V) → List (Key × D) → Prop
  | nil : RpK K B [] []
  | cons {k : Key} {v : V} {d : D} {vs : List (Key × V)} {ds : List (Key × D)} : Rp K B v d → RpK K B vs ds → RpK K B ((k, v) :: vs) ((k, d) :: ds)
inductive RpF (K : PySem.W.Frag) (B : Hp) : List (Str × V) → List (Str × D) → Prop
  | nil : RpF K B [] []
  | cons {k : Str} {v : V} {d : D} {vs : List (Str × V)} {ds : List (Str × D)} : Rp K B v d → RpF K B vs ds → RpF K B ((k, v) :: vs) ((k, d) :: ds)
end

mutual
theorem Rp.mono {B B' : Hp} (e : Ex B B') : ∀ {v : V} {d : D}, Rp K B v d → Rp K B' v d
  | _, _, .non => .non
  | _, _, .bl b => .bl b
  | _, _, .int i => .int i
  | _, _, .str x => .str x
  | _, _, .lst h r => .lst (e _ _ h) (RpA.mono e r)
  | _, _, .tup h r => .tup (RdEx e h) (RpA.mono e r)
  | _, _, .nt h n r => .nt (e _ _ h) n (RpA.mono e r)
  | _, _, .dic h r => .dic (e _ _ h) (RpK.mono e r)
  | _, _, .obj h r => .obj (e _ _ h) (RpF.mono e r)
  | _, _, .fro h r => .fro (h.elim (fun h => .inl (h.elim (fun h => .inl (e _ _ h)) fun ⟨o, h⟩ => .inr ⟨o, e _ _ h⟩)) .inr) (RpA.mono e r)
theorem RpA.mono {B B' : Hp} (e : Ex B B') : ∀ {vs : List V} {ds : List D}, RpA K B vs ds → RpA K B' vs ds
  | _, _, .nil => .nil
  | _, _, .cons h r => .cons (Rp.mono e h) (RpA.mono e r)
theorem RpK.mono {B B' : Hp} (e : Ex B B') : ∀ {vs : List (Key × V)} {ds : List (Key × D)}, RpK K B vs ds → RpK K B' vs ds
  | _, _, .nil => .nil
  | _, _, .cons h r => .cons (Rp.mono e h) (RpK.mono e r)
theorem RpF.mono {B B' : Hp} (e : Ex B B') : ∀ {vs : List (Str × V)} {ds : List (Str × D)}, RpF K B vs ds → RpF K B' vs ds
  | _, _, .nil => .nil
  | _, _, .cons h r => .cons (Rp.mono e h) (RpF.mono e r)
end

theorem RpA.length {B : Hp} : ∀ {vs : List V} {ds : List D}, RpA K B vs ds → vs.length = ds.length
  | _, _, .nil => rfl
  | _, _, .cons _ r => by rw [List.length_cons, List.length_cons, RpA.length r]
theorem RpA.get {B : Hp} : ∀ {vs : List V} {ds : List D} {i : Nat} {d : D}, RpA K B vs ds → ds[i]? = some d → ∃ v, vs[i]? = some v ∧ Rp K B v d
  | _, _, _, _, .nil, e => by simp at e
  | _, _, 0, _, .cons h _, e => by simp at e; subst e; exact ⟨_, rfl, h⟩
  | _, _, i + 1, d, .cons _ r, e => by
    obtain ⟨v, h1, h2⟩ := RpA.get (i := i) (d := d) r (by simpa using e)
    exact ⟨v, by simpa using h1, h2⟩
theorem RpA.getV {B : Hp} : ∀ {vs : List V} {ds : List D} {i : Nat} {v : V}, RpA K B vs ds → vs[i]? = some v → ∃ d, ds[i]? = some d ∧ Rp K B v d
  | _, _, _, _, .nil, e => by simp at e
  | _, _, 0, _, .cons h _, e => by simp at e; subst e; exact ⟨_, rfl, h⟩
  | _, _, i + 1, d, .cons _ r, e => by
    obtain ⟨v, h1, h2⟩ := RpA.getV (i := i) (v := d) r (by simpa using e)
    exact ⟨v, by simpa using h1, h2⟩
theorem RpA.append {B : Hp} : ∀ {vs ws : List V} {ds es : List D}, RpA K B vs ds → RpA K B ws es → RpA K B (vs ++ ws) (ds ++ es)
  | _, _, _, _, .nil, s => s
  | _, _, _, _, .cons h r, s => .cons h (RpA.append r s)
theorem RpA.take {B : Hp} : ∀ {vs : List V} {ds : List D} (n : Nat), RpA K B vs ds → RpA K B (vs.take n) (ds.take n)
  | _, _, 0, _ => .nil
  | _, _, _ + 1, .nil => .nil
  | _, _, n + 1, .cons h r => .cons h (RpA.take n r)
theorem RpA.drop {B : Hp} : ∀ {vs : List V} {ds : List D} (n : Nat), RpA K B vs ds → RpA K B (vs.drop n) (ds.drop n)
  | _, _, 0, r => r
  | _, _, _ + 1, .nil => .nil
  | _, _, n + 1, .cons _ r => RpA.drop n r
theorem RpA.set {B : Hp} {v : V} {d : D} (h : Rp K B v d) : ∀ {vs : List V} {ds : List D} (i : Nat), RpA K B vs ds → RpA K B (vs.set i v) (ds.set i d)
  | _, _, _, .nil => .nil
  | _, _, 0, .cons _ r => .cons h r
  | _, _, i + 1, .cons q r => .cons q (RpA.set h i r)
theorem RpF.lookup {B : Hp} {f : Str} : ∀ {vs : List (Str × V)} {ds : List (Str × D)} {d : D}, RpF K B vs ds → ds.lookup f = some d → ∃ v, vs.lookup f = some v ∧ Rp K B v d
  | _, _, _, .nil, e => by simp at e
  | _, _, d, .cons (k := k) h r, e => by
    by_cases hk : f = k
    · subst hk
      simp [List.lookup] at e
      subst e
      exact ⟨_, by simp [List.lookup], h⟩
    · have q : (f == k) = false := by simpa using hk
      simp only [List.lookup, q] at e ⊢
      exact RpF.lookup r e
theorem RpK.length {B : Hp} : ∀ {vs : List (Key × V)} {ds : List (Key × D)}, RpK K B vs ds → vs.length = ds.length
  | _, _, .nil => rfl
  | _, _, .cons _ r => by rw [List.length_cons, List.length_cons, RpK.length r]

/-- flat data: no object -/
def D.flat : D → Bool
  | .non => true | .bl _ => true | .int _ => true | .str _ => true | _ => false
theorem Rp.flatAny {B B' : Hp} {v : V} {d : D} (h : Rp K B v d) (f : d.flat = true) : Rp K B' v d := by
  cases h with
  | non => exact .non
  | bl b => exact .bl b
  | int i => exact .int i
  | str x => exact .str x
  | lst _ _ => cases f
  | tup _ _ => cases f
  | dic _ _ => cases f
  | obj _ _ => cases f
  | fro _ _ => cases f
  | nt _ _ _ => cases f

/-- what is known of a slot -/
inductive Sl where
  | any | dat (d : D) | val (v : V)
def RS (K : PySem.W.Frag) (B : Hp) (v : V) : Sl → Prop
  | .any => True
  | .dat d => Rp K B v d
  | .val w => v = w
theorem RS.mono {B B' : Hp} (e : Ex B B') {v : V} : ∀ {r : Sl}, RS K B v r → RS K B' v r
  | .any, _ => True.intro
  | .dat _, h => Rp.mono e h
  | .val _, h => h
def RSs (K : PySem.W.Frag) (B : Hp) : List V → List Sl → Prop
  | [], [] => True
  | v :: vs, r :: rs => RS K B v r ∧ RSs K B vs rs
  | _, _ => False
theorem RSs.mono {B B' : Hp} (e : Ex B B') : ∀ {vs : List V} {rs : List Sl}, RSs K B vs rs → RSs K B' vs rs
  | [], [], _ => True.intro
  | [], _ :: _, h => h
  | _ :: _, [], h => h
  | _ :: _, _ :: _, h => ⟨RS.mono e h.1, RSs.mono e h.2⟩
theorem RSs.length {B : Hp} : ∀ {vs : List V} {rs : List Sl}, RSs K B vs rs → vs.length = rs.length
  | [], [], _ => rfl
  | [], _ :: _, h => h.elim
  | _ :: _, [], h => h.elim
  | _ :: _, _ :: _, h => by rw [List.length_cons, List.length_cons, RSs.length h.2]

structure Slots (K : PySem.W.Frag) (B : Hp) (σ : L2.St) (ss : List Sl) : Prop where
  len : σ.length = ss.length
  get : ∀ (i : Nat) (r : Sl), ss[i]? = some r → r ≠ .any → ∃ v, σ[i]? = some (some v) ∧ RS K B v r
theorem Slots.mono {B B' : Hp} (e : Ex B B') {σ : L2.St} {ss : List Sl} (h : Slots K B σ ss) : Slots K B' σ ss :=
  ⟨h.len, fun i r a b => let ⟨v, h1, h2⟩ := h.get i r a b; ⟨v, h1, h2.mono e⟩⟩
theorem Slots.set {B : Hp} {σ : L2.St} {ss : List Sl} (h : Slots K B σ ss) {i : Nat} {v : V} {r : Sl} (hr : RS K B v r) : Slots K B (σ.set i (some v)) (ss.set i r) := by
  refine ⟨by rw [List.length_set, List.length_set, h.len], fun j q hq hn => ?_⟩
  rw [List.getElem?_set] at hq
  by_cases hj : i = j
  · subst hj
    rw [if_pos rfl] at hq
    by_cases hl : i < ss.length
    · rw [if_pos hl] at hq
      have e := Option.some.inj hq
      subst e
      refine ⟨v, ?_, hr⟩
      rw [List.getElem?_set, if_pos rfl, if_pos (by rw [h.len]; exact hl)]
    · rw [if_neg hl] at hq; cases hq
  · rw [if_neg hj] at hq
    obtain ⟨w, h1, h2⟩ := h.get j q hq hn
    exact ⟨w, by rw [List.getElem?_set, if_neg hj]; exact h1, h2⟩
/-- a slot is emptied -/
theorem Slots.clr {B : Hp} {σ : L2.St} {ss : List Sl} (h : Slots K B σ ss) (i : Nat) (o : Option V) : Slots K B (σ.set i o) (ss.set i .any) := by
  refine ⟨by rw [List.length_set, List.length_set, h.len], fun j q hq hn => ?_⟩
  rw [List.getElem?_set] at hq
  by_cases hj : i = j
  · subst hj
    rw [if_pos rfl] at hq
    by_cases hl : i < ss.length
    · rw [if_pos hl] at hq
      exact absurd (Option.some.inj hq).symm hn
    · rw [if_neg hl] at hq; cases hq
  · rw [if_neg hj] at hq
    obtain ⟨w, h1, h2⟩ := h.get j q hq hn
    exact ⟨w, by rw [List.getElem?_set, if_neg hj]; exact h1, h2⟩
/-- less is known -/
inductive Le : Sl → Sl → Prop
  | rfl (r : Sl) : Le r r
  | any (r : Sl) : Le r .any
def LeS : List Sl → List Sl → Prop
  | [], [] => True
  | r :: rs, q :: qs => Le r q ∧ LeS rs qs
  | _, _ => False
theorem LeS.get : ∀ {rs qs : List Sl} {i : Nat} {q : Sl}, LeS rs qs → qs[i]? = some q → ∃ r, rs[i]? = some r ∧ Le r q
  | [], [], i, q, _, h => by simp at h
  | [], _ :: _, _, _, h, _ => h.elim
  | _ :: _, [], _, _, h, _ => h.elim
  | r :: rs, q' :: qs, 0, q, h, e => by simp at e; subst e; exact ⟨r, rfl, h.1⟩
  | r :: rs, q' :: qs, i + 1, q, h, e => by
    obtain ⟨w, h1, h2⟩ := LeS.get (i := i) h.2 (by simpa using e)
    exact ⟨w, by simpa using h1, h2⟩
theorem LeS.length : ∀ {rs qs : List Sl}, LeS rs qs → rs.length = qs.length
  | [], [], _ => rfl
  | [], _ :: _, h => h.elim
  | _ :: _, [], h => h.elim
  | _ :: _, _ :: _, h => by rw [List.length_cons, List.length_cons, LeS.length h.2]
theorem Slots.le {B : Hp} {σ : L2.St} {ss tt : List Sl} (h : Slots K B σ ss) (l : LeS ss tt) : Slots K B σ tt := by
  refine ⟨h.len.trans l.length, fun i r a hn => ?_⟩
  obtain ⟨q, h1, h2⟩ := l.get a
  cases h2 with
  | rfl => exact h.get i r h1 hn
  | any => exact absurd rfl hn
theorem LeS.refl : ∀ (ss : List Sl), LeS ss ss
  | [] => True.intro
  | r :: rs => ⟨.rfl r, LeS.refl rs⟩

/-- the lists that may change -/
def Mu (K : PySem.W.Frag) (B H : Hp) : List Addr → List (List D) → Prop
  | [], [] => True
  | p :: P, ds :: cs => (∃ vs, H p = some (.lst vs) ∧ RpA K B vs ds) ∧ B p = none ∧ p ∉ P ∧ Mu K B H P cs
  | _, _ => False
theorem Mu.get {B H : Hp} : ∀ {P : List Addr} {cs : List (List D)} {j : Nat} {p : Addr} {ds : List D}, Mu K B H P cs → P[j]? = some p → cs[j]? = some ds → (∃ vs, H p = some (.lst vs) ∧ RpA K B vs ds) ∧ B p = none
  | [], [], _, _, _, _, h, _ => by simp at h
  | [], _ :: _, _, _, _, h, _, _ => h.elim
  | _ :: _, [], _, _, _, h, _, _ => h.elim
  | p :: P, ds :: cs, 0, q, es, h, h1, h2 => by
    simp at h1 h2; subst h1; subst h2
    exact ⟨h.1, h.2.1⟩
  | p :: P, ds :: cs, j + 1, q, es, h, h1, h2 => Mu.get (j := j) h.2.2.2 (by simpa using h1) (by simpa using h2)
theorem Mu.mem {B H : Hp} : ∀ {P : List Addr} {cs : List (List D)} {p : Addr}, Mu K B H P cs → p ∈ P → ∃ o, H p = some o ∧ B p = none
  | [], _, _, _, h => by simp at h
  | _ :: _, [], _, h, _ => h.elim
  | p :: P, ds :: cs, q, h, hm => by
    rcases List.mem_cons.mp hm with e | e
    · subst e
      obtain ⟨⟨vs, a, _⟩, b, _⟩ := h
      exact ⟨_, a, b⟩
    · exact Mu.mem h.2.2.2 e
/-- carried on: the base grows, the lists stand -/
theorem Mu.keep {B B' H H' : Hp} (e : Ex B B') : ∀ {P : List Addr} {cs : List (List D)}, Mu K B H P cs → (∀ p ∈ P, H' p = H p) → (∀ p ∈ P, B' p = none) → Mu K B' H' P cs
  | [], [], _, _, _ => True.intro
  | [], _ :: _, h, _, _ => h.elim
  | _ :: _, [], h, _, _ => h.elim
  | p :: P, ds :: cs, h, k, n => by
    obtain ⟨⟨vs, a, b⟩, c, d, m⟩ := h
    exact ⟨⟨vs, by rw [k p List.mem_cons_self]; exact a, b.mono e⟩, n p List.mem_cons_self, d, m.keep e (fun q hq => k q (List.mem_cons_of_mem _ hq)) fun q hq => n q (List.mem_cons_of_mem _ hq)⟩
/-- one of the lists is written -/
theorem Mu.put {B B' H H' : Hp} (e : Ex B B') {q : Addr} {ws : List V} {es : List D} (hw : H' q = some (.lst ws)) (hr : RpA K B' ws es) :
    ∀ {P : List Addr} {cs : List (List D)} {j : Nat}, Mu K B H P cs → P[j]? = some q → (∀ p ∈ P, p ≠ q → H' p = H p) → (∀ p ∈ P, B' p = none) → Mu K B' H' P (cs.set j es)
  | [], [], _, _, h, _, _ => by simp at h
  | [], _ :: _, _, h, _, _, _ => h.elim
  | _ :: _, [], _, h, _, _, _ => h.elim
  | p :: P, ds :: cs, 0, h, h1, k, n => by
    simp at h1; subst h1
    obtain ⟨_, c, d, m⟩ := h
    exact ⟨⟨ws, hw, hr⟩, n p List.mem_cons_self, d, m.keep e (fun x hx => k x (List.mem_cons_of_mem _ hx) fun z => d (z ▸ hx)) fun x hx => n x (List.mem_cons_of_mem _ hx)⟩
  | p :: P, ds :: cs, j + 1, h, h1, k, n => by
    obtain ⟨⟨vs, a, b⟩, c, d, m⟩ := h
    have hq : q ∈ P := List.mem_of_getElem? (i := j) (by simpa using h1)
    have hne : p ≠ q := fun z => d (z ▸ hq)
    exact ⟨⟨vs, by rw [k p List.mem_cons_self hne]; exact a, b.mono e⟩, n p List.mem_cons_self, d, Mu.put e hw hr (j := j) m (by simpa using h1) (fun x hx => k x (List.mem_cons_of_mem _ hx)) fun x hx => n x (List.mem_cons_of_mem _ hx)⟩

/-- a step: the base grows by new cells; what stood stands, but for the lists of P -/
structure Stp (P : List Addr) (B H B' H' : Hp) : Prop where
  ex : Ex B B'
  fr : ∀ b o, b ∉ P → H b = some o → H' b = some o
  nb : ∀ b o, H b = some o → B' b = B b
  dm : ∀ b o, H b = some o → ∃ o', H' b = some o'
theorem Stp.refl (P : List Addr) (B H : Hp) : Stp P B H B H := ⟨Ex.refl _, fun _ _ _ h => h, fun _ _ _ => rfl, fun _ o h => ⟨o, h⟩⟩
theorem Stp.trans {P : List Addr} {B H B1 H1 B2 H2 : Hp} (a : Stp P B H B1 H1) (b : Stp P B1 H1 B2 H2) : Stp P B H B2 H2 where
  ex := a.ex.trans b.ex
  fr := fun c o n h => b.fr c o n (a.fr c o n h)
  nb := fun c o h => by
    obtain ⟨o', h'⟩ := a.dm c o h
    rw [b.nb c o' h', a.nb c o h]
  dm := fun c o h => let ⟨o', h'⟩ := a.dm c o h; b.dm c o' h'
theorem Stp.mono {P P' : List Addr} {B H B' H' : Hp} (s : Stp P B H B' H') (h : ∀ p ∈ P, p ∈ P') : Stp P' B H B' H' := ⟨s.ex, fun b o n e => s.fr b o (fun z => n (h b z)) e, s.nb, s.dm⟩
theorem Stp.toEx {B H B' H' : Hp} (s : Stp [] B H B' H') : Ex H H' := fun a o e => s.fr a o (by simp) e
theorem Stp.ofNil {P : List Addr} {B H B' H' : Hp} (s : Stp [] B H B' H') : Stp P B H B' H' := s.mono fun _ h => absurd h (by simp)

structure Okk (K : PySem.W.Frag) (P : List Addr) (ss : List Sl) (cs : List (List D)) (B H : Hp) (σ : L2.St) : Prop where
  ex : Ex B H
  sl : Slots K B σ ss
  mu : Mu K B H P cs
theorem Okk.step0 {P : List Addr} {ss : List Sl} {cs : List (List D)} {B H B' H' : Hp} {σ : L2.St} (o : Okk K P ss cs B H σ) (s : Stp [] B H B' H') (e : Ex B' H') : Okk K P ss cs B' H' σ :=
  ⟨e, o.sl.mono s.ex, o.mu.keep s.ex (fun p hp => by
    obtain ⟨u, h1, _⟩ := o.mu.mem hp
    rw [h1, s.toEx p u h1]) fun p hp => by
    obtain ⟨u, h1, h2⟩ := o.mu.mem hp
    rw [s.nb p u h1, h2]⟩

/-- an expression: from the slots' data and the lists' to a value's data, and the lists' -/
def Ev (K : PySem.W.Frag) (P : List Addr) (ss : List Sl) (cs : List (List D)) (te : TE) (r : Sl) (cs' : List (List D)) : Prop :=
  ∀ B H σ, Okk K P ss cs B H σ → ∀ Q : VK, (∀ v B' H', Stp P B H B' H' → Okk K P ss cs' B' H' σ → RS K B' v r → Q v H') → te σ H Q
def EvT (K : PySem.W.Frag) (P : List Addr) (ss : List Sl) (cs : List (List D)) (tt : TT) (b : Bool) (cs' : List (List D)) : Prop :=
  ∀ B H σ, Okk K P ss cs B H σ → ∀ Q : Bool → Hp → Prop, (∀ B' H', Stp P B H B' H' → Okk K P ss cs' B' H' σ → Q b H') → tt σ H Q
def EvA (K : PySem.W.Frag) (P : List Addr) (ss : List Sl) (cs : List (List D)) (ta : TA) (rs : List Sl) (cs' : List (List D)) : Prop :=
  ∀ B H σ, Okk K P ss cs B H σ → ∀ Q : List V → Hp → Prop, (∀ vs B' H', Stp P B H B' H' → Okk K P ss cs' B' H' σ → RSs K B' vs rs → Q vs H') → ta σ H Q
/-- operations on values: they make new cells alone -/
def OpD (K : PySem.W.Frag) (f : R2) (r1 r2 r : Sl) : Prop := ∀ B H x y, Ex B H → RS K B x r1 → RS K B y r2 → ∀ Q : VK, (∀ v B' H', Stp [] B H B' H' → Ex B' H' → RS K B' v r → Q v H') → f x y H Q
def UnD (K : PySem.W.Frag) (f : V → Hp → VK → Prop) (r1 r : Sl) : Prop := ∀ B H x, Ex B H → RS K B x r1 → ∀ Q : VK, (∀ v B' H', Stp [] B H B' H' → Ex B' H' → RS K B' v r → Q v H') → f x H Q
def CbD (K : PySem.W.Frag) (f : List V → Hp → VK → Prop) (rs : List Sl) (r : Sl) : Prop := ∀ B H vs, Ex B H → RSs K B vs rs → ∀ Q : VK, (∀ v B' H', Stp [] B H B' H' → Ex B' H' → RS K B' v r → Q v H') → f vs H Q

section
variable {P : List Addr} {ss : List Sl} {cs cs1 cs2 cs3 : List (List D)} {ta tb tc te : TE} {t u : TT} {r r1 r2 r3 : Sl} {f : R2}
theorem ev_var {i : Nat} (h : ss[i]? = some r) (hn : r ≠ .any := by intro z; cases z) : Ev K P ss cs (tVar i) r cs := fun B H σ o Q q =>
  let ⟨v, h1, h2⟩ := o.sl.get i r h hn
  ⟨v, h1, q v B H (Stp.refl _ _ _) o h2⟩
theorem ev_c {v : V} {d : D} (h : ∀ B, Rp K B v d) : Ev K P ss cs (tC v) (.dat d) cs := fun B H σ o Q q => q v B H (Stp.refl _ _ _) o (h B)
theorem ev_int {i : Int} : Ev K P ss cs (tC (.int i)) (.dat (.int i)) cs := ev_c fun _ => .int i
theorem ev_str {x : Str} : Ev K P ss cs (tC (.str x)) (.dat (.str x)) cs := ev_c fun _ => .str x
theorem ev_bl {b : Bool} : Ev K P ss cs (tC (.bl b)) (.dat (.bl b)) cs := ev_c fun _ => .bl b
theorem ev_non : Ev K P ss cs (tC .non) (.dat .non) cs := ev_c fun _ => .non
theorem ev_val {v : V} : Ev K P ss cs (tC v) (.val v) cs := fun B H σ o Q q => q v B H (Stp.refl _ _ _) o rfl
theorem ev_op (ha : Ev K P ss cs ta r1 cs1) (hb : Ev K P ss cs1 tb r2 cs2) (hf : OpD K f r1 r2 r) : Ev K P ss cs (tOp f ta tb) r cs2 := fun B H σ o Q q =>
  ha B H σ o _ fun x B1 H1 s1 o1 x1 => hb B1 H1 σ o1 _ fun y B2 H2 s2 o2 y2 => hf B2 H2 x y o2.ex (x1.mono s2.ex) y2 Q fun v B3 H3 s3 e3 v3 =>
    q v B3 H3 ((s1.trans s2).trans s3.ofNil) (o2.step0 s3 e3) v3
theorem ev_un {f : V → Hp → VK → Prop} (ha : Ev K P ss cs ta r1 cs1) (hf : UnD K f r1 r) : Ev K P ss cs (tUn f ta) r cs1 := fun B H σ o Q q =>
  ha B H σ o _ fun x B1 H1 s1 o1 x1 => hf B1 H1 x o1.ex x1 Q fun v B3 H3 s3 e3 v3 => q v B3 H3 (s1.trans s3.ofNil) (o1.step0 s3 e3) v3
theorem ev_if {b : Bool} (h : EvT K P ss cs t b cs1) (h1 : b = true → Ev K P ss cs1 ta r cs2) (h2 : b = false → Ev K P ss cs1 tb r cs2) : Ev K P ss cs (tIf t ta tb) r cs2 := fun B H σ o Q q =>
  h B H σ o _ fun B1 H1 s1 o1 => by
    cases b with
    | true =>
      show ta σ H1 Q
      exact h1 rfl B1 H1 σ o1 Q fun v B2 H2 s2 o2 v2 => q v B2 H2 (s1.trans s2) o2 v2
    | false =>
      show tb σ H1 Q
      exact h2 rfl B1 H1 σ o1 Q fun v B2 H2 s2 o2 v2 => q v B2 H2 (s1.trans s2) o2 v2
theorem et_B {b : Bool} (h : Ev K P ss cs te (.dat (.bl b)) cs1) : EvT K P ss cs (tB te) b cs1 := fun B H σ o Q q =>
  h B H σ o _ fun v B1 H1 s1 o1 v1 => by
    have v1' : Rp K B1 v (.bl b) := v1
    cases v1'
    exact ⟨b, rfl, q B1 H1 s1 o1⟩
theorem et_test {b : Bool} (h : Ev K P ss cs te (.dat (.bl b)) cs1) : EvT K P ss cs (tTest te) b cs1 := fun B H σ o Q q =>
  h B H σ o _ fun v B1 H1 s1 o1 v1 => by
    have v1' : Rp K B1 v (.bl b) := v1
    cases v1'
    exact ⟨b, rfl, q B1 H1 s1 o1⟩
theorem et_not {b : Bool} (h : EvT K P ss cs t b cs1) : EvT K P ss cs (tNot t) (!b) cs1 := fun B H σ o Q q => h B H σ o _ fun B1 H1 s1 o1 => q B1 H1 s1 o1
theorem et_and {a b : Bool} (h1 : EvT K P ss cs t a cs) (h2 : a = true → EvT K P ss cs u b cs) : EvT K P ss cs (tAnd t u) (a && b) cs := fun B H σ o Q q => h1 B H σ o _ fun B1 H1 s1 o1 => by
  cases a with
  | true =>
    show u σ H1 Q
    exact h2 rfl B1 H1 σ o1 Q fun B2 H2 s2 o2 => q B2 H2 (s1.trans s2) o2
  | false =>
    show Q false H1
    exact q B1 H1 s1 o1
theorem et_or {a b : Bool} (h1 : EvT K P ss cs t a cs) (h2 : a = false → EvT K P ss cs u b cs) : EvT K P ss cs (tOr t u) (a || b) cs := fun B H σ o Q q => h1 B H σ o _ fun B1 H1 s1 o1 => by
  cases a with
  | true =>
    show Q true H1
    exact q B1 H1 s1 o1
  | false =>
    show u σ H1 Q
    exact h2 rfl B1 H1 σ o1 Q fun B2 H2 s2 o2 => q B2 H2 (s1.trans s2) o2
theorem ev_notV {b : Bool} (h : Ev K P ss cs ta (.dat (.bl b)) cs1) : Ev K P ss cs (tNotV ta) (.dat (.bl (!b))) cs1 := fun B H σ o Q q =>
  h B H σ o _ fun v B1 H1 s1 o1 v1 => by
    have v1' : Rp K B1 v (.bl b) := v1
    cases v1'
    exact ⟨b, rfl, q _ B1 H1 s1 o1 (Rp.bl _)⟩
theorem ev_andV {a b : Bool} (h1 : Ev K P ss cs ta (.dat (.bl a)) cs) (h2 : a = true → Ev K P ss cs tb (.dat (.bl b)) cs) : Ev K P ss cs (tAndV ta tb) (.dat (.bl (a && b))) cs := fun B H σ o Q q =>
  h1 B H σ o _ fun v B1 H1 s1 o1 v1 => by
    have v1' : Rp K B1 v (.bl a) := v1
    cases v1'
    refine ⟨a, rfl, ?_⟩
    cases a with
    | true =>
      show tb σ H1 Q
      exact h2 rfl B1 H1 σ o1 Q fun w B2 H2 s2 o2 w2 => q w B2 H2 (s1.trans s2) o2 w2
    | false =>
      show Q (.bl false) H1
      exact q _ B1 H1 s1 o1 (Rp.bl _)
theorem ev_orV {a b : Bool} (h1 : Ev K P ss cs ta (.dat (.bl a)) cs) (h2 : a = false → Ev K P ss cs tb (.dat (.bl b)) cs) : Ev K P ss cs (tOrV ta tb) (.dat (.bl (a || b))) cs := fun B H σ o Q q =>
  h1 B H σ o _ fun v B1 H1 s1 o1 v1 => by
    have v1' : Rp K B1 v (.bl a) := v1
    cases v1'
    refine ⟨a, rfl, ?_⟩
    cases a with
    | true =>
      show Q (.bl true) H1
      exact q _ B1 H1 s1 o1 (Rp.bl _)
    | false =>
      show tb σ H1 Q
      exact h2 rfl B1 H1 σ o1 Q fun w B2 H2 s2 o2 w2 => q w B2 H2 (s1.trans s2) o2 w2
theorem Ev.eq {d d' : D} (h : Ev K P ss cs te (.dat d) cs1) (e : d = d') : Ev K P ss cs te (.dat d') cs1 := e ▸ h
theorem EvT.eq {a b : Bool} (h : EvT K P ss cs t a cs1) (e : a = b) : EvT K P ss cs t b cs1 := e ▸ h
theorem ea_nil : EvA K P ss cs tNil [] cs := fun B H σ o Q q => q [] B H (Stp.refl _ _ _) o True.intro
theorem ea_cons {tr : TA} {rs : List Sl} (h : Ev K P ss cs te r cs1) (hr : EvA K P ss cs1 tr rs cs2) : EvA K P ss cs (tCons te tr) (r :: rs) cs2 := fun B H σ o Q q =>
  h B H σ o _ fun v B1 H1 s1 o1 v1 => hr B1 H1 σ o1 _ fun vs B2 H2 s2 o2 r2 => q _ B2 H2 (s1.trans s2) o2 ⟨v1.mono s2.ex, r2⟩
theorem ev_cb {rr : List V → Hp → VK → Prop} {tA : TA} {rs : List Sl} (h : EvA K P ss cs tA rs cs1) (hf : CbD K rr rs r) : Ev K P ss cs (tCB rr tA) r cs1 := fun B H σ o Q q =>
  h B H σ o _ fun vs B1 H1 s1 o1 r1 => hf B1 H1 vs o1.ex r1 Q fun v B2 H2 s2 e2 v2 => q v B2 H2 (s1.trans s2.ofNil) (o1.step0 s2 e2) v2

/-! ### new cells -/
theorem stp_new {B H : Hp} {p : Addr} {o : HO} (e : Ex B H) (hp : H p = none) : Stp [] B H (upd B p o) (upd H p o) :=
  ⟨Ex.new (e.free hp), fun b u _ h => Ex.new hp b u h, fun b u h => upd_ne (ne_of_none h hp), fun b u h => ⟨u, Ex.new hp b u h⟩⟩
theorem rsA : ∀ {B : Hp} {vs : List V} {ds : List D}, RSs K B vs (ds.map Sl.dat) → RpA K B vs ds
  | _, [], [], _ => .nil
  | _, [], _ :: _, h => h.elim
  | _, _ :: _, [], h => h.elim
  | _, _ :: _, _ :: _, h => .cons h.1 (rsA h.2)
theorem le_line {n : Nat} (h : n ≤ 1000000) : n ≤ sizeLine := Nat.le_trans h (by decide)
theorem lt_line {n : Nat} (h : n ≤ 1000000) : n < sizeLine := Nat.lt_of_le_of_lt h (by decide)
theorem ev_tup {tA : TA} {ds : List D} (h : EvA K P ss cs tA (ds.map Sl.dat) cs1) (hl : ds.length ≤ 1000000 := by decide) : Ev K P ss cs (tTup tA) (.dat (.tup ds)) cs1 := fun B H σ o Q q =>
  h B H σ o _ fun vs B1 H1 s1 o1 r1 => by
    have ra := rsA r1
    refine ⟨le_line (by rw [ra.length]; exact hl), fun p hp => ?_⟩
    have s2 := stp_new (o := .tup vs) o1.ex hp
    exact q _ _ _ (s1.trans s2.ofNil) (o1.step0 s2 o1.ex.updB) (Rp.tup (.inl upd_same) (ra.mono s2.ex))
theorem ev_lst {tA : TA} {ds : List D} (h : EvA K P ss cs tA (ds.map Sl.dat) cs1) (hl : ds.length ≤ 1000000 := by decide) : Ev K P ss cs (tLst tA) (.dat (.lst ds)) cs1 := fun B H σ o Q q =>
  h B H σ o _ fun vs B1 H1 s1 o1 r1 => by
    have ra := rsA r1
    refine ⟨le_line (by rw [ra.length]; exact hl), fun p hp => ?_⟩
    have s2 := stp_new (o := .lst vs) o1.ex hp
    exact q _ _ _ (s1.trans s2.ofNil) (o1.step0 s2 o1.ex.updB) (Rp.lst upd_same (ra.mono s2.ex))
end

/-! ### calls -/
/-- what a def promises: by a relation of the arguments' data, the lists', to the answer's and the lists' behind it -/
abbrev Pre := List Sl → List Addr → List (List D) → Sl → List (List D) → Prop
def spM (K : PySem.W.Frag) (pre : Pre) : Sp := fun vs H Q _ => ∃ B rs P cs r cs', pre rs P cs r cs' ∧ Ex B H ∧ RSs K B vs rs ∧ Mu K B H P cs ∧
  ∀ v B' H', Stp P B H B' H' → Ex B' H' → Mu K B' H' P cs' → RS K B' v r → Q v H'
section
variable {P : List Addr} {ss : List Sl} {cs cs1 cs2 : List (List D)} {tA : TA} {rs : List Sl} {r : Sl} {pre : Pre} {E : XK}
theorem ev_call0 (ha : EvA K P ss cs tA rs cs1) (hp : pre rs [] [] r []) : Ev K P ss cs (tCall (spM K pre) [] E tA) r cs1 := fun B H σ o Q q =>
  ha B H σ o _ fun vs B1 H1 s1 o1 r1 => by
    show spM K pre (vs ++ []) H1 Q E
    rw [List.append_nil]
    exact ⟨B1, rs, [], [], r, [], hp, o1.ex, r1, True.intro, fun v B2 H2 s2 e2 _ v2 => q v B2 H2 (s1.trans s2.ofNil) (o1.step0 s2 e2) v2⟩
theorem ev_call1 {j : Nat} {p : Addr} {ds ds' : List D} (ha : EvA K P ss cs tA rs cs1) (hP : P[j]? = some p) (hc : cs1[j]? = some ds) (hp : pre rs [p] [ds] r [ds']) : Ev K P ss cs (tCall (spM K pre) [] E tA) r (cs1.set j ds') := fun B H σ o Q q =>
  ha B H σ o _ fun vs B1 H1 s1 o1 r1 => by
    show spM K pre (vs ++ []) H1 Q E
    rw [List.append_nil]
    obtain ⟨hL, hB⟩ := o1.mu.get hP hc
    refine ⟨B1, rs, [p], [ds], r, [ds'], hp, o1.ex, r1, ⟨hL, hB, by simp, True.intro⟩, fun v B2 H2 s2 e2 m2 v2 => ?_⟩
    obtain ⟨⟨ws, hw, hr⟩, _⟩ := m2
    have sp : Stp P B1 H1 B2 H2 := s2.mono fun x hx => by
      have e : x = p := by simpa using hx
      subst e
      exact List.mem_of_getElem? hP
    refine q v B2 H2 (s1.trans sp) ⟨e2, o1.sl.mono s2.ex, o1.mu.put s2.ex hw hr hP (fun x hx hne => ?_) fun x hx => ?_⟩ v2
    · obtain ⟨u, h1, _⟩ := o1.mu.mem hx
      rw [h1, s2.fr x u (by simpa using hne) h1]
    · obtain ⟨u, h1, h2⟩ := o1.mu.mem hx
      rw [s2.nb x u h1, h2]
end

/-! ### statements -/
/-- within a def: (B0, H0) at its entry -/
def Sta (K : PySem.W.Frag) (P : List Addr) (B0 H0 : Hp) (ss : List Sl) (cs : List (List D)) (σ : L2.St) (H : Hp) : Prop := ∃ B, Stp P B0 H0 B H ∧ Okk K P ss cs B H σ
section
variable {P : List Addr} {B0 H0 H : Hp} {ss ss' : List Sl} {cs cs1 : List (List D)} {σ : L2.St} {D : Ends} {te : TE} {tt : TT} {t u : TS} {r : Sl}
theorem Sta.le {tt : List Sl} (h : Sta K P B0 H0 ss cs σ H) (l : LeS ss tt) : Sta K P B0 H0 tt cs σ H := let ⟨B, s, o⟩ := h; ⟨B, s, o.ex, o.sl.le l, o.mu⟩
theorem st_asg {i : Nat} (h : Sta K P B0 H0 ss cs σ H) (he : Ev K P ss cs te r cs1) (k : ∀ σ' H', Sta K P B0 H0 (ss.set i r) cs1 σ' H' → D.nx σ' H') : tAsg te (gName i) D σ H := by
  obtain ⟨B, s, o⟩ := h
  exact he B H σ o _ fun v B1 H1 s1 o1 v1 => k _ _ ⟨B1, s.trans s1, o1.ex, o1.sl.set v1, o1.mu⟩
theorem st_drop (h : Sta K P B0 H0 ss cs σ H) (he : Ev K P ss cs te r cs1) (k : ∀ H', Sta K P B0 H0 ss cs1 σ H' → D.nx σ H') : tDrop te D σ H := by
  obtain ⟨B, s, o⟩ := h
  exact he B H σ o _ fun v B1 H1 s1 o1 v1 => k _ ⟨B1, s.trans s1, o1⟩
/-- what a def's end wants -/
def Done (K : PySem.W.Frag) (P : List Addr) (B0 H0 : Hp) (r : Sl) (cs : List (List DV.D)) (Q : VK) : Prop := ∀ v B' H', Stp P B0 H0 B' H' → Ex B' H' → Mu K B' H' P cs → RS K B' v r → Q v H'
theorem st_ret (h : Sta K P B0 H0 ss cs σ H) (he : Ev K P ss cs te r cs1) (k : Done K P B0 H0 r cs1 D.rt) : tRet te D σ H := by
  obtain ⟨B, s, o⟩ := h
  exact he B H σ o _ fun v B1 H1 s1 o1 v1 => k v B1 H1 (s.trans s1) o1.ex o1.mu v1
theorem st_if {b : Bool} (h : Sta K P B0 H0 ss cs σ H) (he : EvT K P ss cs tt b cs1) (h1 : b = true → ∀ H', Sta K P B0 H0 ss cs1 σ H' → t D σ H') (h2 : b = false → ∀ H', Sta K P B0 H0 ss cs1 σ H' → u D σ H') : tIfS tt t u D σ H := by
  obtain ⟨B, s, o⟩ := h
  refine he B H σ o _ fun B1 H1 s1 o1 => ?_
  cases b with
  | true =>
    show t D σ H1
    exact h1 rfl H1 ⟨B1, s.trans s1, o1⟩
  | false =>
    show u D σ H1
    exact h2 rfl H1 ⟨B1, s.trans s1, o1⟩
/-- x = [] that will change -/
theorem st_new {i : Nat} (h : Sta K P B0 H0 ss cs σ H) (k : ∀ p σ' H', H0 p = none → p ∉ P → Sta K (p :: P) B0 H0 (ss.set i (.val (.ref p))) ([] :: cs) σ' H' → D.nx σ' H') : tAsg (tLst tNil) (gName i) D σ H := by
  obtain ⟨B, s, o⟩ := h
  refine ⟨Nat.zero_le _, fun p hp => ?_⟩
  have hp0 : H0 p = none := by
    cases e : H0 p with
    | none => rfl
    | some u =>
      obtain ⟨u', h'⟩ := s.dm p u e
      rw [hp] at h'; cases h'
  have hpP : p ∉ P := fun z => by
    obtain ⟨u, h1, _⟩ := o.mu.mem z
    rw [hp] at h1; cases h1
  have hpB : B p = none := o.ex.free hp
  refine k p _ _ hp0 hpP ⟨B, ⟨s.ex, fun b u n e => ?_, s.nb, fun b u e => ?_⟩, ⟨fun b u e => Ex.new hp b u (o.ex b u e), o.sl.set rfl, ⟨⟨[], upd_same, .nil⟩, hpB, hpP, o.mu.keep (Ex.refl _) (fun x hx => upd_ne fun z => hpP (z ▸ hx)) fun x hx => ?_⟩⟩⟩
  · rw [upd_ne (fun (z : b = p) => n (z ▸ List.mem_cons_self))]
    exact s.fr b u (fun z => n (List.mem_cons_of_mem _ z)) e
  · obtain ⟨u', h'⟩ := s.dm b u e
    exact ⟨u', Ex.new hp b u' h'⟩
  · exact (o.mu.mem hx).choose_spec.2
/-- a list that has changed is data from here on -/
theorem Sta.pub {i : Nat} {p : Addr} {ds : List DV.D} (h : Sta K (p :: P) B0 H0 ss (ds :: cs) σ H) (hp : H0 p = none) (hi : ss[i]? = some (.val (.ref p))) : Sta K P B0 H0 (ss.set i (.dat (.lst ds))) cs σ H := by
  obtain ⟨B, s, o⟩ := h
  obtain ⟨⟨vs, hv, rv⟩, hB, hn, mu⟩ := o.mu
  have eB : Ex B (upd B p (.lst vs)) := Ex.new hB
  obtain ⟨w, hw, ew⟩ := o.sl.get i _ hi (by intro z; cases z)
  have ew' : w = .ref p := ew
  subst ew'
  have hσ : σ.set i (some (.ref p)) = σ := by
    apply List.ext_getElem?
    intro j
    rw [List.getElem?_set]
    by_cases hj : i = j
    · subst hj
      have hl : i < σ.length := (List.getElem?_eq_some_iff.mp hw).1
      rw [if_pos rfl, if_pos hl, hw]
    · rw [if_neg hj]
  refine ⟨upd B p (.lst vs), ⟨s.ex.trans eB, fun b u n e => ?_, fun b u e => ?_, s.dm⟩, ⟨fun b u e => ?_, ?_, mu.keep eB (fun _ _ => rfl) fun x hx => ?_⟩⟩
  · exact s.fr b u (fun z => by
      rcases List.mem_cons.mp z with z | z
      · subst z; rw [hp] at e; cases e
      · exact n z) e
  · rw [upd_ne (ne_of_none e hp)]
    exact s.nb b u e
  · by_cases hb : b = p
    · subst hb; rw [upd_same] at e; cases e; exact hv
    · rw [upd_ne hb] at e; exact o.ex b u e
  · have q := (o.sl.mono eB).set (i := i) (v := .ref p) (r := .dat (.lst ds)) (Rp.lst upd_same (rv.mono eB))
    rw [hσ] at q
    exact q
  · obtain ⟨u, _, h2⟩ := mu.mem hx
    rw [upd_ne (fun (z : x = p) => hn (z ▸ hx))]
    exact h2
end

/-! ### targets -/
/-- the slots W alone are other ones -/
def Only (W : List Nat) (σ σ' : L2.St) : Prop := σ'.length = σ.length ∧ ∀ k, k ∉ W → σ'[k]? = σ[k]?
theorem Only.refl (W : List Nat) (σ : L2.St) : Only W σ σ := ⟨rfl, fun _ _ => rfl⟩
theorem Only.trans {W W' : List Nat} {σ σ1 σ2 : L2.St} (a : Only W σ σ1) (b : Only W' σ1 σ2) : Only (W ++ W') σ σ2 :=
  ⟨b.1.trans a.1, fun k n => (b.2 k fun h => n (List.mem_append_right _ h)).trans (a.2 k fun h => n (List.mem_append_left _ h))⟩
theorem Only.set (σ : L2.St) (i : Nat) (o : Option V) : Only [i] σ (σ.set i o) :=
  ⟨List.length_set, fun k n => by rw [List.getElem?_set, if_neg (fun e => n (by simp [e]))]⟩
theorem wipe_get (σ : L2.St) : ∀ (vs : List Nat) (k : Nat), (wipe σ vs)[k]? = if k ∈ vs then (if k < σ.length then some none else none) else σ[k]?
  | [], k => by simp [wipe]
  | v :: vs, k => by
    unfold wipe
    rw [List.getElem?_set, wipe_length]
    by_cases h : v = k
    · subst h
      rw [if_pos rfl, if_pos List.mem_cons_self]
    · rw [if_neg h, wipe_get σ vs k]
      by_cases hk : k ∈ vs
      · rw [if_pos hk, if_pos (List.mem_cons_of_mem _ hk)]
      · rw [if_neg hk, if_neg (fun z => by
          rcases List.mem_cons.mp z with z | z
          · exact h z.symm
          · exact hk z)]
theorem Only.wipe {W vs : List Nat} {σ σ' : L2.St} (o : Only W (L2.wipe σ vs) σ') (h : ∀ k ∈ W, k ∈ vs) : L2.wipe σ' vs = L2.wipe σ vs := by
  have hl : σ'.length = σ.length := o.1.trans (wipe_length σ vs)
  apply List.ext_getElem?
  intro k
  rw [wipe_get, wipe_get, hl]
  by_cases hk : k ∈ vs
  · rw [if_pos hk, if_pos hk]
  · rw [if_neg hk, if_neg hk, o.2 k (fun z => hk (h k z)), wipe_get, if_neg hk]
def wipeS (ss : List Sl) : List Nat → List Sl
  | [] => ss
  | v :: vs => (wipeS ss vs).set v .any
theorem Slots.wipe {B : Hp} {σ : L2.St} {ss : List Sl} (h : Slots K B σ ss) : ∀ vs : List Nat, Slots K B (L2.wipe σ vs) (wipeS ss vs)
  | [] => h
  | v :: vs => (Slots.wipe h vs).clr v none
def GR (K : PySem.W.Frag) (ss : List Sl) (g : TG) (d : D) (ss' : List Sl) (W : List Nat) : Prop := ∀ B H σ v, Ex B H → Slots K B σ ss → Rp K B v d → ∀ Q : L2.St → Hp → Prop, (∀ σ', Slots K B σ' ss' → Only W σ σ' → Q σ' H) → g v σ H Q
def GRs (K : PySem.W.Frag) (ss : List Sl) (g : TGs) (ds : List D) (ss' : List Sl) (W : List Nat) : Prop := ∀ B H σ vs, Ex B H → Slots K B σ ss → RpA K B vs ds → ∀ Q : L2.St → Hp → Prop, (∀ σ', Slots K B σ' ss' → Only W σ σ' → Q σ' H) → g vs σ H Q
section
variable {ss ss1 ss2 : List Sl} {d : D} {ds : List D} {W W' : List Nat}
theorem g_name {i : Nat} : GR K ss (gName i) d (ss.set i (.dat d)) [i] := fun B H σ v _ s r Q q => q _ (s.set r) (Only.set _ _ _)
theorem g_nil : GRs K ss gNil [] ss [] := fun B H σ vs _ s r Q q => by
  cases r
  exact ⟨rfl, q σ s (Only.refl _ _)⟩
theorem g_cons {g : TG} {gs : TGs} (h : GR K ss g d ss1 W) (hs : GRs K ss1 gs ds ss2 W') : GRs K ss (gCons g gs) (d :: ds) ss2 (W ++ W') := fun B H σ vs e s r Q q => by
  cases r with
  | cons r1 r2 => exact ⟨_, _, rfl, h B H σ _ e s r1 _ fun σ1 s1 o1 => hs B H σ1 _ e s1 r2 Q fun σ2 s2 o2 => q σ2 s2 (o1.trans o2)⟩
theorem g_tup {n : Nat} {gs : TGs} (hs : GRs K ss gs ds ss2 W) (hn : ds.length = n := by rfl) : GR K ss (gTup K n gs) (.tup ds) ss2 W := fun B H σ v e s r Q q => by
  cases r with
  | tup h ra => exact ⟨_, _, rfl, .inl (RdEx e h), by rw [ra.length]; exact hn, hs B H σ _ e s ra Q q⟩
end
end DV
/-! DV2: operations over plain data. -/
namespace DV
open PySem L2
variable {K : PySem.W.Frag}

/-! ### data as the library's data -/
mutual
def D.py : D → PyData
  | .non => .none
  | .bl b => .bool b
  | .int i => .int i
  | .str x => .str x
  | .lst ds => .list (D.pyA ds)
  | .tup ds => .tuple (D.pyA ds)
  | .fro ds => .list (D.pyA ds)
  | .nt _ => .none
  | .dic _ => .none
  | .obj _ _ => .none
def D.pyA : List D → List PyData
  | [] => []
  | d :: ds => d.py :: D.pyA ds
end
mutual
/-- no dict, no instance, no frozen list -/
def D.pl : D → Bool
  | .non => true
  | .bl _ => true
  | .int _ => true
  | .str _ => true
  | .lst ds => D.plA ds
  | .tup ds => D.plA ds
  | .fro _ => false
  | .nt _ => false
  | .dic _ => false
  | .obj _ _ => false
def D.plA : List D → Bool
  | [] => true
  | d :: ds => d.pl && D.plA ds
end
mutual
/-- .. and no bool -/
def D.nb : D → Bool
  | .non => true
  | .bl _ => false
  | .int _ => true
  | .str _ => true
  | .lst ds => D.nbA ds
  | .tup ds => D.nbA ds
  | .fro _ => false
  | .nt _ => false
  | .dic _ => false
  | .obj _ _ => false
def D.nbA : List D → Bool
  | [] => true
  | d :: ds => d.nb && D.nbA ds
end
mutual
theorem D.pl_of_nb : ∀ d : D, d.nb = true → d.pl = true
  | .non, _ => rfl
  | .bl _, _ => rfl
  | .int _, _ => rfl
  | .str _, _ => rfl
  | .lst ds, h => D.plA_of_nb ds (by simpa [D.nb] using h)
  | .tup ds, h => D.plA_of_nb ds (by simpa [D.nb] using h)
  | .fro _, h => by simp [D.nb] at h
  | .nt _, h => by simp [D.nb] at h
  | .dic _, h => by simp [D.nb] at h
  | .obj _ _, h => by simp [D.nb] at h
theorem D.plA_of_nb : ∀ ds : List D, D.nbA ds = true → D.plA ds = true
  | [], _ => rfl
  | d :: ds, h => by
    have h' : d.nb = true ∧ D.nbA ds = true := by simpa [D.nbA] using h
    simp [D.plA, D.pl_of_nb d h'.1, D.plA_of_nb ds h'.2]
end
mutual
theorem Rp.dp {B H : Hp} (e : Ex B H) : ∀ {v : V} {d : D}, Rp K B v d → d.pl = true → Dp K H v d.py
  | _, _, .non, _ => .non
  | _, _, .bl b, _ => .bl b
  | _, _, .int i, _ => .int i
  | _, _, .str x, _ => .str x
  | _, _, .lst h r, p => .lst (.inl (.inl (e _ _ h))) (RpA.dp e r (by simpa [D.pl] using p))
  | _, _, .tup h r, p => .tup (.inl (RdEx e h)) (RpA.dp e r (by simpa [D.pl] using p))
  | _, _, .fro _ _, p => by simp [D.pl] at p
  | _, _, .nt _ _ _, p => by simp [D.pl] at p
  | _, _, .dic _ _, p => by simp [D.pl] at p
  | _, _, .obj _ _, p => by simp [D.pl] at p
theorem RpA.dp {B H : Hp} (e : Ex B H) : ∀ {vs : List V} {ds : List D}, RpA K B vs ds → D.plA ds = true → DpAll K H vs (D.pyA ds)
  | _, _, .nil, _ => .nil
  | _, _, .cons h r, p => by
    have p' := p
    simp [D.plA] at p'
    exact .cons (Rp.dp e h p'.1) (RpA.dp e r p'.2)
end
/-! equal data -/
mutual
theorem D.eqv_iff : ∀ d e : D, d.nb = true → e.nb = true → (PyData.eqv d.py e.py = true ↔ d = e)
  | .non, e, _, he => by cases e <;> simp [D.py, PyData.eqv, D.nb] at he ⊢
  | .bl _, _, hd, _ => by simp [D.nb] at hd
  | .int i, e, _, he => by cases e <;> simp [D.py, PyData.eqv, D.nb] at he ⊢
  | .str x, e, _, he => by cases e <;> simp [D.py, PyData.eqv, D.nb] at he ⊢
  | .lst ds, e, hd, he => by
    cases e with
    | lst es =>
      have := D.eqvA_iff ds es (by simpa [D.nb] using hd) (by simpa [D.nb] using he)
      simp only [D.py, PyData.eqv, this, D.lst.injEq]
    | non => simp [D.py, PyData.eqv]
    | bl b => simp [D.nb] at he
    | int i => simp [D.py, PyData.eqv]
    | str x => simp [D.py, PyData.eqv]
    | tup x => simp [D.py, PyData.eqv]
    | dic x => simp [D.nb] at he
    | obj C x => simp [D.nb] at he
    | fro x => simp [D.nb] at he
    | nt x => simp [D.nb] at he
  | .tup ds, e, hd, he => by
    cases e with
    | tup es =>
      have := D.eqvA_iff ds es (by simpa [D.nb] using hd) (by simpa [D.nb] using he)
      simp only [D.py, PyData.eqv, this, D.tup.injEq]
    | non => simp [D.py, PyData.eqv]
    | bl b => simp [D.nb] at he
    | int i => simp [D.py, PyData.eqv]
    | str x => simp [D.py, PyData.eqv]
    | lst x => simp [D.py, PyData.eqv]
    | dic x => simp [D.nb] at he
    | obj C x => simp [D.nb] at he
    | fro x => simp [D.nb] at he
    | nt x => simp [D.nb] at he
  | .fro _, _, hd, _ => by simp [D.nb] at hd
  | .nt _, _, hd, _ => by simp [D.nb] at hd
  | .dic _, _, hd, _ => by simp [D.nb] at hd
  | .obj _ _, _, hd, _ => by simp [D.nb] at hd
theorem D.eqvA_iff : ∀ ds es : List D, D.nbA ds = true → D.nbA es = true → (PyData.eqvAll (D.pyA ds) (D.pyA es) = true ↔ ds = es)
  | [], [], _, _ => by simp [D.pyA, PyData.eqvAll]
  | [], e :: es, _, _ => by simp [D.pyA, PyData.eqvAll]
  | d :: ds, [], _, _ => by simp [D.pyA, PyData.eqvAll]
  | d :: ds, e :: es, hd, he => by
    have hd' : d.nb = true ∧ D.nbA ds = true := by simpa [D.nbA] using hd
    have he' : e.nb = true ∧ D.nbA es = true := by simpa [D.nbA] using he
    have i1 := D.eqv_iff d e hd'.1 he'.1
    have i2 := D.eqvA_iff ds es hd'.2 he'.2
    simp only [D.pyA, PyData.eqvAll, Bool.and_eq_true, i1, i2, List.cons.injEq]
end
mutual
/-- data that may be compared: texts of real signs, at most n deep -/
def D.sh : Nat → D → Bool
  | _, .non => true
  | _, .bl _ => true
  | _, .int _ => true
  | _, .str x => PyData.strOk x
  | 0, .lst _ => false
  | 0, .tup _ => false
  | n + 1, .lst ds => D.shA n ds
  | n + 1, .tup ds => D.shA n ds
  | _, .fro _ => false
  | _, .nt _ => false
  | _, .dic _ => false
  | _, .obj _ _ => false
def D.shA : Nat → List D → Bool
  | _, [] => true
  | n, d :: ds => D.sh n d && D.shA n ds
end
mutual
theorem D.sh_lay : ∀ (n : Nat) (d : D), D.sh n d = true → d.py.canLay0 = true ∧ d.py.depth ≤ n
  | _, .non, _ => by simp [D.py, PyData.canLay0, PyData.depth]
  | _, .bl _, _ => by simp [D.py, PyData.canLay0, PyData.depth]
  | _, .int _, _ => by simp [D.py, PyData.canLay0, PyData.depth]
  | n, .str x, h => by
    have h' : PyData.strOk x = true := by cases n <;> simpa [D.sh] using h
    simp [D.py, PyData.canLay0, PyData.depth, h']
  | 0, .lst _, h => by simp [D.sh] at h
  | 0, .tup _, h => by simp [D.sh] at h
  | n + 1, .lst ds, h => by
    have := D.shA_lay n ds (by simpa [D.sh] using h)
    simp [D.py, PyData.canLay0, PyData.depth, this.1, this.2]
  | n + 1, .tup ds, h => by
    have := D.shA_lay n ds (by simpa [D.sh] using h)
    simp [D.py, PyData.canLay0, PyData.depth, this.1, this.2]
  | n, .fro _, h => by cases n <;> simp [D.sh] at h
  | n, .nt _, h => by cases n <;> simp [D.sh] at h
  | n, .dic _, h => by cases n <;> simp [D.sh] at h
  | n, .obj _ _, h => by cases n <;> simp [D.sh] at h
theorem D.shA_lay : ∀ (n : Nat) (ds : List D), D.shA n ds = true → PyData.canLayAll0 (D.pyA ds) = true ∧ PyData.depthAll (D.pyA ds) ≤ n
  | _, [], _ => by simp [D.pyA, PyData.canLayAll0, PyData.depthAll]
  | n, d :: ds, h => by
    have h' : D.sh n d = true ∧ D.shA n ds = true := by simpa [D.shA] using h
    have i1 := D.sh_lay n d h'.1
    have i2 := D.shA_lay n ds h'.2
    simp [D.pyA, PyData.canLayAll0, PyData.depthAll, i1.1, i2.1]
    omega
end
mutual
theorem D.sh_pl : ∀ (n : Nat) (d : D), D.sh n d = true → d.pl = true
  | _, .non, _ => rfl
  | _, .bl _, _ => rfl
  | _, .int _, _ => rfl
  | _, .str _, _ => rfl
  | 0, .lst _, h => by simp [D.sh] at h
  | 0, .tup _, h => by simp [D.sh] at h
  | n + 1, .lst ds, h => D.shA_pl n ds (by simpa [D.sh] using h)
  | n + 1, .tup ds, h => D.shA_pl n ds (by simpa [D.sh] using h)
  | n, .fro _, h => by cases n <;> simp [D.sh] at h
  | n, .nt _, h => by cases n <;> simp [D.sh] at h
  | n, .dic _, h => by cases n <;> simp [D.sh] at h
  | n, .obj _ _, h => by cases n <;> simp [D.sh] at h
theorem D.shA_pl : ∀ (n : Nat) (ds : List D), D.shA n ds = true → D.plA ds = true
  | _, [], _ => rfl
  | n, d :: ds, h => by
    have h' : D.sh n d = true ∧ D.shA n ds = true := by simpa [D.shA] using h
    simp [D.plA, D.sh_pl n d h'.1, D.shA_pl n ds h'.2]
end
theorem D.shaped {d : D} {n : Nat} (h : D.sh n d = true) (hn : n ≤ 64 := by decide) : SeqAt.shaped d.py = true := by
  obtain ⟨h1, h2⟩ := D.sh_lay n d h
  unfold SeqAt.shaped
  simp [h1]
  omega
theorem D.shA_all {n : Nat} : ∀ {ds : List D}, (∀ d ∈ ds, D.sh n d = true) → D.shA n ds = true
  | [], _ => rfl
  | d :: ds, h => by simp [D.shA, h d List.mem_cons_self, D.shA_all fun e he => h e (List.mem_cons_of_mem _ he)]
theorem D.nbA_all : ∀ {ds : List D}, (∀ d ∈ ds, d.nb = true) → D.nbA ds = true
  | [], _ => rfl
  | d :: ds, h => by simp [D.nbA, h d List.mem_cons_self, D.nbA_all fun e he => h e (List.mem_cons_of_mem _ he)]

/-! ### operators -/
def rOr (f g : R2) : R2 := fun x y H Q => f x y H Q ∨ g x y H Q
theorem op_or {X : Cx} {F : Value → Value → Sem Value} {f g : R2} (hf : OpR X F f) (hg : OpR X F g) : OpR X F (rOr f g) := fun pins s σ H x y v u Q I rx ry h =>
  h.elim (hf pins s σ H x y v u Q I rx ry) (hg pins s σ H x y v u Q I rx ry)
section
variable {f g : R2} {r1 r2 r : Sl}
theorem od_l (h : OpD K f r1 r2 r) : OpD K (rOr f g) r1 r2 r := fun B H x y e a b Q q => .inl (h B H x y e a b Q q)
theorem od_r (h : OpD K g r1 r2 r) : OpD K (rOr f g) r1 r2 r := fun B H x y e a b Q q => .inr (h B H x y e a b Q q)
end
theorem od_I0 {g : Int → Int → V} {i j : Int} {d : D} (h : ∀ B, Rp K B (g i j) d) : OpD K (rI0 g) (.dat (.int i)) (.dat (.int j)) (.dat d) := fun B H x y e a b Q q => by
  have a' : Rp K B x (.int i) := a
  have b' : Rp K B y (.int j) := b
  cases a'; cases b'
  exact ⟨i, j, rfl, rfl, q _ B H (Stp.refl _ _ _) e (h B)⟩
theorem od_I {C : Int → Int → Prop} {g : Int → Int → V} {i j : Int} {d : D} (hc : C i j) (h : ∀ B, Rp K B (g i j) d) : OpD K (rI C g) (.dat (.int i)) (.dat (.int j)) (.dat d) := fun B H x y e a b Q q => by
  have a' : Rp K B x (.int i) := a
  have b' : Rp K B y (.int j) := b
  cases a'; cases b'
  exact ⟨i, j, rfl, rfl, hc, q _ B H (Stp.refl _ _ _) e (h B)⟩
def rAddS : R2 := fun x y H Q => ∃ i j, x = .str i ∧ y = .str j ∧ i.length + j.length ≤ sizeLine ∧ Q (.str (i ++ j)) H
def addA (K : PySem.W.Frag) : R2 := rOr (rI0 fun i j => .int (i + j)) (rOr rAddS (rOr rCat (rCatA K)))
theorem op_addA {X : Cx} : OpR X (binaryOp .Add) (addA X.K) := op_or op_add (op_or op_add_str (op_or op_cat op_catA))
theorem od_addI {i j : Int} : OpD K (addA K) (.dat (.int i)) (.dat (.int j)) (.dat (.int (i + j))) := od_l (od_I0 fun _ => .int _)
theorem od_subI {i j : Int} : OpD K (rI0 fun i j => .int (i - j)) (.dat (.int i)) (.dat (.int j)) (.dat (.int (i - j))) := od_I0 fun _ => .int _
theorem od_mulI {i j : Int} (h : CMul i j) : OpD K (rI CMul fun i j => .int (i * j)) (.dat (.int i)) (.dat (.int j)) (.dat (.int (i * j))) := od_I h fun _ => .int _
theorem od_addS {a b : Str} (hz : a.length + b.length ≤ 1000000) : OpD K (addA K) (.dat (.str a)) (.dat (.str b)) (.dat (.str (a ++ b))) := od_r (od_l fun B H x y e h1 h2 Q q => by
  have a' : Rp K B x (.str a) := h1
  have b' : Rp K B y (.str b) := h2
  cases a'; cases b'
  exact ⟨a, b, rfl, rfl, le_line hz, q _ B H (Stp.refl _ _ _) e (.str _)⟩)
theorem od_addL {as bs : List D} (hz : as.length + bs.length ≤ 1000000) : OpD K (addA K) (.dat (.lst as)) (.dat (.lst bs)) (.dat (.lst (as ++ bs))) := od_r (od_r (od_l fun B H x y e h1 h2 Q q => by
  have a' : Rp K B x (.lst as) := h1
  have b' : Rp K B y (.lst bs) := h2
  cases a' with
  | @lst _ xs _ ha ra => cases b' with
    | @lst _ ys _ hb rb =>
      refine ⟨_, _, _, _, rfl, rfl, e _ _ ha, e _ _ hb, le_line (by rw [ra.length, rb.length]; exact hz), fun p hp => ?_⟩
      have s := stp_new (o := .lst (xs ++ ys)) e hp
      exact q _ _ _ s e.updB (Rp.lst upd_same ((ra.append rb).mono s.ex))))
theorem od_addT {as bs : List D} (hz : as.length + bs.length ≤ 1000000) : OpD K (addA K) (.dat (.tup as)) (.dat (.tup bs)) (.dat (.tup (as ++ bs))) := od_r (od_r (od_r fun B H x y e h1 h2 Q q => by
  have a' : Rp K B x (.tup as) := h1
  have b' : Rp K B y (.tup bs) := h2
  cases a' with
  | @tup a xs _ ha ra => cases b' with
    | @tup b ys _ hb rb =>
      refine ⟨_, _, xs, ys, rfl, rfl, .inl (RdEx e ha), .inl (RdEx e hb), le_line (by rw [ra.length, rb.length]; exact hz), fun z => ?_, fun _ z => ?_, fun _ _ p hp => ?_⟩
      · subst z
        cases ra
        exact q _ B H (Stp.refl _ _ _) e (Rp.tup hb rb)
      · subst z
        cases rb
        rw [List.append_nil] at q
        exact q _ B H (Stp.refl _ _ _) e (Rp.tup ha ra)
      · have s := stp_new (o := .tup (xs ++ ys)) e hp
        exact q _ _ _ s e.updB (Rp.tup (.inl upd_same) ((ra.append rb).mono s.ex))))
/-- == and != -/
theorem od_eq {d e : D} {b : Bool} (n m : Nat) (hd : D.sh n d = true) (he : D.sh m e = true) (nd : d.nb = true) (ne : e.nb = true) (hb : b = true ↔ d = e) (hn : n ≤ 64 := by decide) (hm : m ≤ 64 := by decide) :
    OpD K (rEqD K) (.dat d) (.dat e) (.dat (.bl b)) := fun B H x y ex h1 h2 Q q => by
  refine ⟨d.py, e.py, Rp.dp ex h1 (D.sh_pl _ _ hd), Rp.dp ex h2 (D.sh_pl _ _ he), D.shaped hd hn, D.shaped he hm, ?_⟩
  have hq : PyData.eqv d.py e.py = b := Bool.eq_iff_iff.mpr ((D.eqv_iff d e nd ne).trans hb.symm)
  rw [hq]
  exact q _ B H (Stp.refl _ _ _) ex (.bl b)
theorem od_ne {d e : D} {b : Bool} (n m : Nat) (hd : D.sh n d = true) (he : D.sh m e = true) (nd : d.nb = true) (ne : e.nb = true) (hb : b = true ↔ d = e) (hn : n ≤ 64 := by decide) (hm : m ≤ 64 := by decide) :
    OpD K (rNeD K) (.dat d) (.dat e) (.dat (.bl (!b))) := fun B H x y ex h1 h2 Q q => by
  refine ⟨d.py, e.py, Rp.dp ex h1 (D.sh_pl _ _ hd), Rp.dp ex h2 (D.sh_pl _ _ he), D.shaped hd hn, D.shaped he hm, ?_⟩
  have hq : PyData.eqv d.py e.py = b := Bool.eq_iff_iff.mpr ((D.eqv_iff d e nd ne).trans hb.symm)
  rw [hq]
  exact q _ B H (Stp.refl _ _ _) ex (.bl _)
/-- two ints, two texts, two bools: by the operators for flat values -/
def eqA (K : PySem.W.Frag) : R2 := rOr rEq (rEqD K)
def neA (K : PySem.W.Frag) : R2 := rOr rNe (rNeD K)
theorem op_eqA {X : Cx} (hu : X.A.units + 64 < cLine) : OpR X (compareOp .Eq) (eqA X.K) := op_or op_eq (op_eqD hu)
theorem op_neA {X : Cx} (hu : X.A.units + 64 < cLine) : OpR X (compareOp .NotEq) (neA X.K) := op_or op_ne (op_neD hu)
theorem od_eqI {i j : Int} : OpD K (eqA K) (.dat (.int i)) (.dat (.int j)) (.dat (.bl (decide (i = j)))) := od_l fun B H x y e h1 h2 Q q => by
  have a' : Rp K B x (.int i) := h1
  have b' : Rp K B y (.int j) := h2
  cases a'; cases b'
  have z : decide (V.int i = V.int j) = decide (i = j) := by simp
  exact ⟨rfl, by rw [z]; exact q _ B H (Stp.refl _ _ _) e (.bl _)⟩
theorem od_neI {i j : Int} : OpD K (neA K) (.dat (.int i)) (.dat (.int j)) (.dat (.bl (!decide (i = j)))) := od_l fun B H x y e h1 h2 Q q => by
  have a' : Rp K B x (.int i) := h1
  have b' : Rp K B y (.int j) := h2
  cases a'; cases b'
  have z : decide (V.int i = V.int j) = decide (i = j) := by simp
  exact ⟨rfl, by rw [z]; exact q _ B H (Stp.refl _ _ _) e (.bl _)⟩
theorem od_eqS {i j : Str} : OpD K (eqA K) (.dat (.str i)) (.dat (.str j)) (.dat (.bl (decide (i = j)))) := od_l fun B H x y e h1 h2 Q q => by
  have a' : Rp K B x (.str i) := h1
  have b' : Rp K B y (.str j) := h2
  cases a'; cases b'
  have z : decide (V.str i = V.str j) = decide (i = j) := by simp
  exact ⟨rfl, by rw [z]; exact q _ B H (Stp.refl _ _ _) e (.bl _)⟩
theorem od_neS {i j : Str} : OpD K (neA K) (.dat (.str i)) (.dat (.str j)) (.dat (.bl (!decide (i = j)))) := od_l fun B H x y e h1 h2 Q q => by
  have a' : Rp K B x (.str i) := h1
  have b' : Rp K B y (.str j) := h2
  cases a'; cases b'
  have z : decide (V.str i = V.str j) = decide (i = j) := by simp
  exact ⟨rfl, by rw [z]; exact q _ B H (Stp.refl _ _ _) e (.bl _)⟩
theorem od_eqB {i j : Bool} : OpD K (eqA K) (.dat (.bl i)) (.dat (.bl j)) (.dat (.bl (decide (i = j)))) := od_l fun B H x y e h1 h2 Q q => by
  have a' : Rp K B x (.bl i) := h1
  have b' : Rp K B y (.bl j) := h2
  cases a'; cases b'
  have z : decide (V.bl i = V.bl j) = decide (i = j) := by simp
  exact ⟨rfl, by rw [z]; exact q _ B H (Stp.refl _ _ _) e (.bl _)⟩
theorem od_neB {i j : Bool} : OpD K (neA K) (.dat (.bl i)) (.dat (.bl j)) (.dat (.bl (!decide (i = j)))) := od_l fun B H x y e h1 h2 Q q => by
  have a' : Rp K B x (.bl i) := h1
  have b' : Rp K B y (.bl j) := h2
  cases a'; cases b'
  have z : decide (V.bl i = V.bl j) = decide (i = j) := by simp
  exact ⟨rfl, by rw [z]; exact q _ B H (Stp.refl _ _ _) e (.bl _)⟩
/-- x is None -/
def D.isN : D → Bool
  | .non => true | _ => false
theorem Rp.isN {B : Hp} {v : V} {d : D} (h : Rp K B v d) : decide (v = .non) = d.isN := by
  cases h <;> simp [D.isN]
def rIsN : R2 := fun x y H Q => y = .non ∧ Q (.bl (decide (x = .non))) H
def rNotN : R2 := fun x y H Q => y = .non ∧ Q (.bl (!decide (x = .non))) H
theorem op_isN' {X : Cx} : OpR X (compareOp .Is) rIsN := op_isN
theorem op_notN' {X : Cx} : OpR X (compareOp .IsNot) rNotN := op_notN
theorem od_isN {d : D} : OpD K rIsN (.dat d) (.dat .non) (.dat (.bl d.isN)) := fun B H x y e h1 h2 Q q => by
  have b' : Rp K B y .non := h2
  cases b'
  exact ⟨rfl, by rw [Rp.isN (K := K) (B := B) (d := d) h1]; exact q _ B H (Stp.refl _ _ _) e (.bl _)⟩
theorem od_notN {d : D} : OpD K rNotN (.dat d) (.dat .non) (.dat (.bl (!d.isN))) := fun B H x y e h1 h2 Q q => by
  have b' : Rp K B y .non := h2
  cases b'
  exact ⟨rfl, by rw [Rp.isN (K := K) (B := B) (d := d) h1]; exact q _ B H (Stp.refl _ _ _) e (.bl _)⟩
/-- a text in a list of texts -/
theorem RpA.strs {B : Hp} : ∀ {vs : List V} {ss : List Str}, RpA K B vs (ss.map D.str) → vs = ss.map V.str
  | [], [], _ => rfl
  | _ :: _, [], h => by cases h
  | [], _ :: _, h => by cases h
  | _ :: _, _ :: _, .cons h r => by
    cases h
    rw [RpA.strs r]
    rfl
theorem RpA.ofStrs {B : Hp} : ∀ {ss : List Str}, RpA K B (ss.map V.str) (ss.map D.str)
  | [] => .nil
  | _ :: _ => .cons (.str _) RpA.ofStrs
theorem RpA.ofInts {B : Hp} : ∀ {ss : List Int}, RpA K B (ss.map V.int) (ss.map D.int)
  | [] => .nil
  | _ :: _ => .cons (.int _) RpA.ofInts
theorem RpA.ints {B : Hp} : ∀ {vs : List V} {ss : List Int}, RpA K B vs (ss.map D.int) → vs = ss.map V.int
  | [], [], _ => rfl
  | _ :: _, [], h => by cases h
  | [], _ :: _, h => by cases h
  | _ :: _, _ :: _, .cons h r => by
    cases h
    rw [RpA.ints r]
    rfl
theorem RpA.bools {B : Hp} : ∀ {vs : List V} {ss : List Bool}, RpA K B vs (ss.map D.bl) → vs = ss.map V.bl
  | [], [], _ => rfl
  | _ :: _, [], h => by cases h
  | [], _ :: _, h => by cases h
  | _ :: _, _ :: _, .cons h r => by
    cases h
    rw [RpA.bools r]
    rfl
theorem inV_strs (x : Str) (ss : List Str) : inV (.str x) (ss.map V.str) = decide (x ∈ ss) := by
  rw [Bool.eq_iff_iff]
  unfold inV
  rw [List.any_eq_true, decide_eq_true_eq]
  constructor
  · rintro ⟨y, hy, e⟩
    obtain ⟨z, hz, rfl⟩ := List.mem_map.mp hy
    have e' : (z == x) = true := e
    rw [← beq_iff_eq.mp e']
    exact hz
  · intro h
    exact ⟨.str x, List.mem_map.mpr ⟨x, h, rfl⟩, (show (x == x) = true from beq_iff_eq.mpr rfl)⟩
theorem flat_strs : ∀ ss : List Str, (ss.map V.str).all flatV = true
  | [] => rfl
  | _ :: ss => by rw [List.map_cons, List.all_cons, flat_strs ss]; rfl
theorem od_inS {x : Str} {ss : List Str} : OpD K (rIn K false) (.dat (.str x)) (.dat (.lst (ss.map D.str))) (.dat (.bl (decide (x ∈ ss)))) := fun B H v y e h1 h2 Q q => by
  have a' : Rp K B v (.str x) := h1
  have b' : Rp K B y (.lst (ss.map D.str)) := h2
  cases a'
  cases b' with
  | lst h r =>
    have z := RpA.strs r
    subst z
    refine ⟨_, _, rfl, .inl (.inl (.inl (e _ _ h))), rfl, flat_strs ss, ?_⟩
    rw [if_neg Bool.false_ne_true, inV_strs]
    exact q _ B H (Stp.refl _ _ _) e (.bl _)
theorem od_niS {x : Str} {ss : List Str} : OpD K (rIn K true) (.dat (.str x)) (.dat (.lst (ss.map D.str))) (.dat (.bl (!decide (x ∈ ss)))) := fun B H v y e h1 h2 Q q => by
  have a' : Rp K B v (.str x) := h1
  have b' : Rp K B y (.lst (ss.map D.str)) := h2
  cases a'
  cases b' with
  | lst h r =>
    have z := RpA.strs r
    subst z
    refine ⟨_, _, rfl, .inl (.inl (.inl (e _ _ h))), rfl, flat_strs ss, ?_⟩
    rw [if_pos rfl, inV_strs]
    exact q _ B H (Stp.refl _ _ _) e (.bl _)

/-! ### subscripts, slices -/
theorem RpA.atI {B : Hp} {vs : List V} {ds : List D} {i : Int} {d : D} (r : RpA K B vs ds) (h : L2.atI ds i = some d) : ∃ v, L2.atI vs i = some v ∧ Rp K B v d := by
  unfold L2.atI at h ⊢
  rw [r.length]
  cases e : ixN ds.length i with
  | none => rw [e] at h; cases h
  | some j =>
    rw [e] at h
    exact r.get h
theorem od_ixL {ds : List D} {i : Int} {d : D} (h : atI ds i = some d) : OpD K (rIx K) (.dat (.lst ds)) (.dat (.int i)) (.dat d) := fun B H x y e h1 h2 Q q => by
  have a' : Rp K B x (.lst ds) := h1
  have b' : Rp K B y (.int i) := h2
  cases b'
  cases a' with
  | lst h r =>
    obtain ⟨v, h3, h4⟩ := r.atI ‹L2.atI ds i = some d›
    exact .inl ⟨_, _, i, v, rfl, rfl, .inl (.inl (e _ _ h)), h3, q v B H (Stp.refl _ _ _) e h4⟩
theorem od_ixT {ds : List D} {i : Int} {d : D} (h : atI ds i = some d) : OpD K (rIx K) (.dat (.tup ds)) (.dat (.int i)) (.dat d) := fun B H x y e h1 h2 Q q => by
  have a' : Rp K B x (.tup ds) := h1
  have b' : Rp K B y (.int i) := h2
  cases b'
  cases a' with
  | tup h r =>
    obtain ⟨v, h3, h4⟩ := r.atI ‹L2.atI ds i = some d›
    exact .inr (.inl ⟨_, _, i, v, rfl, rfl, .inl (RdEx e h), h3, q v B H (Stp.refl _ _ _) e h4⟩)
theorem SqL.ex {B H : Hp} {a : Addr} {xs : List V} (e : Ex B H) (h : SqL K B a xs) : SqL K H a xs := h.elim (fun h => .inl (h.elim (fun h => .inl (e _ _ h)) fun ⟨o, h⟩ => .inr ⟨o, e _ _ h⟩)) .inr
theorem od_ixF {ds : List D} {i : Int} {d : D} (h : atI ds i = some d) : OpD K (rIx K) (.dat (.fro ds)) (.dat (.int i)) (.dat d) := fun B H x y e h1 h2 Q q => by
  have a' : Rp K B x (.fro ds) := h1
  have b' : Rp K B y (.int i) := h2
  cases b'
  cases a' with
  | fro h r =>
    obtain ⟨v, h3, h4⟩ := r.atI ‹L2.atI ds i = some d›
    exact .inl ⟨_, _, i, v, rfl, rfl, SqL.ex e h, h3, q v B H (Stp.refl _ _ _) e h4⟩
def cutD (xs : List D) (lo hi : Option Int) : List D := (xs.drop (HT.sIx xs.length 0 lo)).take (HT.sIx xs.length xs.length hi - HT.sIx xs.length 0 lo)
theorem RpA.cut {B : Hp} {vs : List V} {ds : List D} (r : RpA K B vs ds) (lo hi : Option Int) : RpA K B (cutV vs lo hi) (cutD ds lo hi) := by
  unfold cutV cutD
  rw [r.length]
  exact (r.drop _).take _
def EvO (K : PySem.W.Frag) (P : List Addr) (ss : List Sl) (cs : List (List D)) (to : TO) (o : Option Int) (cs' : List (List D)) : Prop :=
  ∀ B H σ, Okk K P ss cs B H σ → ∀ Q : Option Int → Hp → Prop, (∀ B' H', Stp P B H B' H' → Okk K P ss cs' B' H' σ → Q o H') → to σ H Q
def SlD (K : PySem.W.Frag) (f : V → Option Int → Option Int → Hp → VK → Prop) (r1 : Sl) (lo hi : Option Int) (r : Sl) : Prop :=
  ∀ B H x, Ex B H → RS K B x r1 → ∀ Q : VK, (∀ v B' H', Stp [] B H B' H' → Ex B' H' → RS K B' v r → Q v H') → f x lo hi H Q
section
variable {P : List Addr} {ss : List Sl} {cs cs1 cs2 cs3 : List (List D)} {te : TE} {r r1 : Sl}
theorem eo_none : EvO K P ss cs tNoPart none cs := fun B H σ o Q q => q B H (Stp.refl _ _ _) o
theorem eo_some {i : Int} (h : Ev K P ss cs te (.dat (.int i)) cs1) : EvO K P ss cs (tPart te) (some i) cs1 := fun B H σ o Q q =>
  h B H σ o _ fun v B1 H1 s1 o1 v1 => by
    have a' : Rp K B1 v (.int i) := v1
    cases a'
    exact ⟨i, rfl, q B1 H1 s1 o1⟩
theorem ev_sl {f : V → Option Int → Option Int → Hp → VK → Prop} {tl th : TO} {lo hi : Option Int} (h : Ev K P ss cs te r1 cs1) (hl : EvO K P ss cs1 tl lo cs2) (hh : EvO K P ss cs2 th hi cs3) (hf : SlD K f r1 lo hi r) :
    Ev K P ss cs (tSl f te tl th) r cs3 := fun B H σ o Q q =>
  h B H σ o _ fun x B1 H1 s1 o1 x1 => hl B1 H1 σ o1 _ fun B2 H2 s2 o2 => hh B2 H2 σ o2 _ fun B3 H3 s3 o3 => hf B3 H3 x o3.ex (x1.mono (s2.ex.trans s3.ex)) Q fun v B4 H4 s4 e4 v4 =>
    q v B4 H4 (((s1.trans s2).trans s3).trans s4.ofNil) (o3.step0 s4 e4) v4
end
def rSl3 (K : PySem.W.Frag) : V → Option Int → Option Int → Hp → VK → Prop := fun x lo hi H Q => rSlL K x lo hi H Q ∨ rSlA K x lo hi H Q ∨ rSlS x lo hi H Q
theorem sl_3 {X : Cx} : SlR X (rSl3 X.K) := by
  intro pins s σ H x v vl vu lo hi sl Q I rx hs pl pu h
  rcases h with h | h | h
  · exact sl_list pins s σ H x v vl vu lo hi sl Q I rx hs pl pu h
  · exact sl_tupA pins s σ H x v vl vu lo hi sl Q I rx hs pl pu h
  · exact sl_str pins s σ H x v vl vu lo hi sl Q I rx hs pl pu h
theorem sd_L {ds : List D} {lo hi : Option Int} : SlD K (rSl3 K) (.dat (.lst ds)) lo hi (.dat (.lst (cutD ds lo hi))) := fun B H x e h1 Q q => by
  have a' : Rp K B x (.lst ds) := h1
  cases a' with
  | @lst _ xs _ h r =>
    refine .inl ⟨_, _, rfl, .inl (.inl (e _ _ h)), fun p hp => ?_⟩
    have s := stp_new (o := .lst (cutV xs lo hi)) e hp
    exact q _ _ _ s e.updB (Rp.lst upd_same ((r.cut lo hi).mono s.ex))
theorem sd_T {ds : List D} {lo hi : Option Int} : SlD K (rSl3 K) (.dat (.tup ds)) lo hi (.dat (.tup (cutD ds lo hi))) := fun B H x e h1 Q q => by
  have a' : Rp K B x (.tup ds) := h1
  cases a' with
  | @tup a xs _ h r =>
    refine .inr (.inl ⟨_, xs, rfl, .inl (RdEx e h), fun w => ?_, fun _ p hp => ?_⟩)
    · have z : cutD ds lo hi = ds := by
        unfold cutD
        rw [r.length] at w
        rw [w.1, w.2, Nat.sub_zero, List.drop_zero, List.take_length]
      rw [z] at q
      exact q _ B H (Stp.refl _ _ _) e (Rp.tup h r)
    · have s := stp_new (o := .tup (cutV xs lo hi)) e hp
      exact q _ _ _ s e.updB (Rp.tup (.inl upd_same) ((r.cut lo hi).mono s.ex))
theorem sd_S {z : Str} {lo hi : Option Int} (hz : z.length ≤ 1000000) : SlD K (rSl3 K) (.dat (.str z)) lo hi (.dat (.str (cutS z lo hi))) := fun B H x e h1 Q q => by
  have a' : Rp K B x (.str z) := h1
  cases a'
  exact .inr (.inr ⟨z, rfl, le_line hz, q _ B H (Stp.refl _ _ _) e (.str _)⟩)

/-! ### calls of built-ins -/
def rLen1 (K : PySem.W.Frag) : List V → Hp → VK → Prop := fun xs H Q => ∃ x n, xs = [x] ∧ LenV K x H n ∧ Q (.int n) H
theorem call_len1 {X : Cx} : CallR X (.builtin "len") (rLen1 X.K) := call_len
theorem rs1 {B : Hp} {vs : List V} {r : Sl} (h : RSs K B vs [r]) : ∃ v, vs = [v] ∧ RS K B v r := by
  match vs, h with
  | [v], h => exact ⟨v, rfl, h.1⟩
theorem rs2 {B : Hp} {vs : List V} {r r' : Sl} (h : RSs K B vs [r, r']) : ∃ v v', vs = [v, v'] ∧ RS K B v r ∧ RS K B v' r' := by
  match vs, h with
  | [v, v'], h => exact ⟨v, v', rfl, h.1, h.2.1⟩
theorem cb_lenL {ds : List D} : CbD K (rLen1 K) [.dat (.lst ds)] (.dat (.int (ds.length : Int))) := fun B H vs e h Q q => by
  obtain ⟨v, rfl, h1⟩ := rs1 h
  have a' : Rp K B v (.lst ds) := h1
  cases a' with
  | lst h5 r => exact ⟨_, ds.length, rfl, .inl ⟨_, .inl (.inl (e _ _ h5)), r.length.symm⟩, q _ B H (Stp.refl _ _ _) e (.int _)⟩
theorem cb_lenT {ds : List D} : CbD K (rLen1 K) [.dat (.tup ds)] (.dat (.int (ds.length : Int))) := fun B H vs e h Q q => by
  obtain ⟨v, rfl, h1⟩ := rs1 h
  have a' : Rp K B v (.tup ds) := h1
  cases a' with
  | tup h5 r => exact ⟨_, ds.length, rfl, .inr ⟨_, .inl (RdEx e h5), r.length.symm⟩, q _ B H (Stp.refl _ _ _) e (.int _)⟩
theorem cb_lenF {ds : List D} : CbD K (rLen1 K) [.dat (.fro ds)] (.dat (.int (ds.length : Int))) := fun B H vs e h Q q => by
  obtain ⟨v, rfl, h1⟩ := rs1 h
  have a' : Rp K B v (.fro ds) := h1
  cases a' with
  | fro h5 r => exact ⟨_, ds.length, rfl, .inl ⟨_, SqL.ex e h5, r.length.symm⟩, q _ B H (Stp.refl _ _ _) e (.int _)⟩
theorem cb_lenS {z : Str} (hz : z.length ≤ 1000000) : CbD K (rLen1 K) [.dat (.str z)] (.dat (.int (z.length : Int))) := fun B H vs e h Q q => by
  obtain ⟨v, rfl, h1⟩ := rs1 h
  have a' : Rp K B v (.str z) := h1
  cases a'
  exact ⟨_, z.length, rfl, ⟨le_line hz, rfl⟩, q _ B H (Stp.refl _ _ _) e (.int _)⟩
def rTuple1 (K : PySem.W.Frag) : List V → Hp → VK → Prop := fun xs H Q => ∃ p ys, xs = [.ref p] ∧ ((SqL K H p ys ∧ ∀ l, H l = none → Q (.ref l) (upd H l (.tup ys))) ∨ (SqT K H p ys ∧ Q (.ref p) H))
theorem call_tuple1 {X : Cx} : CallR X (.type "tuple") (rTuple1 X.K) := call_tuple_of
theorem cb_tupleL {ds : List D} : CbD K (rTuple1 K) [.dat (.lst ds)] (.dat (.tup ds)) := fun B H vs e h Q q => by
  obtain ⟨v, rfl, h1⟩ := rs1 h
  have a' : Rp K B v (.lst ds) := h1
  cases a' with
  | @lst _ xs _ h5 r =>
    refine ⟨_, _, rfl, .inl ⟨.inl (.inl (e _ _ h5)), fun p hp => ?_⟩⟩
    have s := stp_new (o := .tup xs) e hp
    exact q _ _ _ s e.updB (Rp.tup (.inl upd_same) (r.mono s.ex))
def rList1 (K : PySem.W.Frag) : List V → Hp → VK → Prop := fun xs H Q => ∃ p ys, xs = [.ref p] ∧ (SqL K H p ys ∨ SqT K H p ys) ∧ ∀ l, H l = none → Q (.ref l) (upd H l (.lst ys))
theorem call_list1 {X : Cx} : CallR X (.type "list") (rList1 X.K) := call_list_of
/-- tuple(list), and no dict at it -/
def rTupleF (K : PySem.W.Frag) : List V → Hp → VK → Prop := fun xs H Q => ∃ p ys, xs = [.ref p] ∧ SqL K H p ys ∧ ∀ l o, H l = none → o.dict = none → Q (.ref l) (upd H l (.frz o (.tup ys)))
open PySem.Spec PyProof.Rows in
theorem call_tupleF {X : Cx} : CallR X (.type "tuple") (rTupleF X.K) := by
  intro pins s σ H xs us Q I r h
  obtain ⟨p, ys, rfl, hq, q⟩ := h
  obtain ⟨u, rfl, rx⟩ := vals1 r
  cases rx
  obtain ⟨its, r', pl, hz⟩ := I.list hq
  have hlen := r'.length
  refine call_tuple_list pl.isList (fun h' kp => ?_) (by simp only [List.size_toArray] <;> omega)
  have I1 : Inv X pins σ H { s with heap := h' } := I.kept (t' := s.toks) kp
  have I2 : Inv X pins σ (upd H h'.objs.size (.frz { cls := .type "tuple", data := .seq its.toArray } (.tup ys))) { s with heap := h'.push { cls := .type "tuple", data := .seq its.toArray } } :=
    I1.laid (t' := s.toks) (fun b o e => Heap.get?_push_of_some _ e) (Nat.le_refl _) (show ObjOk X.prog X.w _ _ _ (.frz _ (.tup ys)) from ⟨Heap.get?_push_size _ rfl, hz, its, r', IsTup.new _ _⟩)
  exact ⟨.ref h'.objs.size, _, I2, rfl, q _ _ (I1.hok.fresh (Nat.le_refl _)) rfl⟩
theorem cb_tupleF {ds : List D} : CbD K (rTupleF K) [.dat (.lst ds)] (.dat (.nt ds)) := fun B H vs e h Q q => by
  obtain ⟨v, rfl, h1⟩ := rs1 h
  have a' : Rp K B v (.lst ds) := h1
  cases a' with
  | @lst _ xs _ h5 r =>
    refine ⟨_, _, rfl, .inl (.inl (e _ _ h5)), fun p o hp ho => ?_⟩
    have s := stp_new (o := .frz o (.tup xs)) e hp
    exact q _ _ _ s e.updB (Rp.nt upd_same ho (r.mono s.ex))
theorem Rp.ntT {B : Hp} {v : V} {ds : List D} (h : Rp K B v (.nt ds)) : Rp K B v (.tup ds) := by
  cases h with
  | nt h n r => exact .tup (.inr ⟨_, h⟩) r
theorem ev_nt {P : List Addr} {ss : List Sl} {cs cs1 : List (List D)} {te : TE} {ds : List D} (h : Ev K P ss cs te (.dat (.nt ds)) cs1) : Ev K P ss cs te (.dat (.tup ds)) cs1 := fun B H σ o Q q =>
  h B H σ o Q fun v B1 H1 s1 o1 v1 => q v B1 H1 s1 o1 (Rp.ntT v1)
theorem cb_listT {ds : List D} : CbD K (rList1 K) [.dat (.tup ds)] (.dat (.lst ds)) := fun B H vs e h Q q => by
  obtain ⟨v, rfl, h1⟩ := rs1 h
  have a' : Rp K B v (.tup ds) := h1
  cases a' with
  | @tup _ xs _ h5 r =>
    refine ⟨_, _, rfl, .inr (.inl (RdEx e h5)), fun p hp => ?_⟩
    have s := stp_new (o := .lst xs) e hp
    exact q _ _ _ s e.updB (Rp.lst upd_same (r.mono s.ex))
theorem cb_listL {ds : List D} : CbD K (rList1 K) [.dat (.lst ds)] (.dat (.lst ds)) := fun B H vs e h Q q => by
  obtain ⟨v, rfl, h1⟩ := rs1 h
  have a' : Rp K B v (.lst ds) := h1
  cases a' with
  | @lst _ xs _ h5 r =>
    refine ⟨_, _, rfl, .inl (.inl (.inl (e _ _ h5))), fun p hp => ?_⟩
    have s := stp_new (o := .lst xs) e hp
    exact q _ _ _ s e.updB (Rp.lst upd_same (r.mono s.ex))
theorem cb_sum {ns : List Int} : CbD K (rSum K) [.dat (.lst (ns.map D.int))] (.dat (.int ns.sum)) := fun B H vs e h Q q => by
  obtain ⟨v, rfl, h1⟩ := rs1 h
  have a' : Rp K B v (.lst (ns.map D.int)) := h1
  cases a' with
  | lst h5 r =>
    have z := RpA.ints r
    subst z
    exact ⟨_, ns, rfl, .inl (.inl (e _ _ h5)), q _ B H (Stp.refl _ _ _) e (.int _)⟩
theorem cb_all {bs : List Bool} : CbD K (rAll K) [.dat (.lst (bs.map D.bl))] (.dat (.bl (bs.all id))) := fun B H vs e h Q q => by
  obtain ⟨v, rfl, h1⟩ := rs1 h
  have a' : Rp K B v (.lst (bs.map D.bl)) := h1
  cases a' with
  | lst h5 r =>
    have z := RpA.bools r
    subst z
    exact ⟨_, bs, rfl, .inl (.inl (e _ _ h5)), q _ B H (Stp.refl _ _ _) e (.bl _)⟩
def rAbs1 : List V → Hp → VK → Prop := fun xs H Q => ∃ i, xs = [.int i] ∧ Q (.int (if i < 0 then -i else i)) H
theorem call_abs1 {X : Cx} : CallR X (.builtin "abs") rAbs1 := call_abs
theorem cb_abs {i : Int} : CbD K rAbs1 [.dat (.int i)] (.dat (.int (if i < 0 then -i else i))) := fun B H vs e h Q q => by
  obtain ⟨v, rfl, h1⟩ := rs1 h
  have a' : Rp K B v (.int i) := h1
  cases a'
  exact ⟨i, rfl, q _ B H (Stp.refl _ _ _) e (.int _)⟩
def rMax2' : List V → Hp → VK → Prop := fun xs H Q => ∃ i j, xs = [.int i, .int j] ∧ Q (.int (if j > i then j else i)) H
def rMin2' : List V → Hp → VK → Prop := fun xs H Q => ∃ i j, xs = [.int i, .int j] ∧ Q (.int (if j < i then j else i)) H
theorem call_max2' {X : Cx} (hc : X.calm = true) : CallR X (.builtin "max") rMax2' := call_max2 hc
theorem call_min2' {X : Cx} (hc : X.calm = true) : CallR X (.builtin "min") rMin2' := call_min2 hc
theorem cb_max2 {i j : Int} : CbD K rMax2' [.dat (.int i), .dat (.int j)] (.dat (.int (if j > i then j else i))) := fun B H vs e h Q q => by
  obtain ⟨v, v', rfl, h1, h2⟩ := rs2 h
  have a' : Rp K B v (.int i) := h1
  have b' : Rp K B v' (.int j) := h2
  cases a'; cases b'
  exact ⟨i, j, rfl, q _ B H (Stp.refl _ _ _) e (.int _)⟩
theorem cb_min2 {i j : Int} : CbD K rMin2' [.dat (.int i), .dat (.int j)] (.dat (.int (if j < i then j else i))) := fun B H vs e h Q q => by
  obtain ⟨v, v', rfl, h1, h2⟩ := rs2 h
  have a' : Rp K B v (.int i) := h1
  have b' : Rp K B v' (.int j) := h2
  cases a'; cases b'
  exact ⟨i, j, rfl, q _ B H (Stp.refl _ _ _) e (.int _)⟩
def rInt1 : List V → Hp → VK → Prop := fun xs H Q => (∃ i, xs = [.int i] ∧ Q (.int i) H) ∨ ∃ k, xs = [.bl k] ∧ Q (.int (if k then 1 else 0)) H
theorem call_int1' {X : Cx} : CallR X (.type "int") rInt1 := call_int1
theorem cb_int {i : Int} : CbD K rInt1 [.dat (.int i)] (.dat (.int i)) := fun B H vs e h Q q => by
  obtain ⟨v, rfl, h1⟩ := rs1 h
  have a' : Rp K B v (.int i) := h1
  cases a'
  exact .inl ⟨i, rfl, q _ B H (Stp.refl _ _ _) e (.int _)⟩
theorem cb_intB {k : Bool} : CbD K rInt1 [.dat (.bl k)] (.dat (.int (if k then 1 else 0))) := fun B H vs e h Q q => by
  obtain ⟨v, rfl, h1⟩ := rs1 h
  have a' : Rp K B v (.bl k) := h1
  cases a'
  exact .inr ⟨k, rfl, q _ B H (Stp.refl _ _ _) e (.int _)⟩
end DV
/-! DV3: walks, loops, comprehensions over plain data. -/
namespace DV
open PySem L2
variable {K : PySem.W.Frag}

/-! ### what is walked -/
/-- J yields values that read as the items of ds, one by one -/
def Walks (K : PySem.W.Frag) (B1 : Hp) (J : It) (ds : List D) : Prop := ∀ (i : Nat) B H, Ex B1 B → Ex B H →
  (∀ d, ds[i]? = some d → J.go i H ∧ ∀ x H', J.yld i H x H' → ∃ B', Stp [] B H B' H' ∧ Ex B' H' ∧ Rp K B' x d) ∧ (ds.length ≤ i → J.stop i H)
def WD (K : PySem.W.Frag) (P : List Addr) (ss : List Sl) (cs : List (List D)) (wi : TI) (ds : List D) (cs' : List (List D)) : Prop :=
  ∀ B H σ, Okk K P ss cs B H σ → ∀ R : It → Hp → Prop, (∀ J B1 H1, Stp P B H B1 H1 → Okk K P ss cs' B1 H1 σ → Walks K B1 J ds → R J H1) → wi σ H R
section
variable {P : List Addr} {ss : List Sl} {cs cs1 : List (List D)} {te : TE} {ta : TA} {ds es : List D}
theorem wk_seqL {B1 : Hp} {a : Addr} {xs : List V} (h : ∀ H, Ex B1 H → SqL K H a xs) (r : RpA K B1 xs ds) : Walks K B1 (Itl K a) ds := fun i B H e1 e2 => by
  have q := h H (e1.trans e2)
  refine ⟨fun d hd => ?_, fun hl => ⟨xs, q, by rw [r.length]; exact hl⟩⟩
  obtain ⟨v, h1, h2⟩ := r.get hd
  refine ⟨⟨xs, v, q, h1⟩, fun x H' y => ?_⟩
  obtain ⟨rfl, f⟩ := y
  have e := f xs q
  rw [h1] at e
  cases e
  exact ⟨B, Stp.refl _ _ _, e2, h2.mono e1⟩
theorem wd_lst (h : Ev K P ss cs te (.dat (.lst ds)) cs1) : WD K P ss cs (iList K te) ds cs1 := fun B H σ o R q =>
  h B H σ o _ fun v B1 H1 s1 o1 v1 => by
    have a' : Rp K B1 v (.lst ds) := v1
    cases a' with
    | lst h5 r => exact ⟨_, rfl, ⟨_, .inl (.inl (o1.ex _ _ h5))⟩, q _ B1 H1 s1 o1 (wk_seqL (fun H e => .inl (.inl (e _ _ h5))) r)⟩
theorem wd_tup (h : Ev K P ss cs te (.dat (.tup ds)) cs1) : WD K P ss cs (iTup K te) ds cs1 := fun B H σ o R q =>
  h B H σ o _ fun v B1 H1 s1 o1 v1 => by
    have a' : Rp K B1 v (.tup ds) := v1
    cases a' with
    | @tup a xs _ h5 r =>
      refine ⟨_, rfl, ⟨_, .inl (RdEx o1.ex h5)⟩, q _ B1 H1 s1 o1 fun i B2 H2 e1 e2 => ?_⟩
      have z : SqT K H2 a xs := .inl (RdEx e2 (RdEx e1 h5))
      refine ⟨fun d hd => ?_, fun hl => ⟨xs, z, by rw [r.length]; exact hl⟩⟩
      obtain ⟨v, h1, h2⟩ := r.get hd
      refine ⟨⟨xs, v, z, h1⟩, fun x H' y => ?_⟩
      obtain ⟨rfl, f⟩ := y
      have e := f xs z
      rw [h1] at e
      cases e
      exact ⟨B2, Stp.refl _ _ _, e2, h2.mono e1⟩
def rangeD (lo : Int) (n : Nat) : List D := (List.range n).map fun i => D.int (lo + (i : Nat))
theorem rangeD_get {lo : Int} {n i : Nat} {d : D} (h : (rangeD lo n)[i]? = some d) : i < n ∧ d = .int (lo + (i : Nat)) := by
  unfold rangeD at h
  rw [List.getElem?_map] at h
  by_cases hi : i < n
  · rw [List.getElem?_range hi] at h
    exact ⟨hi, (Option.some.inj h).symm⟩
  · rw [List.getElem?_eq_none (by rw [List.length_range]; omega)] at h
    cases h
theorem rangeD_len {lo : Int} {n : Nat} : (rangeD lo n).length = n := by simp [rangeD]
theorem wk_rng {B1 : Hp} {lo : Int} {n : Nat} : Walks K B1 (Itr lo n) (rangeD lo n) := fun i B H e1 e2 => by
  refine ⟨fun d hd => ?_, fun hl => by rw [rangeD_len] at hl; exact hl⟩
  obtain ⟨hi, rfl⟩ := rangeD_get hd
  refine ⟨hi, fun x H' y => ?_⟩
  obtain ⟨rfl, rfl⟩ := y
  exact ⟨B, Stp.refl _ _ _, e2, .int _⟩
theorem wd_rng1 {n : Int} (h : EvA K P ss cs ta [.dat (.int n)] cs1) (hn : n ≤ 1000000 ∧ -1000000 ≤ n) : WD K P ss cs (iRng1 ta) (rangeD 0 n.toNat) cs1 := fun B H σ o R q =>
  h B H σ o _ fun vs B1 H1 s1 o1 r1 => by
    obtain ⟨v, rfl, h1⟩ := rs1 r1
    have a' : Rp K B1 v (.int n) := h1
    cases a'
    exact ⟨n, rfl, by omega, by omega, q _ B1 H1 s1 o1 wk_rng⟩
theorem wd_rng2 {m n : Int} (h : EvA K P ss cs ta [.dat (.int m), .dat (.int n)] cs1) (hn : n ≤ 1000000 ∧ -1000000 ≤ n) (hm : m ≤ 1000000 ∧ -1000000 ≤ m) : WD K P ss cs (iRng2 ta) (rangeD m (n - m).toNat) cs1 := fun B H σ o R q =>
  h B H σ o _ fun vs B1 H1 s1 o1 r1 => by
    obtain ⟨v, v', rfl, h1, h2⟩ := rs2 r1
    have a' : Rp K B1 v (.int m) := h1
    have b' : Rp K B1 v' (.int n) := h2
    cases a'; cases b'
    exact ⟨m, n, rfl, ⟨by omega, by omega, by omega, by omega⟩, q _ B1 H1 s1 o1 wk_rng⟩
def enumD (ds : List D) : List D := (ds.zipIdx 0).map fun p => D.tup [.int (p.2 : Nat), p.1]
theorem enumD_get {i : Nat} {d : D} (h : (enumD ds)[i]? = some d) : ∃ e, ds[i]? = some e ∧ d = .tup [.int (i : Nat), e] := by
  unfold enumD at h
  rw [List.getElem?_map, List.getElem?_zipIdx] at h
  cases e : ds[i]? with
  | none => rw [e] at h; cases h
  | some x =>
    rw [e] at h
    refine ⟨x, rfl, ?_⟩
    have h' := Option.some.inj h
    rw [← h']
    simp
theorem enumD_len : (enumD ds).length = ds.length := by simp [enumD]
theorem wd_enum (h : EvA K P ss cs ta [.dat (.lst ds)] cs1) : WD K P ss cs (iEnum K ta) (enumD ds) cs1 := fun B H σ o R q =>
  h B H σ o _ fun vs B1 H1 s1 o1 r1 => by
    obtain ⟨v, rfl, h1⟩ := rs1 r1
    have a' : Rp K B1 v (.lst ds) := h1
    cases a' with
    | @lst a xs _ h5 r =>
      refine ⟨_, xs, rfl, .inl (.inl (o1.ex _ _ h5)), q _ B1 H1 s1 o1 fun i B2 H2 e1 e2 => ?_⟩
      have z : SqL K H2 a xs := .inl (.inl (e2 _ _ (e1 _ _ h5)))
      refine ⟨fun d hd => ?_, fun hl => ⟨xs, z, by rw [r.length]; rw [enumD_len] at hl; exact hl⟩⟩
      obtain ⟨e, he, rfl⟩ := enumD_get hd
      obtain ⟨v, h1, h2⟩ := r.get he
      refine ⟨⟨xs, v, z, h1⟩, fun x H' y => ?_⟩
      obtain ⟨T, x', rfl, hT, rfl, f⟩ := y
      have e := f xs z
      rw [h1] at e
      cases e
      have s := stp_new (o := .tup [.int (i : Nat), v]) e2 hT
      exact ⟨_, s, e2.updB, .tup (.inl upd_same) (.cons (.int _) (.cons (h2.mono (e1.trans s.ex)) .nil))⟩
def zipD (ds es : List D) : List D := List.zipWith (fun d e => D.tup [d, e]) ds es
theorem zipD_get {i : Nat} {d : D} (h : (zipD ds es)[i]? = some d) : ∃ x y, ds[i]? = some x ∧ es[i]? = some y ∧ d = .tup [x, y] := by
  unfold zipD at h
  rw [List.getElem?_zipWith] at h
  cases e1 : ds[i]? with
  | none => rw [e1] at h; simp at h
  | some x =>
    cases e2 : es[i]? with
    | none => rw [e1, e2] at h; simp at h
    | some y =>
      rw [e1, e2] at h
      exact ⟨x, y, rfl, rfl, (Option.some.inj h).symm⟩
theorem wd_zipLL (h : EvA K P ss cs ta [.dat (.lst ds), .dat (.lst es)] cs1) : WD K P ss cs (RZ.iZipA K ta) (zipD ds es) cs1 := fun B H σ o R q =>
  h B H σ o _ fun vs B1 H1 s1 o1 r1 => by
    obtain ⟨v, v', rfl, h1, h2⟩ := rs2 r1
    have a' : Rp K B1 v (.lst ds) := h1
    have b' : Rp K B1 v' (.lst es) := h2
    cases a' with
    | @lst a xs _ h5 r => cases b' with
      | @lst b ys _ h6 r' =>
        refine ⟨_, _, xs, ys, rfl, .inl ⟨.inl (.inl (o1.ex _ _ h5)), .inl (.inl (o1.ex _ _ h6)), q _ B1 H1 s1 o1 fun i B2 H2 e1 e2 => ?_⟩⟩
        have z : SqL K H2 a xs := .inl (.inl (e2 _ _ (e1 _ _ h5)))
        have z' : SqL K H2 b ys := .inl (.inl (e2 _ _ (e1 _ _ h6)))
        refine ⟨fun d hd => ?_, fun hl => ⟨xs, ys, z, z', ?_⟩⟩
        · obtain ⟨e, e', he, he', rfl⟩ := zipD_get hd
          obtain ⟨v, h1, h2⟩ := r.get he
          obtain ⟨v', h1', h2'⟩ := r'.get he'
          refine ⟨⟨xs, ys, v, v', z, z', h1, h1'⟩, fun x H' y => ?_⟩
          obtain ⟨T, x', y', rfl, hT, rfl, f, f'⟩ := y
          have q1 := f xs z
          have q2 := f' ys z'
          rw [h1] at q1; rw [h1'] at q2
          cases q1; cases q2
          have s := stp_new (o := .tup [v, v']) e2 hT
          exact ⟨_, s, e2.updB, .tup (.inl upd_same) (.cons (h2.mono (e1.trans s.ex)) (.cons (h2'.mono (e1.trans s.ex)) .nil))⟩
        · rw [r.length, r'.length]
          have : (zipD ds es).length = min ds.length es.length := by simp [zipD]
          rw [this] at hl
          omega
theorem wd_zipTT (h : EvA K P ss cs ta [.dat (.tup ds), .dat (.tup es)] cs1) : WD K P ss cs (RZ.iZipA K ta) (zipD ds es) cs1 := fun B H σ o R q =>
  h B H σ o _ fun vs B1 H1 s1 o1 r1 => by
    obtain ⟨v, v', rfl, h1, h2⟩ := rs2 r1
    have a' : Rp K B1 v (.tup ds) := h1
    have b' : Rp K B1 v' (.tup es) := h2
    cases a' with
    | @tup a xs _ h5 r => cases b' with
      | @tup b ys _ h6 r' =>
        refine ⟨_, _, xs, ys, rfl, .inr ⟨.inl (RdEx o1.ex h5), .inl (RdEx o1.ex h6), q _ B1 H1 s1 o1 fun i B2 H2 e1 e2 => ?_⟩⟩
        have z : SqT K H2 a xs := .inl (RdEx e2 (RdEx e1 h5))
        have z' : SqT K H2 b ys := .inl (RdEx e2 (RdEx e1 h6))
        refine ⟨fun d hd => ?_, fun hl => ⟨xs, ys, z, z', ?_⟩⟩
        · obtain ⟨e, e', he, he', rfl⟩ := zipD_get hd
          obtain ⟨v, h1, h2⟩ := r.get he
          obtain ⟨v', h1', h2'⟩ := r'.get he'
          refine ⟨⟨xs, ys, v, v', z, z', h1, h1'⟩, fun x H' y => ?_⟩
          obtain ⟨T, x', y', rfl, hT, rfl, f, f'⟩ := y
          have q1 := f xs z
          have q2 := f' ys z'
          rw [h1] at q1; rw [h1'] at q2
          cases q1; cases q2
          have s := stp_new (o := .tup [v, v']) e2 hT
          exact ⟨_, s, e2.updB, .tup (.inl upd_same) (.cons (h2.mono (e1.trans s.ex)) (.cons (h2'.mono (e1.trans s.ex)) .nil))⟩
        · rw [r.length, r'.length]
          have : (zipD ds es).length = min ds.length es.length := by simp [zipD]
          rw [this] at hl
          omega
end

/-! ### for -/
theorem Sta.base {P : List Addr} {B0 H0 B1 H1 H : Hp} {ss : List Sl} {cs : List (List D)} {σ : L2.St} (h : Sta K P B1 H1 ss cs σ H) (s : Stp P B0 H0 B1 H1) : Sta K P B0 H0 ss cs σ H := by
  obtain ⟨B, s1, o⟩ := h
  exact ⟨B, s.trans s1, o⟩
theorem Done.base {P : List Addr} {B0 H0 B1 H1 : Hp} {r : Sl} {cs : List (List D)} {Q : VK} (h : Done K P B0 H0 r cs Q) (s : Stp P B0 H0 B1 H1) : Done K P B1 H1 r cs Q := fun v B' H' s1 e m x => h v B' H' (s.trans s1) e m x
/-- what holds between two turns: z is what the loop has gathered -/
def Turn' (K : PySem.W.Frag) {α : Type} (P : List Addr) (B1 H1 : Hp) (J : Nat → α → Prop) (S : Nat → α → List Sl) (C : Nat → α → List (List D)) (i : Nat) (σ : L2.St) (H : Hp) : Prop := ∃ z, J i z ∧ Sta K P B1 H1 (S i z) (C i z) σ H
theorem st_for {α : Type} {P : List Addr} {B0 H0 H : Hp} {ss : List Sl} {cs cs1 : List (List D)} {σ : L2.St} {D : Ends} {wi : TI} {g : TG} {tb : TS} {ds : List DV.D} (h : Sta K P B0 H0 ss cs σ H) (hw : WD K P ss cs wi ds cs1)
    (J : Nat → α → Prop) (S : Nat → α → List Sl) (C : Nat → α → List (List DV.D)) (z0 : α) (j0 : J 0 z0) (l0 : LeS ss (S 0 z0)) (c0 : cs1 = C 0 z0)
    (hs : ∀ B1 H1, Stp P B0 H0 B1 H1 → ∀ i d z, ds[i]? = some d → J i z → ∃ G W, GR K (S i z) g d G W ∧
      ∀ σ' H', Sta K P B1 H1 G (C i z) σ' H' → tb { D with nx := Turn' K P B1 H1 J S C (i + 1), ct := Turn' K P B1 H1 J S C (i + 1), bk := D.nx } σ' H')
    (hd : ∀ z σ' H', J ds.length z → Sta K P B0 H0 (S ds.length z) (C ds.length z) σ' H' → D.nx σ' H') : tFor wi g tb D σ H := by
  obtain ⟨B, s, o⟩ := h
  refine hw B H σ o _ fun It B1 H1 s1 o1 wk => ?_
  have sB : Stp P B0 H0 B1 H1 := s.trans s1
  refine ⟨fun i m σ H => m = ds.length - i ∧ i ≤ ds.length ∧ Turn' K P B1 H1 J S C i σ H, ⟨ds.length, by simp, Nat.zero_le _, z0, j0, B1, Stp.refl _ _ _, ?_⟩, ?_⟩
  · rw [← c0]
    exact ⟨o1.ex, o1.sl.le l0, o1.mu⟩
  rintro i m σ' H' ⟨rfl, hi, z, jz, hst⟩
  obtain ⟨B2, s2, o2⟩ := id hst
  obtain ⟨w1, w2⟩ := wk i B2 H' s2.ex o2.ex
  by_cases hlt : i < ds.length
  · have hd' : ds[i]? = some ds[i] := List.getElem?_eq_getElem hlt
    obtain ⟨go, yl⟩ := w1 _ hd'
    obtain ⟨G, W, hg, body⟩ := hs B1 H1 sB i _ z hd' jz
    refine .inr ⟨go, Turn' K P B1 H1 J S C (i + 1), fun σ3 H3 q => ⟨ds.length - (i + 1), by omega, rfl, hlt, q⟩, fun x H3 y => ?_⟩
    obtain ⟨B3, s3, e3, x3⟩ := yl x H3 y
    have o3 := o2.step0 s3 e3
    exact hg B3 H3 σ' x o3.ex o3.sl x3 _ fun σ4 s4 _ => body σ4 H3 ⟨B3, s2.trans s3.ofNil, o3.ex, s4, o3.mu⟩
  · have e : i = ds.length := by omega
    subst e
    exact .inl ⟨w2 (Nat.le_refl _), hd z σ' H' jz (hst.base sB)⟩

/-! ### comprehensions -/
/-- a new list, and nothing else holds it -/
def EvF (K : PySem.W.Frag) (P : List Addr) (ss : List Sl) (cs : List (List D)) (te : TE) (ds : List D) (cs' : List (List D)) : Prop :=
  ∀ B H σ, Okk K P ss cs B H σ → ∀ Q : VK, (∀ p vs B' H', H p = none → Stp P B H B' H' → Okk K P ss cs' B' H' σ → H' p = some (.lst vs) → B' p = none → RpA K B' vs ds → Q (.ref p) H') → te σ H Q
section
variable {P : List Addr} {ss : List Sl} {cs cs1 : List (List D)} {te : TE} {ds : List D}
theorem EvF.ev (h : EvF K P ss cs te ds cs1) : Ev K P ss cs te (.dat (.lst ds)) cs1 := fun B H σ o Q q =>
  h B H σ o Q fun p vs B1 H1 hp s1 o1 hv hB r => by
    have eB : Ex B1 (upd B1 p (.lst vs)) := Ex.new hB
    refine q _ (upd B1 p (.lst vs)) H1 ⟨s1.ex.trans eB, s1.fr, fun b u e => ?_, s1.dm⟩ ⟨fun b u e => ?_, o1.sl.mono eB, o1.mu.keep eB (fun _ _ => rfl) fun x hx => ?_⟩ (Rp.lst upd_same (r.mono eB))
    · rw [upd_ne (ne_of_none e hp)]
      exact s1.nb b u e
    · by_cases hb : b = p
      · subst hb; rw [upd_same] at e; cases e; exact hv
      · rw [upd_ne hb] at e; exact o1.ex b u e
    · obtain ⟨u, h1, h2⟩ := o.mu.mem hx
      have hne : x ≠ p := fun z => by rw [z, hp] at h1; cases h1
      rw [upd_ne hne]
      exact (o1.mu.mem hx).choose_spec.2
/-- x = [..], x will change -/
theorem st_asgF {B0 H0 H : Hp} {σ : L2.St} {D : Ends} {i : Nat} (h : Sta K P B0 H0 ss cs σ H) (he : EvF K P ss cs te ds cs1) (k : ∀ p σ' H', H0 p = none → p ∉ P → Sta K (p :: P) B0 H0 (ss.set i (.val (.ref p))) (ds :: cs1) σ' H' → D.nx σ' H') :
    tAsg te (gName i) D σ H := by
  obtain ⟨B, s, o⟩ := h
  refine he B H σ o _ fun p vs B1 H1 hp s1 o1 hv hB r => ?_
  have hp0 : H0 p = none := by
    cases e : H0 p with
    | none => rfl
    | some u =>
      obtain ⟨u', h'⟩ := s.dm p u e
      rw [hp] at h'; cases h'
  have hpP : p ∉ P := fun z => by
    obtain ⟨u, h1, _⟩ := o.mu.mem z
    rw [hp] at h1; cases h1
  have s2 := s.trans s1
  exact k p _ _ hp0 hpP ⟨B1, s2.mono fun x hx => List.mem_cons_of_mem _ hx, o1.ex, o1.sl.set rfl, ⟨⟨vs, hv, r⟩, hB, hpP, o1.mu⟩⟩
/-- the comprehension: out i what is made behind i items, C i the other lists -/
theorem ef_lc {wi : TI} {g : TG} {tt : TT} {vs : List Nat} {es : List D} (hw : WD K P ss cs wi es cs1) (out : Nat → List D) (C : Nat → List (List D)) (o0 : out 0 = []) (c0 : C 0 = cs1) (hz : es.length ≤ 1000000)
    (hs : ∀ p i d, p ∉ P → es[i]? = some d → (out i).length ≤ i ∧ ∃ G W b, GR K (wipeS ss vs) g d G W ∧ (∀ k ∈ W, k ∈ vs) ∧ EvT K (p :: P) G (out i :: C i) tt b (out i :: C i) ∧
      (b = true → ∃ e, Ev K (p :: P) G (out i :: C i) te (.dat e) (out i :: C (i + 1)) ∧ out (i + 1) = out i ++ [e]) ∧ (b = false → out (i + 1) = out i ∧ C (i + 1) = C i)) :
    EvF K P ss cs (tLc wi g tt te vs) (out es.length) (C es.length) := fun B H σ o Q q => by
  refine hw B H σ o _ fun It B1 H1 s1 o1 wk Dp hDp => ?_
  have hDP : Dp ∉ P := fun z => by
    obtain ⟨u, h1, _⟩ := o1.mu.mem z
    rw [hDp] at h1; cases h1
  have hD0 : H Dp = none := by
    cases e : H Dp with
    | none => rfl
    | some u =>
      obtain ⟨u', h'⟩ := s1.dm Dp u e
      rw [hDp] at h'; cases h'
  -- between two turns
  let I : Nat → Hp → Prop := fun i H' => ∃ B', Stp (Dp :: P) B1 H1 B' H' ∧ Okk K (Dp :: P) ss (out i :: C i) B' H' σ
  have i0 : I 0 (upd H1 Dp (.lst [])) := by
    refine ⟨B1, ⟨Ex.refl _, fun b u n e => ?_, fun _ _ _ => rfl, fun b u e => ⟨u, Ex.new hDp b u e⟩⟩, fun b u e => Ex.new hDp b u (o1.ex b u e), o1.sl, ⟨⟨[], upd_same, by rw [o0]; exact .nil⟩, o1.ex.free hDp, hDP, ?_⟩⟩
    · rw [upd_ne (fun (z : b = Dp) => n (z ▸ List.mem_cons_self))]; exact e
    · rw [c0]
      exact o1.mu.keep (Ex.refl _) (fun x hx => upd_ne fun (z : x = Dp) => hDP (z ▸ hx)) fun x hx => (o1.mu.mem hx).choose_spec.2
  refine ⟨fun i m H' => m = es.length - i ∧ i ≤ es.length ∧ I i H', ⟨es.length, by simp, Nat.zero_le _, i0⟩, ?_⟩
  rintro i m H' ⟨rfl, hi, B2, s2, o2⟩
  obtain ⟨w1, w2⟩ := wk i B2 H' s2.ex o2.ex
  by_cases hlt : i < es.length
  · have hd' : es[i]? = some es[i] := List.getElem?_eq_getElem hlt
    obtain ⟨go, yl⟩ := w1 _ hd'
    obtain ⟨hol, G, W, b, hg, hW, htt, hyes, hno⟩ := hs Dp i _ hDP hd'
    refine .inr ⟨go, I (i + 1), fun H3 q => ⟨es.length - (i + 1), by omega, rfl, hlt, q⟩, fun x H3 y => ?_⟩
    obtain ⟨B3, s3, e3, x3⟩ := yl x H3 y
    have o3 := o2.step0 s3 e3
    refine hg B3 H3 (wipe σ vs) x o3.ex (o3.sl.wipe vs) x3 _ fun σ4 s4 on => ⟨on.wipe hW, ?_⟩
    refine htt B3 H3 σ4 ⟨o3.ex, s4, o3.mu⟩ _ fun B5 H5 s5 o5 => ?_
    have s35 : Stp (Dp :: P) B2 H' B5 H5 := s3.ofNil.trans s5
    have s15 := s2.trans s35
    cases b with
    | true =>
      obtain ⟨e, hev, ho⟩ := hyes rfl
      show te σ4 H5 _
      refine hev B5 H5 σ4 o5 _ fun v B6 H6 s6 o6 v6 => ?_
      obtain ⟨⟨ws, hw6, r6⟩, hB6, hn6, m6⟩ := o6.mu
      have s16 := s15.trans s6
      refine ⟨ws, hw6, lt_line (by rw [r6.length]; omega), B6, ⟨s16.ex, fun c u n ec => ?_, s16.nb, fun c u ec => ?_⟩, fun c u ec => ?_, ?_, ⟨⟨ws ++ [v], upd_same, by rw [ho]; exact r6.append (.cons v6 .nil)⟩, hB6, hn6, ?_⟩⟩
      · rw [upd_ne (fun (z : c = Dp) => n (z ▸ List.mem_cons_self))]
        exact s16.fr c u n ec
      · obtain ⟨u', h'⟩ := s16.dm c u ec
        by_cases hc : c = Dp
        · subst hc; exact ⟨_, upd_same⟩
        · exact ⟨u', by rw [upd_ne hc]; exact h'⟩
      · rw [upd_ne (fun (z : c = Dp) => by rw [z, hB6] at ec; cases ec)]
        exact o6.ex c u ec
      · exact o2.sl.mono (s35.trans s6).ex
      · exact m6.keep (Ex.refl _) (fun x hx => upd_ne fun (z : x = Dp) => hn6 (z ▸ hx)) fun x hx => (m6.mem hx).choose_spec.2
    | false =>
      obtain ⟨ho, hc⟩ := hno rfl
      show I (i + 1) H5
      refine ⟨B5, s15, o5.ex, o2.sl.mono s35.ex, ?_⟩
      rw [ho, hc]
      exact o5.mu
  · have e : i = es.length := by omega
    subst e
    obtain ⟨⟨ws, hw2, r2⟩, hB2, hn2, m2⟩ := o2.mu
    refine .inl ⟨w2 (Nat.le_refl _), q Dp ws B2 H' hD0 (s1.trans ⟨s2.ex, fun b u n eb => ?_, s2.nb, s2.dm⟩) ⟨o2.ex, o2.sl, m2⟩ hw2 hB2 r2⟩
    exact s2.fr b u (fun z => by
      rcases List.mem_cons.mp z with z | z
      · rw [z, hDp] at eb; cases eb
      · exact n z) eb
/-- [f(x) for x in ..] -/
theorem ef_map {wi : TI} {g : TG} {vs : List Nat} {es : List D} (hw : WD K P ss cs wi es cs1) (f : D → D) (hz : es.length ≤ 1000000)
    (hs : ∀ (p : Addr) (i : Nat) (d : D) (acc : List D), es[i]? = some d → ∃ G W, GR K (wipeS ss vs) g d G W ∧ (∀ k ∈ W, k ∈ vs) ∧ Ev K (p :: P) G (acc :: cs1) te (.dat (f d)) (acc :: cs1)) :
    EvF K P ss cs (tLc wi g tYes te vs) (es.map f) cs1 := by
  have h := ef_lc (tt := tYes) (te := te) (g := g) (vs := vs) hw (fun i => (es.take i).map f) (fun _ => cs1) rfl rfl hz (fun p i d hp hd => by
    obtain ⟨G, W, hg, hW, he⟩ := hs p i d ((es.take i).map f) hd
    have hi : i < es.length := (List.getElem?_eq_some_iff.mp hd).1
    refine ⟨by rw [List.length_map, List.length_take]; omega, G, W, true, hg, hW, fun B H σ o Q q => q B H (Stp.refl _ _ _) o, fun _ => ⟨f d, he, ?_⟩, fun z => by cases z⟩
    show (es.take (i + 1)).map f = (es.take i).map f ++ [f d]
    rw [List.take_add_one, hd, List.map_append]
    rfl)
  rw [List.take_length] at h
  exact h
/-- [f(x) for x in .. if t(x)] -/
theorem ef_filter {wi : TI} {g : TG} {tt : TT} {vs : List Nat} {es : List D} (hw : WD K P ss cs wi es cs1) (f : D → D) (t : D → Bool) (hz : es.length ≤ 1000000)
    (hs : ∀ (p : Addr) (i : Nat) (d : D) (acc : List D), es[i]? = some d → ∃ G W, GR K (wipeS ss vs) g d G W ∧ (∀ k ∈ W, k ∈ vs) ∧ EvT K (p :: P) G (acc :: cs1) tt (t d) (acc :: cs1) ∧ (t d = true → Ev K (p :: P) G (acc :: cs1) te (.dat (f d)) (acc :: cs1))) :
    EvF K P ss cs (tLc wi g tt te vs) ((es.filter t).map f) cs1 := by
  have h := ef_lc (tt := tt) (te := te) (g := g) (vs := vs) hw (fun i => ((es.take i).filter t).map f) (fun _ => cs1) rfl rfl hz (fun p i d hp hd => by
    obtain ⟨G, W, hg, hW, ht, he⟩ := hs p i d (((es.take i).filter t).map f) hd
    have hi : i < es.length := (List.getElem?_eq_some_iff.mp hd).1
    refine ⟨by
      rw [List.length_map]
      refine Nat.le_trans (List.length_filter_le _ _) ?_
      rw [List.length_take]; omega, G, W, t d, hg, hW, ht, fun z => ⟨f d, he z, ?_⟩, fun z => ⟨?_, rfl⟩⟩
    · show ((es.take (i + 1)).filter t).map f = ((es.take i).filter t).map f ++ [f d]
      rw [List.take_add_one, hd, List.filter_append, List.map_append]
      simp [z]
    · show ((es.take (i + 1)).filter t).map f = ((es.take i).filter t).map f
      rw [List.take_add_one, hd, List.filter_append]
      simp [z])
  rw [List.take_length] at h
  exact h
/-- the same over a list that is told otherwise -/
theorem ef_mapE {β : Type} {wi : TI} {g : TG} {vs : List Nat} {l : List β} {enc : β → D} (hw : WD K P ss cs wi (l.map enc) cs1) (f : β → D) (hz : l.length ≤ 1000000)
    (hs : ∀ (p : Addr) (i : Nat) (x : β) (acc : List D), l[i]? = some x → ∃ G W, GR K (wipeS ss vs) g (enc x) G W ∧ (∀ k ∈ W, k ∈ vs) ∧ Ev K (p :: P) G (acc :: cs1) te (.dat (f x)) (acc :: cs1)) :
    EvF K P ss cs (tLc wi g tYes te vs) (l.map f) cs1 := by
  have h := ef_lc (tt := tYes) (te := te) (g := g) (vs := vs) hw (fun i => (l.take i).map f) (fun _ => cs1) rfl rfl (by rw [List.length_map]; exact hz) (fun p i d hp hd => by
    rw [List.getElem?_map] at hd
    cases hx : l[i]? with
    | none => rw [hx] at hd; cases hd
    | some x =>
      rw [hx] at hd
      have e : enc x = d := Option.some.inj hd
      subst e
      obtain ⟨G, W, hg, hW, he⟩ := hs p i x ((l.take i).map f) hx
      have hi : i < l.length := (List.getElem?_eq_some_iff.mp hx).1
      refine ⟨by rw [List.length_map, List.length_take]; omega, G, W, true, hg, hW, fun B H σ o Q q => q B H (Stp.refl _ _ _) o, fun _ => ⟨f x, he, ?_⟩, fun z => by cases z⟩
      show (l.take (i + 1)).map f = (l.take i).map f ++ [f x]
      rw [List.take_add_one, hx, List.map_append]
      rfl)
  simp only [List.length_map, List.take_length] at h
  exact h
theorem ef_filterE {β : Type} {wi : TI} {g : TG} {tt : TT} {vs : List Nat} {l : List β} {enc : β → D} (hw : WD K P ss cs wi (l.map enc) cs1) (f : β → D) (t : β → Bool) (hz : l.length ≤ 1000000)
    (hs : ∀ (p : Addr) (i : Nat) (x : β) (acc : List D), l[i]? = some x → ∃ G W, GR K (wipeS ss vs) g (enc x) G W ∧ (∀ k ∈ W, k ∈ vs) ∧ EvT K (p :: P) G (acc :: cs1) tt (t x) (acc :: cs1) ∧ (t x = true → Ev K (p :: P) G (acc :: cs1) te (.dat (f x)) (acc :: cs1))) :
    EvF K P ss cs (tLc wi g tt te vs) ((l.filter t).map f) cs1 := by
  have h := ef_lc (tt := tt) (te := te) (g := g) (vs := vs) hw (fun i => ((l.take i).filter t).map f) (fun _ => cs1) rfl rfl (by rw [List.length_map]; exact hz) (fun p i d hp hd => by
    rw [List.getElem?_map] at hd
    cases hx : l[i]? with
    | none => rw [hx] at hd; cases hd
    | some x =>
      rw [hx] at hd
      have e : enc x = d := Option.some.inj hd
      subst e
      obtain ⟨G, W, hg, hW, ht, he⟩ := hs p i x (((l.take i).filter t).map f) hx
      refine ⟨by
        rw [List.length_map]
        refine Nat.le_trans (List.length_filter_le _ _) ?_
        rw [List.length_take]; omega, G, W, t x, hg, hW, ht, fun z => ⟨f x, he z, ?_⟩, fun z => ⟨?_, rfl⟩⟩
      · show ((l.take (i + 1)).filter t).map f = ((l.take i).filter t).map f ++ [f x]
        rw [List.take_add_one, hx, List.filter_append, List.map_append]
        simp [z]
      · show ((l.take (i + 1)).filter t).map f = ((l.take i).filter t).map f
        rw [List.take_add_one, hx, List.filter_append]
        simp [z])
  simp only [List.length_map, List.take_length] at h
  exact h
end

/-! ### append, extend -/
section
variable {P : List Addr} {B0 H0 H : Hp} {ss : List Sl} {cs cs1 : List (List D)} {σ : L2.St} {D : Ends} {te : TE}
theorem Okk.putL {P : List Addr} {ss : List Sl} {cs : List (List DV.D)} {B H : Hp} {σ : L2.St} {j : Nat} {p : Addr} {ws : List V} {es : List DV.D} (o : Okk K P ss cs B H σ) (hP : P[j]? = some p) (hB : B p = none) (hr : RpA K B ws es) :
    Okk K P ss (cs.set j es) B (upd H p (.lst ws)) σ ∧ Stp P B H B (upd H p (.lst ws)) := by
  have hm : p ∈ P := List.mem_of_getElem? hP
  refine ⟨⟨fun b u e => ?_, o.sl, o.mu.put (Ex.refl _) upd_same hr hP (fun x _ hne => upd_ne hne) fun x hx => (o.mu.mem hx).choose_spec.2⟩, ⟨Ex.refl _, fun b u n e => ?_, fun _ _ _ => rfl, fun b u e => ?_⟩⟩
  · rw [upd_ne (fun (z : b = p) => by rw [z, hB] at e; cases e)]
    exact o.ex b u e
  · rw [upd_ne (fun (z : b = p) => n (z ▸ hm))]
    exact e
  · by_cases hb : b = p
    · subst hb; exact ⟨_, upd_same⟩
    · exact ⟨u, by rw [upd_ne hb]; exact e⟩
theorem st_app {i j : Nat} {p : Addr} {ds : List DV.D} {d : DV.D} (h : Sta K P B0 H0 ss cs σ H) (hi : ss[i]? = some (.val (.ref p))) (he : Ev K P ss cs te (.dat d) cs1) (hP : P[j]? = some p) (hc0 : ∃ ds0, cs[j]? = some ds0) (hc : cs1[j]? = some ds)
    (hz : ds.length ≤ 1000000) (k : ∀ H', Sta K P B0 H0 ss (cs1.set j (ds ++ [d])) σ H' → D.nx σ H') : tDrop (tBM K "list" rAppend (tVar i) (tCons te tNil)) D σ H := by
  obtain ⟨B, s, o⟩ := h
  obtain ⟨ds0, hc0⟩ := hc0
  obtain ⟨⟨vs0, hv0, _⟩, _⟩ := o.mu.get hP hc0
  obtain ⟨w, hw, ew⟩ := o.sl.get i _ hi (by intro z; cases z)
  have ew' : w = .ref p := ew
  subst ew'
  refine ⟨.ref p, hw, .inl ⟨rfl, vs0, .inl (.inl hv0)⟩, ?_⟩
  refine he B H σ o _ fun v B1 H1 s1 o1 v1 => ?_
  obtain ⟨⟨vs, hv, rv⟩, hB⟩ := o1.mu.get hP hc
  obtain ⟨o2, s2⟩ := o1.putL hP hB (rv.append (.cons v1 .nil))
  exact ⟨p, vs, v, rfl, rfl, hv, lt_line (by rw [rv.length]; exact hz), k _ ⟨B1, (s.trans s1).trans s2, o2⟩⟩
theorem st_ext {i j : Nat} {p : Addr} {ds es : List DV.D} (h : Sta K P B0 H0 ss cs σ H) (hi : ss[i]? = some (.val (.ref p))) (he : Ev K P ss cs te (.dat (.lst es)) cs1) (hP : P[j]? = some p) (hc0 : ∃ ds0, cs[j]? = some ds0) (hc : cs1[j]? = some ds)
    (hz : ds.length + es.length ≤ 1000000) (k : ∀ H', Sta K P B0 H0 ss (cs1.set j (ds ++ es)) σ H' → D.nx σ H') : tDrop (tBM K "list" rExtend (tVar i) (tCons te tNil)) D σ H := by
  obtain ⟨B, s, o⟩ := h
  obtain ⟨ds0, hc0⟩ := hc0
  obtain ⟨⟨vs0, hv0, _⟩, _⟩ := o.mu.get hP hc0
  obtain ⟨w, hw, ew⟩ := o.sl.get i _ hi (by intro z; cases z)
  have ew' : w = .ref p := ew
  subst ew'
  refine ⟨.ref p, hw, .inl ⟨rfl, vs0, .inl (.inl hv0)⟩, ?_⟩
  refine he B H σ o _ fun v B1 H1 s1 o1 v1 => ?_
  have a' : Rp K B1 v (.lst es) := v1
  cases a' with
  | @lst b xs _ h5 r =>
    obtain ⟨⟨vs, hv, rv⟩, hB⟩ := o1.mu.get hP hc
    obtain ⟨o2, s2⟩ := o1.putL hP hB (rv.append r)
    exact ⟨p, b, vs, xs, rfl, rfl, hv, o1.ex _ _ h5, le_line (by rw [rv.length, r.length]; exact hz), k _ ⟨B1, (s.trans s1).trans s2, o2⟩⟩
/-- xs[k] = e -/
theorem st_setL {i j m : Nat} {p : Addr} {ds : List DV.D} {d : DV.D} {cs2 : List (List DV.D)} {ti : TE} (h : Sta K P B0 H0 ss cs σ H) (hi : ss[i]? = some (.val (.ref p))) (he : Ev K P ss cs te (.dat d) cs1) (hix : Ev K P ss cs1 ti (.dat (.int (m : Nat))) cs2) (hP : P[j]? = some p) (hc : cs2[j]? = some ds)
    (hm : m < ds.length) (k : ∀ H', Sta K P B0 H0 ss (cs2.set j (ds.set m d)) σ H' → D.nx σ H') : tAsg te (gSub (tVar i) ti rSetL) D σ H := by
  obtain ⟨B, s, o⟩ := h
  refine he B H σ o _ fun v B1 H1 s1 o1 v1 => ?_
  obtain ⟨w, hw, ew⟩ := o1.sl.get i _ hi (by intro z; cases z)
  have ew' : w = .ref p := ew
  subst ew'
  refine ⟨.ref p, hw, ?_⟩
  refine hix B1 H1 σ o1 _ fun u B2 H2 s2 o2 u2 => ?_
  have b' : Rp K B2 u (.int (m : Nat)) := u2
  cases b'
  obtain ⟨⟨vs, hv, rv⟩, hB⟩ := o2.mu.get hP hc
  obtain ⟨o3, s3⟩ := o2.putL hP hB (rv.set (v1.mono s2.ex) m)
  refine ⟨p, vs, _, m, rfl, rfl, hv, ?_, k _ ⟨B2, ((s.trans s1).trans s2).trans s3, o3⟩⟩
  unfold ixN
  rw [rv.length, if_pos (by omega), if_pos (by omega)]
  simp
end

/-! ### a list that may change, read -/
section
variable {P : List Addr} {ss : List Sl} {cs cs1 : List (List D)} {te : TE}
theorem ev_ixM {i j : Nat} {p : Addr} {ds : List D} {m : Int} {d : D} (hi : ss[i]? = some (.val (.ref p))) (he : Ev K P ss cs te (.dat (.int m)) cs1) (hP : P[j]? = some p) (hc : cs1[j]? = some ds) (hm : atI ds m = some d) :
    Ev K P ss cs (tOp (rIx K) (tVar i) te) (.dat d) cs1 := fun B H σ o Q q => by
  obtain ⟨w, hw, ew⟩ := o.sl.get i _ hi (by intro z; cases z)
  have ew' : w = .ref p := ew
  subst ew'
  refine ⟨.ref p, hw, he B H σ o _ fun u B2 H2 s2 o2 u2 => ?_⟩
  have b' : Rp K B2 u (.int m) := u2
  cases b'
  obtain ⟨⟨vs, hv, rv⟩, hB⟩ := o2.mu.get hP hc
  obtain ⟨v, h1, h2⟩ := rv.atI hm
  exact .inl ⟨p, vs, m, v, rfl, rfl, .inl (.inl hv), h1, q v B2 H2 s2 o2 h2⟩
theorem ev_lenM {i j : Nat} {p : Addr} {ds : List D} (hi : ss[i]? = some (.val (.ref p))) (hP : P[j]? = some p) (hc : cs[j]? = some ds) : Ev K P ss cs (tCB (rLen1 K) (tCons (tVar i) tNil)) (.dat (.int (ds.length : Int))) cs := fun B H σ o Q q => by
  obtain ⟨w, hw, ew⟩ := o.sl.get i _ hi (by intro z; cases z)
  have ew' : w = .ref p := ew
  subst ew'
  obtain ⟨⟨vs, hv, rv⟩, hB⟩ := o.mu.get hP hc
  exact ⟨.ref p, hw, .ref p, ds.length, rfl, .inl ⟨vs, .inl (.inl hv), rv.length.symm⟩, q _ B H (Stp.refl _ _ _) o (.int _)⟩
end

/-! ### fields, methods of texts, dicts, f-strings, truth -/
section
variable {P : List Addr} {ss : List Sl} {cs cs1 cs2 : List (List D)} {te tk : TE}
theorem ev_fld {C : Addr} {fs : List (Str × D)} {f : Str} {d : D} (h : Ev K P ss cs te (.dat (.obj C fs)) cs1) (hc : Cls K C) (hn : NoAttr K C f) (hl : fs.lookup f = some d) : Ev K P ss cs (tFld K te f) (.dat d) cs1 := fun B H σ o Q q =>
  h B H σ o _ fun v B1 H1 s1 o1 v1 => by
    have a' : Rp K B1 v (.obj C fs) := v1
    cases a' with
    | obj h5 r =>
      obtain ⟨w, h1, h2⟩ := r.lookup hl
      exact ⟨_, C, _, _, w, rfl, o1.ex _ _ h5, hc, hn, h1, q w B1 H1 s1 o1 h2⟩
theorem ev_m0 {rr : V → List V → Hp → VK → Prop} {a : Str} {d : D} (h : Ev K P ss cs te (.dat (.str a)) cs1) (hr : ∀ H (Q : VK), (∀ v, Rp K (fun _ => none) v d → Q v H) → rr (.str a) [] H Q) (hd : d.flat = true := by rfl) : Ev K P ss cs (tM0 rr te) (.dat d) cs1 := fun B H σ o Q q =>
  h B H σ o _ fun v B1 H1 s1 o1 v1 => by
    have a' : Rp K B1 v (.str a) := v1
    cases a'
    exact ⟨⟨a, rfl⟩, hr H1 Q fun w hw => q w B1 H1 s1 o1 (hw.flatAny hd)⟩
/-- x.split(sep) -/
theorem ev_split {a b : Str} (h : Ev K P ss cs te (.dat (.str a)) cs1) (hk : Ev K P ss cs1 tk (.dat (.str b)) cs2) (hb : (b.length == 0) = false) (ha : a.length + 2 ≤ 1000000) :
    EvF K P ss cs (tM1 (fun x xs H Q => ∃ a b, x = .str a ∧ xs = [.str b] ∧ (b.length == 0) = false ∧ a.length + 2 ≤ sizeLine ∧ rNewStrs (Txt.split a b) H Q) te tk) ((Txt.split a b).map D.str) cs2 := fun B H σ o Q q =>
  h B H σ o _ fun v B1 H1 s1 o1 v1 => by
    have a' : Rp K B1 v (.str a) := v1
    cases a'
    refine ⟨⟨a, rfl⟩, hk B1 H1 σ o1 _ fun u B2 H2 s2 o2 u2 => ?_⟩
    have b' : Rp K B2 u (.str b) := u2
    cases b'
    refine ⟨a, b, rfl, rfl, hb, le_line ha, fun p hp => ?_⟩
    have s12 := s1.trans s2
    have hp0 : H p = none := by
      cases e : H p with
      | none => rfl
      | some u => obtain ⟨u', h'⟩ := s12.dm p u e; rw [hp] at h'; cases h'
    have hpP : p ∉ P := fun z => by obtain ⟨u, h1, _⟩ := o2.mu.mem z; rw [hp] at h1; cases h1
    refine q p _ B2 _ hp0 (s12.trans ⟨Ex.refl _, fun b u _ e => Ex.new hp b u e, fun _ _ _ => rfl, fun b u e => ⟨u, Ex.new hp b u e⟩⟩) ⟨fun b u e => Ex.new hp b u (o2.ex b u e), o2.sl, o2.mu.keep (Ex.refl _) (fun x hx => upd_ne fun (z : x = p) => hpP (z ▸ hx)) fun x hx => (o2.mu.mem hx).choose_spec.2⟩ upd_same (o2.ex.free hp) RpA.ofStrs
theorem ev_join {a : Str} {ys : List Str} (h : Ev K P ss cs te (.dat (.str a)) cs1) (hk : Ev K P ss cs1 tk (.dat (.lst (ys.map D.str))) cs2) (hz : (ys.map (·.length)).sum + ys.length * a.length ≤ 1000000) :
    Ev K P ss cs (tM1 (fun x xs H Q => ∃ a p, ∃ ys : List Str, x = .str a ∧ xs = [.ref p] ∧ (SqL K H p (ys.map V.str) ∨ SqT K H p (ys.map V.str)) ∧ (ys.map (·.length)).sum + ys.length * a.length ≤ 16777216 ∧ Q (.str (Txt.join a ys)) H) te tk) (.dat (.str (Txt.join a ys))) cs2 := fun B H σ o Q q =>
  h B H σ o _ fun v B1 H1 s1 o1 v1 => by
    have a' : Rp K B1 v (.str a) := v1
    cases a'
    refine ⟨⟨a, rfl⟩, hk B1 H1 σ o1 _ fun u B2 H2 s2 o2 u2 => ?_⟩
    have b' : Rp K B2 u (.lst (ys.map D.str)) := u2
    cases b' with
    | lst h5 r =>
      have z := RpA.strs r
      subst z
      exact ⟨a, _, ys, rfl, rfl, .inl (.inl (.inl (o2.ex _ _ h5))), by omega, q _ B2 H2 (s1.trans s2) o2 (.str _)⟩
def valD (ks : List (Key × D)) (k : Key) : Option D := (ks.find? fun kv => decide (kv.1 = k)).map (·.2)
theorem RpK.val {B : Hp} {k : Key} : ∀ {vs : List (Key × V)} {ds : List (Key × D)} {d : D}, RpK K B vs ds → valD ds k = some d → ∃ v, valV vs k = some v ∧ Rp K B v d
  | _, _, _, .nil, e => by simp [valD] at e
  | _, _ :: ds, d, .cons (k := k') h r, e => by
    by_cases hk : k' = k
    · subst hk
      simp [valD] at e
      subst e
      exact ⟨_, by simp [valV], h⟩
    · have e' : valD ds k = some d := by simpa [valD, List.find?_cons, hk] using e
      obtain ⟨v, h1, h2⟩ := RpK.val r e'
      exact ⟨v, by simpa [valV, List.find?_cons, hk] using h1, h2⟩
theorem ev_dgetS {ks : List (Key × D)} {s : Str} {d : D} (h : Ev K P ss cs te (.dat (.dic ks)) cs1) (hk : Ev K P ss cs1 tk (.dat (.str s)) cs2) (hv : valD ks (.inr s) = some d) : Ev K P ss cs (tDGet te tk) (.dat d) cs2 := fun B H σ o Q q =>
  h B H σ o _ fun v B1 H1 s1 o1 v1 => hk B1 H1 σ o1 _ fun u B2 H2 s2 o2 u2 => by
    have a' : Rp K B2 v (.dic ks) := Rp.mono s2.ex v1
    have b' : Rp K B2 u (.str s) := u2
    cases b'
    cases a' with
    | @dic a kvs _ h5 r =>
      obtain ⟨w, h1, h2⟩ := r.val hv
      exact ⟨_, w, rfl, .inl ⟨kvs, .inr s, .inl (o2.ex _ _ h5), rfl, h1.symm⟩, q w B2 H2 (s1.trans s2) o2 h2⟩
/-- f-strings -/
def EvJ (K : PySem.W.Frag) (P : List Addr) (ss : List Sl) (cs : List (List D)) (ts : List TE) (acc out : Str) : Prop :=
  ∀ B H σ, Okk K P ss cs B H σ → ∀ Q : Str → Hp → Prop, (∀ B' H', Stp P B H B' H' → Okk K P ss cs B' H' σ → Q out H') → tJs ts acc σ H Q
theorem ej_nil {acc : Str} : EvJ K P ss cs [] acc acc := fun B H σ o Q q => q B H (Stp.refl _ _ _) o
theorem ej_cons {ts : List TE} {acc y out : Str} (h : Ev K P ss cs te (.dat (.str y)) cs) (hz : (acc ++ y).length ≤ 1000000) (hr : EvJ K P ss cs ts (acc ++ y) out) : EvJ K P ss cs (te :: ts) acc out := fun B H σ o Q q =>
  h B H σ o _ fun v B1 H1 s1 o1 v1 => by
    have a' : Rp K B1 v (.str y) := v1
    cases a'
    exact ⟨y, rfl, le_line hz, hr B1 H1 σ o1 Q fun B2 H2 s2 o2 => q B2 H2 (s1.trans s2) o2⟩
theorem ev_joined {ts : List TE} {out : Str} (h : EvJ K P ss cs ts Str.empty out) : Ev K P ss cs (fun σ H Q => tJs ts Str.empty σ H fun out H1 => Q (.str out) H1) (.dat (.str out)) cs := fun B H σ o Q q =>
  h B H σ o _ fun B1 H1 s1 o1 => q _ B1 H1 s1 o1 (Rp.str out)
theorem ev_fmt {y : Str} (h : Ev K P ss cs te (.dat (.str y)) cs1) (hz : y.length ≤ 1000000) : Ev K P ss cs (tFmt te) (.dat (.str y)) cs1 := fun B H σ o Q q =>
  h B H σ o _ fun v B1 H1 s1 o1 v1 => by
    have a' : Rp K B1 v (.str y) := v1
    cases a'
    exact .inl ⟨y, rfl, le_line hz, q _ B1 H1 s1 o1 (Rp.str y)⟩
theorem et_truL {ds : List D} (h : Ev K P ss cs te (.dat (.lst ds)) cs1) : EvT K P ss cs (fun σ H Q => te σ H fun x H' => ∃ k, TruV K x H' k ∧ Q k H') (!ds.isEmpty) cs1 := fun B H σ o Q q =>
  h B H σ o _ fun v B1 H1 s1 o1 v1 => by
    have a' : Rp K B1 v (.lst ds) := v1
    cases a' with
    | @lst a xs _ h5 r =>
      refine ⟨!ds.isEmpty, .inl ⟨xs, .inl (.inl (o1.ex _ _ h5)), ?_⟩, q B1 H1 s1 o1⟩
      cases r <;> rfl
/-- a < b < c over ints -/
theorem ev_chain {p p' : Int → Int → Bool} {i j k : Int} {ta tb tc : TE} {cs3 : List (List D)} (ha : Ev K P ss cs ta (.dat (.int i)) cs) (hb : Ev K P ss cs tb (.dat (.int j)) cs) (hc : p i j = true → Ev K P ss cs tc (.dat (.int k)) cs) :
    Ev K P ss cs (tChain (rI0 fun i j => .bl (p i j)) (rI0 fun i j => .bl (p' i j)) ta tb tc) (.dat (.bl (p i j && p' j k))) cs := fun B H σ o Q q =>
  ha B H σ o _ fun x B1 H1 s1 o1 x1 => hb B1 H1 σ o1 _ fun y B2 H2 s2 o2 y2 => by
    have a' : Rp K B1 x (.int i) := x1
    have b' : Rp K B2 y (.int j) := y2
    cases a'; cases b'
    refine ⟨i, j, rfl, rfl, p i j, rfl, ?_⟩
    cases hp : p i j with
    | false =>
      rw [hp] at q
      rw [if_neg Bool.false_ne_true]
      exact q _ B2 H2 (s1.trans s2) o2 (Rp.bl _)
    | true =>
      rw [hp] at q
      rw [if_pos rfl]
      refine hc hp B2 H2 σ o2 _ fun z B3 H3 s3 o3 z3 => ?_
      have c' : Rp K B3 z (.int k) := z3
      cases c'
      exact ⟨j, k, rfl, rfl, q _ B3 H3 ((s1.trans s2).trans s3) o3 (Rp.bl _)⟩
end

/-! ### a def's body -/
theorem sta_start {B H : Hp} {vs : List V} {rs : List Sl} {P : List Addr} {cs : List (List D)} {N : List Str} (e : Ex B H) (r : RSs K B vs rs) (m : Mu K B H P cs) : Sta K P B H (rs ++ List.replicate (N.length - rs.length) .any) cs (L2.start N vs) H := by
  refine ⟨B, Stp.refl _ _ _, e, ⟨?_, fun i q hq hn => ?_⟩, m⟩
  · unfold L2.start
    rw [List.length_append, List.length_append, List.length_map, List.length_replicate, List.length_replicate, r.length]
  · by_cases hi : i < rs.length
    · rw [List.getElem?_append_left hi] at hq
      have hv : i < vs.length := by rw [r.length]; exact hi
      have gen : ∀ (vs : List V) (rs : List Sl) (i : Nat), RSs K B vs rs → rs[i]? = some q → ∃ v, vs[i]? = some v ∧ RS K B v q := by
        intro vs
        induction vs with
        | nil => intro rs i h hq; cases rs with | nil => simp at hq | cons _ _ => exact h.elim
        | cons v vs ih =>
          intro rs i h hq
          cases rs with
          | nil => exact h.elim
          | cons r rs =>
            cases i with
            | zero => simp at hq; subst hq; exact ⟨v, rfl, h.1⟩
            | succ i => exact ih rs i h.2 (by simpa using hq)
      obtain ⟨v, h1, h2⟩ := gen vs rs i r hq
      refine ⟨v, ?_, h2⟩
      unfold L2.start
      rw [List.getElem?_append_left (by rw [List.length_map]; exact hv), List.getElem?_map, h1]
      rfl
    · rw [List.getElem?_append_right (by omega)] at hq
      rw [List.getElem?_replicate] at hq
      split at hq
      · exact absurd (Option.some.inj hq).symm hn
      · cases hq
end DV
/-! DV4: defs by their relation. -/
namespace DV
open PySem L2
/-- a def of the module, and what it promises -/
structure Def (P : Program) (w : World) (K : PySem.W.Frag) (mg : Str → Option Value) (base : Heap) (k : Nat) (x : Str) (f : Addr) (fd : FuncData) (ps : List Str) (sp : Sp) : Prop where
  ok : FnOk P w K mg base CX0 k f fd ps sp
  g : mg x = some (.ref f)
  kp : PySem.W.keepIn K (.ref f) = true
  b : Binds K fd ps []
theorem pe_def {X : Cx} {k j : Nat} {x : Str} {f : Addr} {fd : FuncData} {ps : List Str} {sp : Sp} {p pos : Pos} {e : Expr} {es : List Expr} {t : TA} (d : Def X.prog X.w X.K X.mg X.base k x f fd ps sp) (hr : Room j X.A) (hk : k ≤ j) (hg : Gl X x) (ha : PA X (e :: es) t)
    (hdb : (x == ("__debug__" : Str)) = false := by decide) (he : starEach (e :: es) X.env = (false, eval e X.env) :: starEach es X.env := by rfl) (hpl : (backTo pos (starEach es X.env)).any (·.1) = false := by rfl) :
    PE X (.Call (.Name x p) (e :: es) [] pos) (tCall sp [] E0 t) := pe_call d.ok (hr.mono hk) hg d.g d.kp d.b .nil pass0 ha hdb he hpl
/-- a def's body, by the slots' data -/
theorem spM_len {pre : Pre} {n : Nat} {K : PySem.W.Frag} (h : ∀ rs P cs r cs', pre rs P cs r cs' → rs.length = n) : ∀ vs H Q E, spM K pre vs H Q E → vs.length = n := fun vs H Q E z => by
  obtain ⟨B, rs, P, cs, r, cs', hp, _, hr, _⟩ := z
  rw [hr.length]
  exact h _ _ _ _ _ hp
theorem ok_body {P : Program} {w : World} {K : PySem.W.Frag} {mg : Str → Option Value} {base : Heap} {x qual : Str} {st : Stmt} {f : Addr} {fd : FuncData} {N ps : List Str} {k : Nat} {pre : Pre} (F : Fun K x qual st f fd) (S : FnScope N ps (defScope st))
    (len : ∀ rs P cs r cs', pre rs P cs r cs' → rs.length = ps.length)
    (hb : ∀ X : Cx, ∀ (hX : ∃ (cdv : Value) (A : Around) (outer : List Env) (s : Shared) (H : Hp) (E : XK), X = (cxOf CX0 P w K mg base N qual (defScope st) f cdv A outer s H E).nox), Room k X.A → ∃ t, PSs X (defBody st) t ∧
      ∀ rs Pl cs r cs', pre rs Pl cs r cs' → ∀ B0 H0 σ (D : Ends), Sta K Pl B0 H0 (rs ++ List.replicate (N.length - rs.length) .any) cs σ H0 → (∀ p ∈ Pl, ∃ o, H0 p = some o) → Done K Pl B0 H0 r cs' D.rt → (r = .dat .non → ∀ ss σ' H', Sta K Pl B0 H0 ss cs' σ' H' → D.nx σ' H') → t D σ H0) :
    FnOk P w K mg base CX0 (k + 1) f fd ps (spM K pre) := by
  refine F.ok S (spM_len len) (fun cdv A outer s H vs Q E hr h => ?_)
  obtain ⟨t, h1, h2⟩ := hb _ ⟨cdv, A, outer, s, H, E, rfl⟩ hr
  obtain ⟨B, rs, Pl, cs, r, cs', hp, e, hrs, mu, q⟩ := h
  refine ⟨t, h1, h2 rs Pl cs r cs' hp B H _ _ (sta_start e hrs mu) (fun p hm => (mu.mem hm).imp fun _ z => z.1) q (fun hr' ss' σ' H' st => ?_)⟩
  obtain ⟨B', s', o'⟩ := st
  subst hr'
  exact q .non B' H' s' o'.ex o'.mu .non
theorem st_next {D : Ends} {σ : L2.St} {H : Hp} (h : D.nx σ H) : tNext D σ H := h
theorem st_seq {D : Ends} {t u : TS} {σ : L2.St} {H : Hp} (h : t { D with nx := u D } σ H) : tSeq t u D σ H := h
theorem st_ns {D : Ends} {t u : TS} {σ : L2.St} {H : Hp} (h : t { D with nx := u D } σ H) : tNext { D with nx := tSeq t u D } σ H := h
theorem for_of {wi : TI} {g : TG} {tb : TS} {D : Ends} {σ : L2.St} {H : Hp} (h : wi σ H fun J H1 => ∃ W : Nat → Nat → L2.St → Hp → Prop, (∃ m, W 0 m σ H1) ∧ ∀ i m σ H, W i m σ H →
    (J.stop i H ∧ D.nx σ H) ∨ (J.go i H ∧ ∃ N : L2.St → Hp → Prop, (∀ σ' H', N σ' H' → ∃ m', m' < m ∧ W (i + 1) m' σ' H') ∧ ∀ x H', J.yld i H x H' → g x σ H' fun σ2 H2 => tb { D with nx := N, ct := N, bk := D.nx } σ2 H2)) : tFor wi g tb D σ H := h
theorem st_raw0 {D : Ends} {i : Nat} {σ : L2.St} {H : Hp} (k : ∀ p, H p = none → D.nx (σ.set i (some (.ref p))) (upd H p (.lst []))) : tAsg (tLst tNil) (gName i) D σ H := ⟨Nat.zero_le _, fun p hp => k p hp⟩
end DV
/-! PM: texts of schemas, in plain Lean. -/
namespace PM
open PySem L2
abbrev Col := Str × Option Str
abbrev Tab := Str × List Col

/-! ### signs -/
abbrev nl : Str := "\n"
abbrev sp : Str := " "
theorem nl_is : nl = ⟨#[10]⟩ := by decide +kernel
theorem sp_is : sp = ⟨#[32]⟩ := by decide +kernel
def free (c : Nat) (x : Str) : Prop := c ∉ x.cps.toList
instance (c : Nat) (x : Str) : Decidable (free c x) := inferInstanceAs (Decidable (¬ c ∈ x.cps.toList))
def fineB (w : Str) : Bool := decide (1 ≤ w.length) && decide (w.length ≤ 8) && w.cps.toList.all fun c => decide (97 ≤ c) && decide (c ≤ 122)

/-! ### joining and splitting -/
theorem join_nil (c : Str) : Txt.join c [] = Str.empty := rfl
theorem join_one (c x : Str) : Txt.join c [x] = x := rfl
theorem join_cons (c x y : Str) (r : List Str) : Txt.join c (x :: y :: r) = x ++ c ++ Txt.join c (y :: r) := by
  show Builtin.Str.glued c (x :: y :: r) = x ++ c ++ Builtin.Str.glued c (y :: r)
  rw [StrLaws.glued_eq_join, StrLaws.glued_eq_join]
  rfl
theorem lst_eq {a b : Str} (h : a.cps.toList = b.cps.toList) : a = b := Str.ext' (Array.toList_inj.mp h)
theorem app_list (a b : Str) : (a ++ b).cps.toList = a.cps.toList ++ b.cps.toList := by rw [Str.cps_append, Array.toList_append]
/-- what stands between two cuts is told -/
theorem cut_uniq {α : Type} [DecidableEq α] (c : α) : ∀ {a a' b b' : List α}, c ∉ a → c ∉ a' → a ++ c :: b = a' ++ c :: b' → a = a' ∧ b = b'
  | [], [], b, b', _, _, h => ⟨rfl, by simpa using h⟩
  | [], x :: a', _, _, _, h', h => by
    have e : c = x := by simpa using (List.cons.inj h).1
    exact absurd (by rw [e]; exact List.mem_cons_self) h'
  | x :: a, [], _, _, h', _, h => by
    have e : x = c := by simpa using (List.cons.inj h).1
    exact absurd (by rw [e]; exact List.mem_cons_self) h'
  | x :: a, y :: a', b, b', h1, h2, h => by
    obtain ⟨e1, e2⟩ := List.cons.inj h
    obtain ⟨e3, e4⟩ := cut_uniq c (fun z => h1 (List.mem_cons_of_mem _ z)) (fun z => h2 (List.mem_cons_of_mem _ z)) e2
    exact ⟨by rw [e1, e3], e4⟩
theorem join_list (k : Nat) (x y : Str) (r : List Str) : (Txt.join ⟨#[k]⟩ (x :: y :: r)).cps.toList = x.cps.toList ++ k :: (Txt.join ⟨#[k]⟩ (y :: r)).cps.toList := by
  rw [join_cons, app_list, app_list]
  simp
theorem free_join (k : Nat) : ∀ {ls : List Str} {x : Str}, x.cps.toList = (Txt.join ⟨#[k]⟩ ls).cps.toList → free k x → (∀ l ∈ ls, free k l) → ls.length ≤ 1
  | [], _, _, _, _ => Nat.zero_le _
  | [_], _, _, _, _ => Nat.le_refl _
  | y :: z :: r, x, h, hx, _ => by
    rw [join_list] at h
    exact absurd (by rw [h]; simp) hx
theorem join_inj (k : Nat) : ∀ {ls ms : List Str}, ls ≠ [] → ms ≠ [] → (∀ l ∈ ls, free k l) → (∀ l ∈ ms, free k l) → Txt.join ⟨#[k]⟩ ls = Txt.join ⟨#[k]⟩ ms → ls = ms
  | [], _, h, _, _, _, _ => absurd rfl h
  | _, [], _, h, _, _, _ => absurd rfl h
  | [x], [y], _, _, _, _, h => by
    have e : x = y := h
    rw [e]
  | [x], y :: z :: r, _, _, hx, _, h => by
    have e : x.cps.toList = (Txt.join ⟨#[k]⟩ (y :: z :: r)).cps.toList := by rw [← h]; rfl
    rw [join_list] at e
    exact absurd (by rw [e]; simp) (hx x List.mem_cons_self)
  | x :: w :: r, [y], _, _, _, hy, h => by
    have e : y.cps.toList = (Txt.join ⟨#[k]⟩ (x :: w :: r)).cps.toList := by rw [h]; rfl
    rw [join_list] at e
    exact absurd (by rw [e]; simp) (hy y List.mem_cons_self)
  | x :: w :: r, y :: z :: r', _, _, hx, hy, h => by
    have e : (Txt.join ⟨#[k]⟩ (x :: w :: r)).cps.toList = (Txt.join ⟨#[k]⟩ (y :: z :: r')).cps.toList := by rw [h]
    rw [join_list, join_list] at e
    obtain ⟨e1, e2⟩ := cut_uniq k (hx x List.mem_cons_self) (hy y List.mem_cons_self) e
    have i := join_inj k (List.cons_ne_nil w r) (List.cons_ne_nil z r') (fun l hl => hx l (List.mem_cons_of_mem _ hl)) (fun l hl => hy l (List.mem_cons_of_mem _ hl)) (lst_eq e2)
    rw [lst_eq e1, i]
theorem split_join (k : Nat) {ls : List Str} (h : ls ≠ []) (hf : ∀ l ∈ ls, free k l) : Txt.split (Txt.join ⟨#[k]⟩ ls) ⟨#[k]⟩ = ls := by
  refine join_inj k (fun z => ?_) h (StrLaws.split_free _ k) hf (by
    have e := StrLaws.join_split (Txt.join ⟨#[k]⟩ ls) ⟨#[k]⟩
    rw [← StrLaws.glued_eq_join] at e
    exact e)
  have := PyProof.Rows.split_pos (Txt.join ⟨#[k]⟩ ls) ⟨#[k]⟩
  rw [z] at this
  exact absurd this (by decide)

/-! ### names -/
def isName (w : Str) : Bool := decide ((w.length : Int) ≤ 8) && (Txt.isascii w && (Txt.isalpha w && Txt.islower w))
theorem low_alpha : ∀ c : Fin 128, (97 ≤ c.val ∧ c.val ≤ 122) → Unicode.isAlpha c.val = true ∧ Unicode.isLower c.val = true ∧ Unicode.isUpper c.val = false ∧ Unicode.isTitle c.val = false := by decide +kernel
theorem alpha_low : ∀ c : Fin 128, Unicode.isAlpha c.val = true → Unicode.isUpper c.val = false → (97 ≤ c.val ∧ c.val ≤ 122) := by decide +kernel
theorem fine_sign {w : Str} (h : fineB w = true) : ∀ c ∈ w.cps.toList, 97 ≤ c ∧ c ≤ 122 := by
  unfold fineB at h
  simp only [Bool.and_eq_true, List.all_eq_true, decide_eq_true_eq] at h
  exact h.2
theorem fine_len {w : Str} (h : fineB w = true) : 1 ≤ w.length ∧ w.length ≤ 8 := by
  unfold fineB at h
  simp only [Bool.and_eq_true, decide_eq_true_eq] at h
  exact h.1
theorem all_list (a : Array Nat) (p : Nat → Bool) : a.all p = a.toList.all p := by rw [Array.all_toList]
theorem any_list (a : Array Nat) (p : Nat → Bool) : a.any p = a.toList.any p := by rw [Array.any_toList]
theorem isName_fine {w : Str} (h : fineB w = true) : isName w = true := by
  have hs := fine_sign h
  obtain ⟨h1, h2⟩ := fine_len h
  have hc : ∀ c ∈ w.cps.toList, Unicode.isAlpha c = true ∧ Unicode.isLower c = true ∧ Unicode.isUpper c = false ∧ Unicode.isTitle c = false := fun c hc => low_alpha ⟨c, by have := hs c hc; omega⟩ (hs c hc)
  unfold isName Txt.isascii Txt.isalpha Txt.islower
  rw [all_list, all_list, any_list, any_list]
  have e1 : (w.cps.toList.all fun x => decide (x < 128)) = true := List.all_eq_true.mpr fun c hc' => decide_eq_true (by have := hs c hc'; omega)
  have e2 : (w.cps.toList.all Unicode.isAlpha) = true := List.all_eq_true.mpr fun c hc' => (hc c hc').1
  have e3 : (w.cps.toList.any Unicode.isLower) = true := by
    have hl : 0 < w.cps.toList.length := h1
    exact List.any_eq_true.mpr ⟨w.cps.toList[0], List.getElem_mem hl, (hc _ (List.getElem_mem hl)).2.1⟩
  have e4 : (w.cps.toList.any fun c => Unicode.isUpper c || Unicode.isTitle c) = false := by
    rw [List.any_eq_false]
    intro c hc'
    rw [(hc c hc').2.2.1, (hc c hc').2.2.2]
    decide
  rw [e1, e2, e3, e4]
  have e5 : decide ((w.length : Int) ≤ 8) = true := decide_eq_true (by omega)
  have e6 : decide (w.length > 0) = true := decide_eq_true (by omega)
  rw [e5, e6]
  rfl
theorem fine_free {w : Str} (h : fineB w = true) {k : Nat} (hk : k < 97) : free k w := fun z => by
  have := fine_sign h k z
  omega
theorem fine_ok {w : Str} (h : fineB w = true) : PyData.strOk w = true := by
  unfold PyData.strOk
  rw [all_list]
  exact List.all_eq_true.mpr fun c hc => decide_eq_true (by have := fine_sign h c hc; omega)

/-! ### reading rows of words -/
def refsN (cs : List Col) : Nat := (cs.filter fun c => c.2.isSome).length
def sumRefs (T : List Tab) : Nat := (T.map fun t => refsN t.2).sum
def isNew (w : Str) (ns : List Str) : Bool := isName w && !decide (w ∈ ns)
def beginsT (T : List Tab) (ws : List Str) : Bool := match ws with
  | [a, b] => decide (a = "table") && (decide ((T.length : Int) < 3) && isNew b (T.map Prod.fst))
  | _ => false
def addsP (T : List Tab) (ws : List Str) : Bool := match ws, T.getLast? with
  | [a, b, c, d], some t => decide ([a, b, c] = (["", "", "plain"] : List Str)) && (!(decide (0 < (refsN t.2 : Int)) || decide ((t.2.length : Int) = 2)) && isNew d (t.2.map Prod.fst))
  | _, _ => false
def addsR (T : List Tab) (ws : List Str) : Bool := match ws, T.getLast? with
  | [a, b, c, d, e], some t => decide ([a, b, c] = (["", "", "ref"] : List Str)) && (!decide ((refsN t.2 : Int) = 2) && (!decide ((sumRefs T : Int) = 3) && (isNew d (t.2.map Prod.fst) && decide (e ∈ T.dropLast.map Prod.fst))))
  | _, _ => false
def addCol (T : List Tab) (c : Col) : List Tab := match T.getLast? with
  | some t => T.dropLast ++ [(t.1, t.2 ++ [c])]
  | none => T
def step (T : List Tab) (ws : List Str) : Option (List Tab) :=
  if beginsT T ws then some (T ++ [(ws.getD 1 "", [])]) else if addsP T ws then some (addCol T (ws.getD 3 "", none)) else if addsR T ws then some (addCol T (ws.getD 3 "", some (ws.getD 4 ""))) else none
def readFrom (T : List Tab) : List (List Str) → Option (List Tab)
  | [] => some T
  | ws :: r => (step T ws).bind fun T' => readFrom T' r
theorem readFrom_append : ∀ (T : List Tab) (a b : List (List Str)), readFrom T (a ++ b) = (readFrom T a).bind fun T' => readFrom T' b
  | T, [], b => rfl
  | T, ws :: a, b => by
    show (step T ws).bind (fun T' => readFrom T' (a ++ b)) = ((step T ws).bind fun T' => readFrom T' a).bind fun T' => readFrom T' b
    cases e : step T ws with
    | none => rfl
    | some T' => exact readFrom_append T' a b
def colWords : Col → List Str
  | (n, none) => ["", "", "plain", n]
  | (n, some t) => ["", "", "ref", n, t]
def tabWords (t : Tab) : List (List Str) := ["table", t.1] :: t.2.map colWords
def words (T : List Tab) : List (List Str) := T.flatMap tabWords
def rowOf (ws : List Str) : Str := Txt.join sp ws
def textOf (T : List Tab) : Str := Txt.join nl ((words T).map rowOf)
theorem last_snoc (T : List Tab) (t : Tab) : (T ++ [t]).getLast? = some t := by simp
theorem drop_snoc (T : List Tab) (t : Tab) : (T ++ [t]).dropLast = T := by simp
/-- the next column may stand there -/
def okCol (T : List Tab) (done : List Col) : Col → Prop
  | (m, none) => refsN done = 0 ∧ done.length < 2 ∧ fineB m = true ∧ m ∉ done.map Prod.fst
  | (m, some e) => refsN done < 2 ∧ sumRefs T + refsN done < 3 ∧ fineB m = true ∧ m ∉ done.map Prod.fst ∧ e ∈ T.map Prod.fst
def okCols (T : List Tab) (done : List Col) : List Col → Prop
  | [] => True
  | c :: r => okCol T done c ∧ okCols T (done ++ [c]) r
theorem sumRefs_snoc (T : List Tab) (n : Str) (cs : List Col) : sumRefs (T ++ [(n, cs)]) = sumRefs T + refsN cs := by simp [sumRefs]
theorem step_col (T : List Tab) (n : Str) (done : List Col) (c : Col) (h : okCol T done c) : step (T ++ [(n, done)]) (colWords c) = some (T ++ [(n, done ++ [c])]) := by
  obtain ⟨m, e⟩ := c
  cases e with
  | none =>
    obtain ⟨h1, h2, h3, h4⟩ := h
    have ha : addsP (T ++ [(n, done)]) ["", "", "plain", m] = true := by
      unfold addsP
      rw [last_snoc]
      simp only [isNew, isName_fine h3, decide_eq_false h4, h1]
      have e2 : decide ((done.length : Int) = 2) = false := decide_eq_false (by omega)
      rw [e2]
      decide
    unfold step
    have hb : beginsT (T ++ [(n, done)]) (colWords (m, none)) = false := rfl
    rw [hb, show addsP (T ++ [(n, done)]) (colWords (m, none)) = true from ha]
    simp only [Bool.false_eq_true, if_false, if_true]
    unfold addCol
    rw [last_snoc, drop_snoc]
    rfl
  | some e =>
    obtain ⟨h1, h2, h3, h4, h5⟩ := h
    have ha : addsR (T ++ [(n, done)]) ["", "", "ref", m, e] = true := by
      unfold addsR
      rw [last_snoc, drop_snoc, sumRefs_snoc]
      simp only [isNew, isName_fine h3, decide_eq_false h4, decide_eq_true h5]
      have e2 : decide ((refsN done : Int) = 2) = false := decide_eq_false (by omega)
      have e3 : decide (((sumRefs T + refsN done : Nat) : Int) = 3) = false := decide_eq_false (by omega)
      rw [e2, e3]
      decide
    unfold step
    have hb : beginsT (T ++ [(n, done)]) (colWords (m, some e)) = false := rfl
    have hp : addsP (T ++ [(n, done)]) (colWords (m, some e)) = false := rfl
    rw [hb, hp, show addsR (T ++ [(n, done)]) (colWords (m, some e)) = true from ha]
    simp only [Bool.false_eq_true, if_false, if_true]
    unfold addCol
    rw [last_snoc, drop_snoc]
    rfl
theorem read_cols (T : List Tab) (n : Str) : ∀ (rest done : List Col), okCols T done rest → readFrom (T ++ [(n, done)]) (rest.map colWords) = some (T ++ [(n, done ++ rest)])
  | [], done, _ => by simp [readFrom]
  | c :: r, done, h => by
    show (step (T ++ [(n, done)]) (colWords c)).bind (fun T' => readFrom T' (r.map colWords)) = _
    rw [step_col T n done c h.1]
    have := read_cols T n r (done ++ [c]) h.2
    rw [List.append_assoc] at this
    exact this
def okTab (T : List Tab) (t : Tab) : Prop := fineB t.1 = true ∧ t.1 ∉ T.map Prod.fst ∧ T.length < 3 ∧ okCols T [] t.2
theorem read_tab (T : List Tab) (t : Tab) (h : okTab T t) : readFrom T (tabWords t) = some (T ++ [t]) := by
  obtain ⟨h1, h2, h3, h4⟩ := h
  have hb : beginsT T ["table", t.1] = true := by
    unfold beginsT
    simp only [isNew, isName_fine h1, decide_eq_false h2]
    have e2 : decide ((T.length : Int) < 3) = true := decide_eq_true (by omega)
    rw [e2]
    decide
  show (step T ["table", t.1]).bind (fun T' => readFrom T' (t.2.map colWords)) = _
  unfold step
  rw [if_pos hb]
  exact read_cols T t.1 t.2 [] h4
def okTabs (T : List Tab) : List Tab → Prop
  | [] => True
  | t :: r => okTab T t ∧ okTabs (T ++ [t]) r
theorem read_tabs : ∀ (r T : List Tab), okTabs T r → readFrom T (words r) = some (T ++ r)
  | [], T, _ => by simp [words, readFrom]
  | t :: r, T, h => by
    show readFrom T (tabWords t ++ words r) = _
    rw [readFrom_append, read_tab T t h.1]
    have := read_tabs r (T ++ [t]) h.2
    rw [List.append_assoc] at this
    exact this
theorem okTabs_snoc : ∀ (r T : List Tab) (t : Tab), okTabs T r → okTab (T ++ r) t → okTabs T (r ++ [t])
  | [], T, t, _, h => ⟨by simpa using h, True.intro⟩
  | x :: r, T, t, h, ht => ⟨h.1, okTabs_snoc r (T ++ [x]) t h.2 (by simpa using ht)⟩
/-! ### the words of drawn tables -/
def wordOk (w : Str) : Prop := free 10 w ∧ free 32 w ∧ w.length ≤ 8 ∧ PyData.strOk w = true
theorem wordOk_fine {w : Str} (h : fineB w = true) : wordOk w := ⟨fine_free h (by decide), fine_free h (by decide), (fine_len h).2, fine_ok h⟩
theorem wordOk_empty : wordOk "" := ⟨by decide +kernel, by decide +kernel, by decide +kernel, by decide +kernel⟩
theorem wordOk_table : wordOk "table" := ⟨by decide +kernel, by decide +kernel, by decide +kernel, by decide +kernel⟩
theorem wordOk_plain : wordOk "plain" := ⟨by decide +kernel, by decide +kernel, by decide +kernel, by decide +kernel⟩
theorem wordOk_ref : wordOk "ref" := ⟨by decide +kernel, by decide +kernel, by decide +kernel, by decide +kernel⟩
end PM
/-! SP: what the defs of the program promise, over plain data. -/
namespace SP
open PySem L2 DV PM
def encC : Col → D
  | (n, none) => .tup [.str n, .non]
  | (n, some t) => .tup [.str n, .str t]
def encT (t : Tab) : D := .tup [.str t.1, .lst (t.2.map encC)]
def encTs (T : List Tab) : D := .lst (T.map encT)
theorem map_get {α β : Type} {f : α → β} {l : List α} {i : Nat} {y : β} (h : (l.map f)[i]? = some y) : ∃ x, l[i]? = some x ∧ y = f x := by
  rw [List.getElem?_map] at h
  cases e : l[i]? with
  | none => rw [e] at h; cases h
  | some x => rw [e] at h; exact ⟨x, rfl, (Option.some.inj h).symm⟩
/-- one digit: it, the feed behind it -/
def takeN (g m size : Int) : Int × Int × Int :=
  if 0 < g then (g.fmod size, g.fdiv size, m) else (((m * 742938285 + 1013904223).fmod 2305843009213693951).fdiv 16777216 |>.fmod size, g, (m * 742938285 + 1013904223).fmod 2305843009213693951)
theorem takeN_lt {g m size : Int} (h : 0 < size) : 0 ≤ (takeN g m size).1 ∧ (takeN g m size).1 < size := by
  unfold takeN
  split
  · exact ⟨Int.fmod_nonneg_of_pos _ h, Int.fmod_lt_of_pos _ h⟩
  · exact ⟨Int.fmod_nonneg_of_pos _ h, Int.fmod_lt_of_pos _ h⟩
abbrev Fd := Int × Int
def fdD (s : Fd) : List D := [.int s.1, .int s.2]
def fdT (s : Fd) (n : Nat) : Fd := ((takeN s.1 s.2 n).2.1, (takeN s.1 s.2 n).2.2)
def fdI (s : Fd) (n : Nat) : Nat := (takeN s.1 s.2 n).1.toNat
theorem fdI_lt {s : Fd} {n : Nat} (h : 0 < n) : fdI s n < n := by
  have := takeN_lt (g := s.1) (m := s.2) (size := (n : Int)) (by omega)
  unfold fdI
  omega
theorem fdI_eq {s : Fd} {n : Nat} (h : 0 < n) : (takeN s.1 s.2 n).1 = (fdI s n : Int) := by
  have := takeN_lt (g := s.1) (m := s.2) (size := (n : Int)) (by omega)
  unfold fdI
  omega
def preTake : Pre := fun rs Pl cs r cs' => ∃ p s n, rs = [.val (.ref p), .dat (.int (n : Nat))] ∧ Pl = [p] ∧ cs = [fdD s] ∧ 0 < n ∧ n ≤ 100000 ∧ r = .dat (.int (fdI s n : Nat)) ∧ cs' = [fdD (fdT s n)]
def prePick : Pre := fun rs Pl cs r cs' => ∃ p s ds d, rs = [.val (.ref p), .dat (.lst ds)] ∧ Pl = [p] ∧ cs = [fdD s] ∧ 0 < ds.length ∧ ds.length ≤ 100000 ∧ ds[fdI s ds.length]? = some d ∧ r = .dat d ∧ cs' = [fdD (fdT s ds.length)]
def preFeed : Pre := fun rs Pl cs r cs' => ∃ ns i s, rs = [.dat (.fro (ns.map D.int)), .dat (.int (i : Nat))] ∧ ns.length ≤ 63 ∧ i < 60 ∧ Pl = [] ∧ cs = [] ∧ r = .dat (.lst (fdD s)) ∧ cs' = [] ∧
  s = feedOf ns i
where feedOf (ns : List Int) (i : Nat) : Fd :=
  let cell := if i < ns.length then ns.getD i 0 else 59 * (i : Int) + 23
  let great := (if cell < 0 then -cell else cell) - 10 ^ 18
  (if great > 0 then great else 0, (cell * 2862933555777941757 + 3935559000370003845 * ((i : Int) + 1)).fmod 2305843009213693951)
/-! the program's own -/
def preCount : Pre := fun rs Pl cs r cs' => ∃ cols : List Col, rs = [.dat (.lst (cols.map encC))] ∧ cols.length ≤ 1000 ∧ Pl = [] ∧ cs = [] ∧ r = .dat (.int (refsN cols : Nat)) ∧ cs' = []
def colOk (c : Col) : Prop := wordOk c.1 ∧ ∀ t, c.2 = some t → wordOk t
def preColRow : Pre := fun rs Pl cs r cs' => ∃ c d, rs = [.dat (.str c.1), .dat d] ∧ d = (match c.2 with | none => D.non | some t => .str t) ∧ colOk c ∧ Pl = [] ∧ cs = [] ∧ r = .dat (.str (rowOf (colWords c))) ∧ cs' = []
theorem emp_cps : (Str.ofString "").cps = #[] := by decide +kernel
theorem lit1 : ("  plain " : Str) = rowOf ["", "", "plain", ""] := by decide +kernel
theorem lit2 : ("  ref " : Str) = rowOf ["", "", "ref", ""] := by decide +kernel
theorem lit3 : ("table " : Str) = rowOf ["table", ""] := by decide +kernel
theorem row_table (n : Str) : Str.empty ++ ("table " : Str) ++ n = rowOf ["table", n] := by
  rw [Str.empty_append, lit3]
  unfold rowOf
  rw [join_cons, join_one, join_cons, join_one]
  apply lst_eq
  simp [app_list, emp_cps]
theorem row_plain (n : Str) : Str.empty ++ ("  plain " : Str) ++ n = rowOf (colWords (n, none)) := by
  rw [Str.empty_append, lit1]
  show _ = rowOf ["", "", "plain", n]
  unfold rowOf
  rw [join_cons, join_cons, join_cons, join_one, join_cons, join_cons, join_cons, join_one]
  apply lst_eq
  simp [app_list, emp_cps]
theorem row_ref (n t : Str) : Str.empty ++ ("  ref " : Str) ++ n ++ (" " : Str) ++ t = rowOf (colWords (n, some t)) := by
  rw [Str.empty_append, lit2]
  show _ = rowOf ["", "", "ref", n, t]
  unfold rowOf
  rw [join_cons, join_cons, join_cons, join_one, join_cons, join_cons, join_cons, join_cons, join_one]
  apply lst_eq
  simp [app_list, emp_cps]
theorem len_app (a b : Str) : (a ++ b).length = a.length + b.length := Str.length_append a b
theorem row_len_col {c : Col} (h : colOk c) : (rowOf (colWords c)).length ≤ 30 := by
  obtain ⟨n, t⟩ := c
  obtain ⟨h1, h2⟩ := h
  have hn : n.length ≤ 8 := h1.2.2.1
  cases t with
  | none =>
    rw [← row_plain, len_app, len_app]
    have : (Str.empty).length = 0 := rfl
    have : ("  plain " : Str).length = 8 := by decide +kernel
    omega
  | some t =>
    have ht : t.length ≤ 8 := (h2 t rfl).2.2.1
    rw [← row_ref, len_app, len_app, len_app, len_app]
    have : (Str.empty).length = 0 := rfl
    have : ("  ref " : Str).length = 6 := by decide +kernel
    have : (" " : Str).length = 1 := by decide +kernel
    omega
theorem row_len_tab {n : Str} (h : n.length ≤ 8) : (rowOf ["table", n]).length ≤ 30 := by
  rw [← row_table, len_app, len_app]
  have : (Str.empty).length = 0 := rfl
  have : ("table " : Str).length = 6 := by decide +kernel
  omega
def tabsOk (T : List Tab) : Prop := T.length ≤ 3 ∧ ∀ t ∈ T, wordOk t.1 ∧ t.2.length ≤ 4 ∧ ∀ c ∈ t.2, colOk c
def rowsOf (T : List Tab) : List Str := (words T).map rowOf
def preRows : Pre := fun rs Pl cs r cs' => ∃ T, rs = [.dat (encTs T)] ∧ tabsOk T ∧ Pl = [] ∧ cs = [] ∧ r = .dat (.lst ((rowsOf T).map D.str)) ∧ cs' = []
def preIsName : Pre := fun rs Pl cs r cs' => ∃ w : Str, rs = [.dat (.str w)] ∧ w.length ≤ 1000000 ∧ Pl = [] ∧ cs = [] ∧ r = .dat (.bl (isName w)) ∧ cs' = []
def fstD : D → D
  | .tup (d :: _) => d
  | _ => .non
def isTup1 : D → Prop
  | .tup (_ :: _) => True
  | _ => False
def preIsNew : Pre := fun rs Pl cs r cs' => ∃ (w : Str) (ds : List D) (ns : List Str), rs = [.dat (.str w), .dat (.lst ds)] ∧ w.length ≤ 1000000 ∧ ds.length ≤ 1000 ∧ ds.map fstD = ns.map D.str ∧ (∀ d ∈ ds, isTup1 d) ∧ Pl = [] ∧ cs = [] ∧ r = .dat (.bl (isNew w ns)) ∧ cs' = []
def wordsIn (ws : List Str) : Prop := ws.length ≤ 1000000 ∧ ∀ w ∈ ws, w.length ≤ 1000000 ∧ PyData.strOk w = true
def preBegins : Pre := fun rs Pl cs r cs' => ∃ T ws, rs = [.dat (encTs T), .dat (.lst (ws.map D.str))] ∧ T.length ≤ 1000 ∧ wordsIn ws ∧ Pl = [] ∧ cs = [] ∧ r = .dat (.bl (beginsT T ws)) ∧ cs' = []
def tabsIn (T : List Tab) : Prop := T.length ≤ 1000 ∧ ∀ t ∈ T, t.2.length ≤ 1000
def prePlain : Pre := fun rs Pl cs r cs' => ∃ T ws, rs = [.dat (encTs T), .dat (.lst (ws.map D.str))] ∧ tabsIn T ∧ wordsIn ws ∧ Pl = [] ∧ cs = [] ∧ r = .dat (.bl (addsP T ws)) ∧ cs' = []
def preRef : Pre := fun rs Pl cs r cs' => ∃ T ws, rs = [.dat (encTs T), .dat (.lst (ws.map D.str))] ∧ tabsIn T ∧ wordsIn ws ∧ Pl = [] ∧ cs = [] ∧ r = .dat (.bl (addsR T ws)) ∧ cs' = []
theorem fst_encT (T : List Tab) : (T.map encT).map fstD = (T.map Prod.fst).map D.str := by
  rw [List.map_map, List.map_map]; rfl
theorem fst_encC (T : List Col) : (T.map encC).map fstD = (T.map Prod.fst).map D.str := by
  rw [List.map_map, List.map_map]
  exact List.map_congr_left fun c _ => by obtain ⟨n, t⟩ := c; cases t <;> rfl
theorem tup_encT (T : List Tab) : ∀ d ∈ T.map encT, isTup1 d := fun d h => by
  obtain ⟨t, _, rfl⟩ := List.mem_map.mp h
  exact True.intro
theorem tup_encC (T : List Col) : ∀ d ∈ T.map encC, isTup1 d := fun d h => by
  obtain ⟨⟨n, t⟩, _, rfl⟩ := List.mem_map.mp h
  cases t <;> exact True.intro
end SP
/-! RT: the list of tables while it is read: a list of tuples that hold lists that grow. -/
namespace SP
open PySem L2 DV PM
variable {K : PySem.W.Frag}
/-- one entry: the tuple at e.1, its list at e.2.1, which holds e.2.2 -/
structure EntAt (K : PySem.W.Frag) (H0 B H : Hp) (e : Addr × Addr × List V) (t : Tab) : Prop where
  tu : H e.1 = some (.tup [.str t.1, .ref e.2.1])
  ls : H e.2.1 = some (.lst e.2.2)
  co : RpA K B e.2.2 (t.2.map encC)
  bt : B e.1 = none
  bl : B e.2.1 = none
  ft : H0 e.1 = none
  fl : H0 e.2.1 = none
structure TabsAt (K : PySem.W.Frag) (H0 B H : Hp) (p : Addr) (T : List Tab) : Prop where
  ex : ∃ es : List (Addr × Addr × List V), H p = some (.lst (es.map fun e => .ref e.1)) ∧ Paired (EntAt K H0 B H) es T ∧ (es.map (·.2.1)).Nodup ∧ p ∉ es.map (·.2.1)
  bp : B p = none
  fp : H0 p = none
theorem Paired.imp {α β : Type} {F G : α → β → Prop} : ∀ {l : List α} {m : List β}, Paired F l m → (∀ a ∈ l, ∀ b, F a b → G a b) → Paired G l m
  | _, _, .nil, _ => .nil
  | _, _, .cons h r, f => .cons (f _ List.mem_cons_self _ h) (Paired.imp r fun a ha b => f a (List.mem_cons_of_mem _ ha) b)
theorem Paired.snoc' {α β : Type} {F : α → β → Prop} {a : α} {b : β} : ∀ {l : List α} {m : List β}, Paired F l m → F a b → Paired F (l ++ [a]) (m ++ [b])
  | _, _, .nil, h => .cons h .nil
  | _, _, .cons h r, g => .cons h (Paired.snoc' r g)
theorem Paired.unsnoc {α β : Type} {F : α → β → Prop} : ∀ {l : List α} {m : List β} {b : β}, Paired F l (m ++ [b]) → ∃ l' a, l = l' ++ [a] ∧ Paired F l' m ∧ F a b
  | [], [], _, h => by cases h
  | [], _ :: _, _, h => by cases h
  | [a], [], b, .cons h .nil => ⟨[], a, rfl, .nil, h⟩
  | a :: a' :: l, [], b, .cons h r => by cases r
  | a :: l, x :: m, b, .cons h r => by
    obtain ⟨l', c, e, q, f⟩ := Paired.unsnoc r
    exact ⟨a :: l', c, by rw [e]; rfl, .cons h q, f⟩
theorem EntAt.mono {H0 B B' H H' : Hp} {e : Addr × Addr × List V} {t : Tab} (h : EntAt K H0 B H e t) (eB : Ex B B') (kt : H' e.1 = H e.1) (kl : H' e.2.1 = H e.2.1) (nt : B' e.1 = none) (nl : B' e.2.1 = none) : EntAt K H0 B' H' e t :=
  ⟨kt.trans h.tu, kl.trans h.ls, h.co.mono eB, nt, nl, h.ft, h.fl⟩
/-- a pure step leaves it -/
theorem TabsAt.step {H0 B B' H H' : Hp} {p : Addr} {T : List Tab} (h : TabsAt K H0 B H p T) (s : Stp [] B H B' H') : TabsAt K H0 B' H' p T := by
  obtain ⟨⟨es, h1, h2, h3, h4⟩, h5, h6⟩ := h
  refine ⟨⟨es, s.toEx _ _ h1, Paired.imp h2 fun e _ t q => q.mono s.ex ?_ ?_ ?_ ?_, h3, h4⟩, by rw [s.nb _ _ h1]; exact h5, h6⟩
  · rw [q.tu]; exact s.toEx _ _ q.tu
  · rw [q.ls]; exact s.toEx _ _ q.ls
  · rw [s.nb _ _ q.tu]; exact q.bt
  · rw [s.nb _ _ q.ls]; exact q.bl
theorem entAt_rp {H0 B H H' : Hp} (e1 : Ex B H') : ∀ {es : List (Addr × Addr × List V)} {T : List Tab}, Paired (EntAt K H0 B H) es T → (∀ e ∈ es, H' e.1 = H e.1 ∧ H' e.2.1 = H e.2.1) → RpA K H' (es.map fun e => .ref e.1) (T.map encT)
  | _, _, .nil, _ => .nil
  | _, _, .cons h r, k => .cons (.tup (.inl ((k _ List.mem_cons_self).1.trans h.tu)) (.cons (.str _) (.cons (.lst ((k _ List.mem_cons_self).2.trans h.ls) (h.co.mono e1)) .nil))) (entAt_rp e1 r fun e he => k e (List.mem_cons_of_mem _ he))
theorem TabsAt.rp {H0 B H : Hp} {p : Addr} {T : List Tab} (h : TabsAt K H0 B H p T) (e : Ex B H) : Rp K H (.ref p) (encTs T) := by
  obtain ⟨⟨es, h1, h2, _, _⟩, _, _⟩ := h
  exact .lst h1 (entAt_rp e h2 fun _ _ => ⟨rfl, rfl⟩)
/-- all that is new is told -/
def pubB (B0 H0 H : Hp) : Hp := fun b => match H0 b with
  | some _ => B0 b
  | none => H b
theorem pub_new {B0 H0 H : Hp} {b : Addr} (h : H0 b = none) : pubB B0 H0 H b = H b := by unfold pubB; rw [h]
theorem pub_old {B0 H0 H : Hp} {b : Addr} {o : HO} (h : H0 b = some o) : pubB B0 H0 H b = B0 b := by unfold pubB; rw [h]
theorem pub_ex {B0 H0 B H : Hp} (s : Stp [] B0 H0 B H) (e : Ex B H) : Ex B (pubB B0 H0 H) := fun b o h => by
  cases h0 : H0 b with
  | none => rw [pub_new h0]; exact e b o h
  | some u => rw [pub_old h0, ← s.nb b u h0]; exact h
theorem pub_in {B0 H0 B H : Hp} (s : Stp [] B0 H0 B H) (e : Ex B H) : Ex (pubB B0 H0 H) H := fun b o h => by
  cases h0 : H0 b with
  | none => rw [pub_new h0] at h; exact h
  | some u => rw [pub_old h0] at h; exact e b o (s.ex b o h)
theorem pub_stp {B0 H0 B H : Hp} (s : Stp [] B0 H0 B H) (e : Ex B H) : Stp [] B0 H0 (pubB B0 H0 H) H :=
  ⟨s.ex.trans (pub_ex s e), s.fr, fun b o h => pub_old h, s.dm⟩
theorem TabsAt.pub {B0 H0 B H : Hp} {p : Addr} {T : List Tab} (h : TabsAt K H0 B H p T) (s : Stp [] B0 H0 B H) (e : Ex B H) : Rp K (pubB B0 H0 H) (.ref p) (encTs T) := by
  obtain ⟨⟨es, h1, h2, _, _⟩, _, h6⟩ := h
  have gen : ∀ {es : List (Addr × Addr × List V)} {T : List Tab}, Paired (EntAt K H0 B H) es T → RpA K (pubB B0 H0 H) (es.map fun e => .ref e.1) (T.map encT) := by
    intro es T q
    induction q with
    | nil => exact .nil
    | cons h r ih => exact .cons (.tup (.inl ((pub_new h.ft).trans h.tu)) (.cons (.str _) (.cons (.lst ((pub_new h.fl).trans h.ls) (h.co.mono (pub_ex s e))) .nil))) ih
  exact .lst ((pub_new h6).trans h1) (gen h2)
/-- a pure question about the tables so far -/
theorem call_tabs {B H : Hp} {σ : L2.St} {H0 : Hp} {p : Addr} {T : List Tab} {ws : List Str} {pre : Pre} {b : Bool} {wv : V} {Q : Bool → Hp → Prop} (e : Ex B H) (tab : TabsAt K H0 B H p T) (h1 : σ[1]? = some (some (.ref p))) (h4 : σ[4]? = some (some wv)) (hw : Rp K B wv (.lst (ws.map D.str)))
    (hp : pre [.dat (encTs T), .dat (.lst (ws.map D.str))] [] [] (.dat (.bl b)) []) (k : ∀ H', Stp [] B H B H' → Ex B H' → Q b H') : tB (tCall (spM K pre) [] E0 (tCons (tVar 1) (tCons (tVar 4) tNil))) σ H Q := by
  refine ⟨.ref p, h1, wv, h4, H, _, [], [], _, [], hp, Ex.refl H, ⟨tab.rp e, hw.mono e, True.intro⟩, True.intro, fun v B2 H2 s2 e2 _ v2 => ?_⟩
  cases (show Rp K B2 v (.bl b) from v2)
  exact ⟨b, rfl, k H2 ⟨Ex.refl _, s2.fr, fun _ _ _ => rfl, s2.dm⟩ (e.trans s2.toEx)⟩
theorem stp_upd {B0 H0 B H : Hp} {a : Addr} {o : HO} (s : Stp [] B0 H0 B H) (h : H0 a = none) : Stp [] B0 H0 B (upd H a o) :=
  ⟨s.ex, fun b u n e => by rw [upd_ne (ne_of_none e h)]; exact s.fr b u n e, s.nb, fun b u e => by rw [upd_ne (ne_of_none e h)]; exact s.dm b u e⟩
theorem free0 {B0 H0 B H : Hp} {a : Addr} (s : Stp [] B0 H0 B H) (h : H a = none) : H0 a = none := by
  cases q : H0 a with
  | none => rfl
  | some u => obtain ⟨u', h'⟩ := s.dm a u q; rw [h] at h'; cases h'
theorem ex_upd {B H : Hp} {a : Addr} {o : HO} (e : Ex B H) (h : B a = none) : Ex B (upd H a o) := fun b u q => by rw [upd_ne (ne_of_none q h)]; exact e b u q
/-- tables.append((n, [])) -/
theorem app_tab {B0 H0 B H : Hp} {σ : L2.St} {p : Addr} {T : List Tab} {n : Str} {ss : List Sl} {te : TE} {De : Ends} (s : Stp [] B0 H0 B H) (o : Okk K [] ss [] B H σ) (tab : TabsAt K H0 B H p T) (h1 : σ[1]? = some (some (.ref p))) (he : Ev K [] ss [] te (.dat (.str n)) [])
    (hT : T.length ≤ 1000) (k : ∀ B' H', Stp [] B0 H0 B' H' → Okk K [] ss [] B' H' σ → Ex B B' → TabsAt K H0 B' H' p (T ++ [(n, [])]) → De.nx σ H') :
    tDrop (tBM K "list" rAppend (tVar 1) (tCons (tTup (tCons te (tCons (tLst tNil) tNil))) tNil)) De σ H := by
  obtain ⟨es0, hp0, _⟩ := tab.ex
  refine ⟨.ref p, h1, .inl ⟨rfl, _, .inl (.inl hp0)⟩, ?_⟩
  refine he B H σ o _ fun v B1 H1 s1 o1 v1 => ?_
  cases (show Rp K B1 v (.str n) from v1)
  have tab1 := tab.step s1
  have s01 := s.trans s1
  refine ⟨Nat.zero_le _, fun c hc => ⟨by show 2 ≤ sizeLine; decide, fun t ht => ?_⟩⟩
  obtain ⟨⟨es, h2, h3, h4, h5⟩, h6, h7⟩ := tab1
  have hct : t ≠ c := fun z => by rw [z, upd_same] at ht; cases ht
  have ht1 : H1 t = none := by rw [upd_ne hct] at ht; exact ht
  have hcp : p ≠ c := ne_of_none h2 hc
  have htp : p ≠ t := ne_of_none h2 ht1
  have hlen : es.length = T.length := Paired.length h3
  refine ⟨p, _, .ref t, rfl, rfl, (upd_ne htp).trans ((upd_ne hcp).trans h2), lt_line (by rw [List.length_map, hlen]; omega), ?_⟩
  have bc : B1 c = none := o1.ex.free hc
  have bt : B1 t = none := o1.ex.free ht1
  have fc : H0 c = none := free0 s01 hc
  have ft : H0 t = none := free0 s01 ht1
  have key : ∀ b, b ≠ p → b ≠ t → b ≠ c → upd (upd (upd H1 c (.lst [])) t (.tup [.str n, .ref c])) p (.lst ((es.map fun e => V.ref e.1) ++ [.ref t])) b = H1 b := fun b n1 n2 n3 => by rw [upd_ne n1, upd_ne n2, upd_ne n3]
  refine k B1 _ (stp_upd (stp_upd (stp_upd s01 fc) ft) h7) ⟨ex_upd (ex_upd (ex_upd o1.ex bc) bt) h6, o1.sl, True.intro⟩ s1.ex ⟨⟨es ++ [(t, c, [])], ?_, ?_, ?_, ?_⟩, h6, h7⟩
  · rw [upd_same, List.map_append]; rfl
  · refine Paired.snoc' (Paired.imp h3 fun e he b' q => q.mono (Ex.refl _) (key _ (fun z => ?_) (ne_of_none q.tu ht1) (ne_of_none q.tu hc)) (key _ (fun z => ?_) (ne_of_none q.ls ht1) (ne_of_none q.ls hc)) q.bt q.bl) ⟨?_, ?_, .nil, bt, bc, ft, fc⟩
    · have := q.tu; rw [z, h2] at this; cases this
    · exact h5 (List.mem_map.mpr ⟨e, he, z⟩)
    · show upd (upd (upd H1 c (.lst [])) t _) p _ t = _
      rw [upd_ne (Ne.symm htp), upd_same]
    · show upd (upd (upd H1 c (.lst [])) t _) p _ c = _
      rw [upd_ne (Ne.symm hcp), upd_ne (Ne.symm hct), upd_same]
  · rw [List.map_append]
    refine List.nodup_append.mpr ⟨h4, by simp, fun a ha b hb => ?_⟩
    have eb : b = c := by simpa using hb
    subst eb
    intro z
    subst z
    obtain ⟨e, he, ea⟩ := List.mem_map.mp ha
    have gen : ∀ {es : List (Addr × Addr × List V)} {T : List Tab}, Paired (EntAt K H0 B1 H1) es T → ∀ e ∈ es, ∃ t, EntAt K H0 B1 H1 e t := by
      intro es T q
      induction q with
      | nil => intro e he; cases he
      | cons h r ih => intro e he; rcases List.mem_cons.mp he with z | z
                       · subst z; exact ⟨_, h⟩
                       · exact ih e z
    obtain ⟨t', q⟩ := gen h3 e he
    have := q.ls
    rw [ea, hc] at this
    cases this
  · rw [List.map_append]
    intro z
    rcases List.mem_append.mp z with z | z
    · exact h5 z
    · exact hcp (by simpa using z)
/-- tables[-1][1].append(c) -/
theorem app_col {B0 H0 B H : Hp} {σ : L2.St} {p : Addr} {T : List Tab} {n : Str} {cols : List Col} {c : Col} {ss : List Sl} {ta : TA} {x y : D} {De : Ends} (s : Stp [] B0 H0 B H) (o : Okk K [] ss [] B H σ) (tab : TabsAt K H0 B H p (T ++ [(n, cols)])) (h1 : σ[1]? = some (some (.ref p)))
    (he : EvA K [] ss [] ta [.dat x, .dat y] []) (hc : encC c = .tup [x, y]) (hT : cols.length ≤ 1000) (k : ∀ B' H', Stp [] B0 H0 B' H' → Okk K [] ss [] B' H' σ → Ex B B' → TabsAt K H0 B' H' p (T ++ [(n, cols ++ [c])]) → De.nx σ H') :
    tDrop (tBM K "list" rAppend (tOp (rIx K) (tOp (rIx K) (tVar 1) (tUn (rU fun i => .int (-i)) (tC (.int 1)))) (tC (.int 1))) (tCons (tTup ta) tNil)) De σ H := by
  obtain ⟨es0, hp0, hE0, _, _⟩ := tab.ex
  obtain ⟨es0', e0, rfl, hE0', q0⟩ := Paired.unsnoc hE0
  refine ⟨.ref p, h1, 1, rfl, .inl ⟨p, _, -1, .ref e0.1, rfl, rfl, .inl (.inl hp0), by rw [List.map_append]; exact atI_last _ _, ?_⟩⟩
  refine .inr (.inl ⟨e0.1, _, 1, .ref e0.2.1, rfl, rfl, .inl (.inl q0.tu), atI_nat (j := 1) rfl, .inl ⟨rfl, _, .inl (.inl q0.ls)⟩, ?_⟩)
  refine he B H σ o _ fun vs B1 H1 s1 o1 v1 => ?_
  obtain ⟨v, v', rfl, r1, r2⟩ := rs2 v1
  have tab1 := tab.step s1
  have s01 := s.trans s1
  refine ⟨by show 2 ≤ sizeLine; decide, fun t ht => ?_⟩
  have hl1 : H1 e0.2.1 = some (.lst e0.2.2) := s1.toEx _ _ q0.ls
  have hne : e0.2.1 ≠ t := ne_of_none hl1 ht
  have hlen : e0.2.2.length = cols.length := by rw [q0.co.length, List.length_map]
  refine ⟨e0.2.1, e0.2.2, .ref t, rfl, rfl, (upd_ne hne).trans hl1, lt_line (by omega), ?_⟩
  have bt : B1 t = none := o1.ex.free ht
  have ft : H0 t = none := free0 s01 ht
  have bl1 : B1 e0.2.1 = none := by rw [s1.nb _ _ q0.ls]; exact q0.bl
  have hp1 : H1 p = some (.lst ((es0' ++ [e0]).map fun e => V.ref e.1)) := s1.toEx _ _ hp0
  have hpl : p ≠ e0.2.1 := fun z => by
    have := tab.ex
    obtain ⟨es2, h2, hE2, _, h5⟩ := this
    obtain ⟨es2', e2, rfl, _, q2⟩ := Paired.unsnoc hE2
    rw [hp0] at h2
    have hl : (es0' ++ [e0]).map (fun e => V.ref e.1) = (es2' ++ [e2]).map (fun e => V.ref e.1) := HO.lst.inj (Option.some.inj h2)
    rw [List.map_append, List.map_append] at hl
    have e1 : V.ref e0.1 = V.ref e2.1 := by
      have := congrArg List.getLast? hl
      simpa using this
    have e1' : e0.1 = e2.1 := V.ref.inj e1
    have t1 := q0.tu
    rw [e1', q2.tu] at t1
    have t2 : e2.2.1 = e0.2.1 := by
      have := HO.tup.inj (Option.some.inj t1)
      simpa using this
    exact h5 (by rw [List.map_append]; exact List.mem_append_right _ (by simp [t2, z]))
  have hpt : p ≠ t := ne_of_none hp1 ht
  have eB : Ex B1 (upd B1 t (.tup [v, v'])) := Ex.new bt
  have hh : ∀ b, b ≠ t → b ≠ e0.2.1 → upd (upd H1 t (.tup [v, v'])) e0.2.1 (.lst (e0.2.2 ++ [.ref t])) b = H1 b := fun b n1 n2 => by rw [upd_ne n2, upd_ne n1]
  have hB2 : ∀ b, b ≠ t → upd B1 t (.tup [v, v']) b = B1 b := fun b n1 => upd_ne n1
  obtain ⟨⟨es, h2, h3, h4, h5⟩, h6, h7⟩ := tab1
  have hes : es.map (fun e => V.ref e.1) = (es0' ++ [e0]).map (fun e => V.ref e.1) := HO.lst.inj (Option.some.inj (h2.symm.trans hp1))
  obtain ⟨es', e, rfl, hE', q⟩ := Paired.unsnoc h3
  have e1' : e.1 = e0.1 := by
    rw [List.map_append, List.map_append] at hes
    have := congrArg List.getLast? hes
    have e1 : V.ref e.1 = V.ref e0.1 := by simpa using this
    exact V.ref.inj e1
  have e2' : e.2.1 = e0.2.1 := by
    have t1 := q.tu
    rw [e1', s1.toEx _ _ q0.tu] at t1
    have := HO.tup.inj (Option.some.inj t1)
    have z : e0.2.1 = e.2.1 := by simpa using this
    exact z.symm
  have e3' : e.2.2 = e0.2.2 := by
    have t1 := q.ls
    rw [e2', hl1] at t1
    exact (HO.lst.inj (Option.some.inj t1)).symm
  have sN : Stp [] B0 H0 (upd B1 t (.tup [v, v'])) (upd (upd H1 t (.tup [v, v'])) e0.2.1 (.lst (e0.2.2 ++ [.ref t]))) := by
    have a := stp_upd (o := .lst (e0.2.2 ++ [.ref t])) (stp_upd (o := .tup [v, v']) s01 ft) q0.fl
    refine ⟨a.ex.trans eB, a.fr, fun b u hb => ?_, a.dm⟩
    rw [hB2 b (ne_of_none hb ft)]
    exact a.nb b u hb
  have eN : Ex (upd B1 t (.tup [v, v'])) (upd (upd H1 t (.tup [v, v'])) e0.2.1 (.lst (e0.2.2 ++ [.ref t]))) := fun b u hb => by
    by_cases hbt : b = t
    · subst hbt
      rw [upd_same] at hb
      rw [upd_ne (Ne.symm hne), upd_same]
      exact hb
    · rw [hB2 b hbt] at hb
      rw [hh b hbt (fun z => by rw [z, bl1] at hb; cases hb)]
      exact o1.ex b u hb
  have inE : ∀ a ∈ es', a.2.1 ≠ e0.2.1 := fun a ha z => by
    rw [List.map_append] at h4
    have := (List.nodup_append.mp h4).2.2 a.2.1 (List.mem_map.mpr ⟨a, ha, rfl⟩) e.2.1 (by simp)
    exact this (z.trans e2'.symm)
  refine k _ _ sN ⟨eN, o1.sl.mono eB, True.intro⟩ (s1.ex.trans eB) ⟨⟨es' ++ [(e.1, e.2.1, e.2.2 ++ [.ref t])], ?_, ?_, ?_, ?_⟩, ?_, h7⟩
  · rw [hh p hpt hpl, h2, List.map_append, List.map_append]; rfl
  · refine Paired.snoc' (Paired.imp hE' fun a ha b qa => qa.mono eB (hh _ (ne_of_none qa.tu ht) (fun z => ?_)) (hh _ (ne_of_none qa.ls ht) (inE a ha)) ?_ ?_) ⟨?_, ?_, ?_, ?_, ?_, q.ft, q.fl⟩
    · have := qa.tu; rw [z, hl1] at this; cases this
    · rw [hB2 _ (ne_of_none qa.tu ht)]; exact qa.bt
    · rw [hB2 _ (ne_of_none qa.ls ht)]; exact qa.bl
    · show upd (upd H1 t _) e0.2.1 _ e.1 = _
      rw [hh _ (ne_of_none q.tu ht) (fun z => by have := q.tu; rw [z, hl1] at this; cases this)]
      exact q.tu
    · show upd (upd H1 t _) e0.2.1 _ e.2.1 = _
      rw [e2', upd_same, e3']
    · rw [List.map_append]
      refine (q.co.mono eB).append (.cons ?_ .nil)
      show Rp K _ _ (encC c)
      rw [hc]
      exact .tup (.inl upd_same) (.cons (r1.mono eB) (.cons (r2.mono eB) .nil))
    · show upd B1 t _ e.1 = none
      rw [hB2 _ (ne_of_none q.tu ht)]; exact q.bt
    · show upd B1 t _ e.2.1 = none
      rw [hB2 _ (ne_of_none q.ls ht)]; exact q.bl
  · rw [List.map_append] at h4 ⊢
    exact h4
  · rw [List.map_append] at h5 ⊢
    exact h5
  · rw [hB2 p hpt]; exact h6
end SP
namespace T3
open PySem L2 DV PM SP
def topS (i : Nat) : Stmt := PySem.Challenge.pw_onlyviews_k01_schemas_and_rows.main.body.getD i (.Pass ⟨0, 0, 0, 0⟩)
abbrev s_l_feed : Stmt := topS 23
abbrev N_l_feed : List Str := ["script", "index", "cell", "great", "mixed"]
theorem sc_l_feed : FnScope N_l_feed ["script", "index"] (defScope s_l_feed) := ⟨rfl, rfl, rfl, by decide +kernel, rfl, by decide +kernel, by decide +kernel⟩

abbrev s_l_take : Stmt := topS 24
abbrev N_l_take : List Str := ["feed", "size", "digit"]
theorem sc_l_take : FnScope N_l_take ["feed", "size"] (defScope s_l_take) := ⟨rfl, rfl, rfl, by decide +kernel, rfl, by decide +kernel, by decide +kernel⟩

abbrev s_l_pick : Stmt := topS 25
abbrev N_l_pick : List Str := ["feed", "options"]
theorem sc_l_pick : FnScope N_l_pick ["feed", "options"] (defScope s_l_pick) := ⟨rfl, rfl, rfl, by decide +kernel, rfl, by decide +kernel, by decide +kernel⟩

abbrev s_count_references : Stmt := topS 21
abbrev N_count_references : List Str := ["columns", "name", "target"]
theorem sc_count_references : FnScope N_count_references ["columns"] (defScope s_count_references) := ⟨rfl, rfl, rfl, by decide +kernel, rfl, by decide +kernel, by decide +kernel⟩

abbrev s_column_row : Stmt := topS 16
abbrev N_column_row : List Str := ["name", "target"]
theorem sc_column_row : FnScope N_column_row ["name", "target"] (defScope s_column_row) := ⟨rfl, rfl, rfl, by decide +kernel, rfl, by decide +kernel, by decide +kernel⟩

abbrev s_text_rows : Stmt := topS 15
abbrev N_text_rows : List Str := ["tables", "rows", "table", "columns", "name", "target"]
theorem sc_text_rows : FnScope N_text_rows ["tables"] (defScope s_text_rows) := ⟨rfl, rfl, rfl, by decide +kernel, rfl, by decide +kernel, by decide +kernel⟩

abbrev s_is_name : Stmt := topS 13
abbrev N_is_name : List Str := ["word"]
theorem sc_is_name : FnScope N_is_name ["word"] (defScope s_is_name) := ⟨rfl, rfl, rfl, by decide +kernel, rfl, by decide +kernel, by decide +kernel⟩

abbrev s_is_new_name : Stmt := topS 14
abbrev N_is_new_name : List Str := ["word", "pairs", "pair"]
theorem sc_is_new_name : FnScope N_is_new_name ["word", "pairs"] (defScope s_is_new_name) := ⟨rfl, rfl, rfl, by decide +kernel, rfl, by decide +kernel, by decide +kernel⟩

abbrev s_begins_table : Stmt := topS 18
abbrev N_begins_table : List Str := ["tables", "words"]
theorem sc_begins_table : FnScope N_begins_table ["tables", "words"] (defScope s_begins_table) := ⟨rfl, rfl, rfl, by decide +kernel, rfl, by decide +kernel, by decide +kernel⟩

abbrev s_adds_plain : Stmt := topS 19
abbrev N_adds_plain : List Str := ["tables", "words", "columns"]
theorem sc_adds_plain : FnScope N_adds_plain ["tables", "words"] (defScope s_adds_plain) := ⟨rfl, rfl, rfl, by decide +kernel, rfl, by decide +kernel, by decide +kernel⟩

abbrev s_adds_reference : Stmt := topS 20
abbrev N_adds_reference : List Str := ["tables", "words", "columns", "earlier", "pair"]
theorem sc_adds_reference : FnScope N_adds_reference ["tables", "words"] (defScope s_adds_reference) := ⟨rfl, rfl, rfl, by decide +kernel, rfl, by decide +kernel, by decide +kernel⟩

section
variable {P : Program} {w : World} {K : PySem.W.Frag} {mg : Str → Option Value} {base : Heap}
theorem ok_take {f : Addr} {fd : FuncData} (F : Fun K "_law_take" "_law_take" s_l_take f fd) (b_int : mg "int" = none) : FnOk P w K mg base CX0 1 f fd ["feed", "size"] (spM K preTake) := by
  refine ok_body F sc_l_take (fun rs Pl cs r cs' h => ?_) (fun X hX hr => ?_)
  · obtain ⟨p, s, n, rfl, _⟩ := h
    rfl
  obtain ⟨cdv, A, outer, s, H, E, rfl⟩ := hX
  have nd := sc_l_take.nd
  refine ⟨_, (pss_cons (ps_if (pt_cmpR op_gt (pe_ix ix_seq (pv 0) pe_int (fun _ _ => rfl)) pe_int (nomark _)) (pss_cons (ps_set (i := 2) nd rfl (.inl rfl) (pe_op op_modN (pe_callTy call_int1' (by rfl) b_int (by decide +kernel) (pa_cons (pe_ix ix_seq (pv 0) pe_int (fun _ _ => rfl)) pa_nil)) (pv 1)))
      (pss_cons (ps_asg (pe_op op_fdivN (pe_ix ix_seq (pv 0) pe_int (fun _ _ => rfl)) (pv 1)) (pg_sub (pv 0) pe_int set_list))
      (pss_one (ps_ret (pv 2))))) pss_nil)
      (pss_cons (ps_asg (pe_op op_modN (pe_callTy call_int1' (by rfl) b_int (by decide +kernel) (pa_cons (pe_op op_addA (pe_op op_mul (pe_ix ix_seq (pv 0) pe_int (fun _ _ => rfl)) pe_int) pe_int) pa_nil)) pe_int) (pg_sub (pv 0) pe_int set_list))
      (pss_one (ps_ret (pe_op op_modN (pe_callTy call_int1' (by rfl) b_int (by decide +kernel) (pa_cons (pe_op op_fdivN (pe_ix ix_seq (pv 0) pe_int (fun _ _ => rfl)) pe_int) pa_nil)) (pv 1)))))), ?_⟩
  intro rs Pl cs r cs' hp B0 H0 σ Dn st hP hd hn
  obtain ⟨p, ⟨g, m⟩, n, rfl, rfl, rfl, h0, h1, rfl, rfl⟩ := hp
  rw [← fdI_eq (s := (g, m)) h0] at hd
  unfold fdT fdD at hd
  simp only [] at hd
  generalize hsz : (n : Int) = size at hd st
  have h0 : 0 < size := by omega
  have h1 : size ≤ 100000 := by omega
  refine st_if (b := decide (0 < g)) st (et_test (ev_op (ev_ixM (j := 0) (m := 0) rfl ev_int rfl rfl rfl) ev_int (od_I0 fun _ => .bl _))) (fun hb H1 st1 => ?_) (fun hb H1 st1 => ?_)
  · have hg : 0 < g := of_decide_eq_true hb
    have ht : takeN g m size = (g.fmod size, g.fdiv size, m) := if_pos hg
    rw [ht] at hd
    refine st_asg (i := 2) st1 (ev_op (ev_cb (ea_cons (ev_ixM (j := 0) (m := 0) rfl ev_int rfl rfl rfl) ea_nil) cb_int) (ev_var rfl) (od_I (by omega) fun _ => .int _)) (fun σ2 H2 st2 => ?_)
    refine st_setL (j := 0) (m := 0) st2 rfl (ev_op (ev_ixM (j := 0) (m := 0) rfl ev_int rfl rfl rfl) (ev_var rfl) (od_I (d := .int _) ⟨by omega, by omega⟩ fun _ => .int _)) ev_int rfl rfl (by first | exact Nat.succ_pos 1 | exact Nat.lt_succ_self 1) (fun H3 st3 => ?_)
    exact st_ret st3 (ev_var rfl) hd
  · have hg : ¬ 0 < g := of_decide_eq_false hb
    have ht : takeN g m size = (((m * 742938285 + 1013904223).fmod 2305843009213693951).fdiv 16777216 |>.fmod size, g, (m * 742938285 + 1013904223).fmod 2305843009213693951) := if_neg hg
    rw [ht] at hd
    refine st_setL (j := 0) (m := 1) st1 rfl (ev_op (ev_cb (ea_cons (ev_op (ev_op (ev_ixM (j := 0) (m := 1) rfl ev_int rfl rfl rfl) ev_int (od_mulI (.inr (by decide)))) ev_int od_addI) ea_nil) cb_int) ev_int (od_I (d := .int _) (by decide) fun _ => .int _)) ev_int rfl rfl (by first | exact Nat.succ_pos 1 | exact Nat.lt_succ_self 1) (fun H3 st3 => ?_)
    exact st_ret st3 (ev_op (ev_cb (ea_cons (ev_op (ev_ixM (j := 0) (m := 1) rfl ev_int rfl rfl rfl) ev_int (od_I (d := .int _) ⟨by decide, by decide⟩ fun _ => .int _)) ea_nil) cb_int) (ev_var rfl) (od_I (by omega) fun _ => .int _)) hd
theorem ok_pick {f fT : Addr} {fd fdT : FuncData} (F : Fun K "_law_pick" "_law_pick" s_l_pick f fd) (G_l_take : Def P w K mg base 1 "_law_take" fT fdT ["feed", "size"] (spM K preTake)) (b_len : mg "len" = none) :
    FnOk P w K mg base CX0 2 f fd ["feed", "options"] (spM K prePick) := by
  refine ok_body F sc_l_pick (fun rs Pl cs r cs' h => ?_) (fun X hX hr => ?_)
  · obtain ⟨p, s, ds, d, rfl, _⟩ := h
    rfl
  obtain ⟨cdv, A, outer, s, H, E, rfl⟩ := hX
  have nd := sc_l_pick.nd
  refine ⟨_, (pss_one (ps_ret (pe_ix ix_seq (pv 1) (pe_def G_l_take hr (by decide) (by rfl) (pa_cons (pv 0) (pa_cons (pe_callB call_len1 (by rfl) b_len PySem.boot_len (pa_cons (pv 1) pa_nil)) pa_nil))) (fun _ _ => rfl)))), ?_⟩
  intro rs Pl cs r cs' hp B0 H0 σ Dn st hP hd hn
  obtain ⟨p, s, ds, d, rfl, rfl, rfl, h0, h1, h2, rfl, rfl⟩ := hp
  exact st_ret st (ev_op (ev_var (r := .dat (.lst ds)) rfl) (ev_call1 (j := 0) (ea_cons (ev_var rfl) (ea_cons (ev_cb (ea_cons (ev_var rfl) ea_nil) cb_lenL) ea_nil)) rfl rfl ⟨p, s, ds.length, rfl, rfl, rfl, h0, h1, rfl, rfl⟩) (od_ixL (atI_nat h2))) hd
theorem ok_feed {f : Addr} {fd : FuncData} (F : Fun K "_law_feed" "_law_feed" s_l_feed f fd) (b_len : mg "len" = none) (b_abs : mg "abs" = none) (b_max : mg "max" = none) (b_int : mg "int" = none) :
    FnOk P w K mg base CX0 1 f fd ["script", "index"] (spM K preFeed) := by
  refine ok_body F sc_l_feed (fun rs Pl cs r cs' h => ?_) (fun X hX hr => ?_)
  · obtain ⟨ns, i, s, rfl, _⟩ := h
    rfl
  obtain ⟨cdv, A, outer, s, H, E, rfl⟩ := hX
  have nd := sc_l_feed.nd
  refine ⟨_, (pss_cons (ps_set (i := 2) nd rfl (.inl rfl) (pe_ifExp (pt_cmpR op_lt (pv 1) (pe_callB call_len1 (by rfl) b_len PySem.boot_len (pa_cons (pv 0) pa_nil)) (nomark _)) (pe_ix ix_seq (pv 0) (pv 1) (fun _ _ => rfl)) (pe_op op_addA (pe_op op_mul pe_int (pv 1)) pe_int)))
      (pss_cons (ps_set (i := 3) nd rfl (.inl rfl) (pe_op op_sub (pe_callB call_abs1 (by rfl) b_abs (by decide +kernel) (pa_cons (pv 2) pa_nil)) (pe_op op_pow pe_int pe_int)))
      (pss_cons (ps_set (i := 4) nd rfl (.inl rfl) (pe_op op_modN (pe_callTy call_int1' (by rfl) b_int (by decide +kernel) (pa_cons (pe_op op_addA (pe_op op_mul (pv 2) pe_int) (pe_op op_mul pe_int (pe_op op_addA (pv 1) pe_int))) pa_nil)) pe_int))
      (pss_one (ps_ret (pe_lst (pa_cons (pe_callB (call_max2' rfl) (by rfl) b_max (by decide +kernel) (pa_cons pe_int (pa_cons (pv 3) pa_nil))) (pa_cons (pv 4) pa_nil)))))))), ?_⟩
  intro rs Pl cs r cs' hp B0 H0 σ Dn st hP hd hn
  obtain ⟨ns, i, s, rfl, hl, hi, rfl, rfl, rfl, rfl, hs⟩ := hp
  unfold preFeed.feedOf at hs
  generalize hcell : (if i < ns.length then ns.getD i 0 else 59 * (i : Int) + 23) = cell at hs
  refine st_asg (i := 2) (cs1 := []) (r := .dat (.int cell)) st (ev_if (b := decide ((i : Int) < ((ns.map D.int).length : Int))) (et_test (ev_op (ev_var rfl) (ev_cb (ea_cons (ev_var rfl) ea_nil) cb_lenF) (od_I0 fun _ => .bl _))) (fun hb => ?_) (fun hb => ?_)) (fun σ1 H1 st1 => ?_)
  · have hlt : i < ns.length := by
      have := of_decide_eq_true hb
      rw [List.length_map] at this
      omega
    rw [if_pos hlt] at hcell
    refine ev_op (ev_var rfl) (ev_var rfl) (od_ixF (atI_nat ?_))
    rw [List.getElem?_map, List.getElem?_eq_getElem hlt, ← hcell, List.getD_eq_getElem?_getD, List.getElem?_eq_getElem hlt]
    rfl
  · have hlt : ¬ i < ns.length := by
      have := of_decide_eq_false hb
      rw [List.length_map] at this
      omega
    rw [if_neg hlt] at hcell
    exact hcell ▸ ev_op (ev_op ev_int (ev_var rfl) (od_mulI (.inl (by decide)))) ev_int od_addI
  refine st_asg (i := 3) st1 (ev_op (ev_cb (ea_cons (ev_var rfl) ea_nil) cb_abs) (ev_op ev_int ev_int (od_I (d := .int _) ⟨by decide, by decide, by decide⟩ fun _ => .int _)) od_subI) (fun σ2 H2 st2 => ?_)
  refine st_asg (i := 4) st2 (ev_op (ev_cb (ea_cons (ev_op (ev_op (ev_var rfl) ev_int (od_mulI (.inr (by decide)))) (ev_op ev_int (ev_op (ev_var rfl) ev_int od_addI) (od_mulI (.inl (by decide)))) od_addI) ea_nil) cb_int) ev_int (od_I (d := .int _) (by decide) fun _ => .int _)) (fun σ3 H3 st3 => ?_)
  refine st_ret st3 (ev_lst (ds := [_, _]) (ea_cons (ev_cb (ea_cons ev_int (ea_cons (ev_var rfl) ea_nil)) cb_max2) (ea_cons (ev_var rfl) ea_nil)) (by simp)) ?_
  rw [hs] at hd
  exact hd
/-! the program -/
theorem ok_count {f : Addr} {fd : FuncData} (F : Fun K "count_references" "count_references" s_count_references f fd) (b_len : mg "len" = none) : FnOk P w K mg base CX0 1 f fd ["columns"] (spM K preCount) := by
  refine ok_body F sc_count_references (fun rs Pl cs r cs' h => ?_) (fun X hX hr => ?_)
  · obtain ⟨cols, rfl, _⟩ := h
    rfl
  obtain ⟨cdv, A, outer, s, H, E, rfl⟩ := hX
  have nd := sc_count_references.nd
  refine ⟨_, (pss_one (ps_ret (pe_callB call_len1 (by rfl) b_len PySem.boot_len (pa_cons (pe_lc (own := [("name", 1), ("target", 2)]) (g := (gTup K 2 (gCons (gName 1) (gCons (gName 2) gNil)))) (tt := (tTest (tOp rNotN (tVar 2) (tC .non)))) (te := (tVar 1)) rfl nd (pi_list (pv 0)) (blkOk_by (N := N_count_references) (sc := defScope s_count_references) (by decide +kernel)) (by intro _ _ _ _ _; exact (pg_tup (by rfl) (by exact (pgs_cons (by exact (pg_name (i := 1) nd (by rfl) (by first | exact .inl rfl | exact .inr rfl))) (by exact (pgs_cons (by exact (pg_name (i := 2) nd (by rfl) (by first | exact .inl rfl | exact .inr rfl))) (by exact pgs_nil))))))) (by intro _ _ _ _ _; exact (pts_one (pt_cmpR op_notN' (pv 2) pe_non (nomark _)))) (by intro _ _ _ _ _; exact (pv 1))) pa_nil)))), ?_⟩
  intro rs Pl cs r cs' hp B0 H0 σ Dn st hP hd hn
  obtain ⟨cols, rfl, hl, rfl, rfl, rfl, rfl⟩ := hp
  have e : (((cols.map encC).filter fun d => match d with | .tup [_, y] => !y.isN | _ => false).map fun d => match d with | .tup (x :: _) => x | _ => .non).length = refsN cols := by
    rw [List.length_map, List.filter_map, List.length_map]
    unfold refsN
    congr 1
    apply List.filter_congr
    intro c _
    obtain ⟨n, t⟩ := c
    cases t <;> rfl
  rw [← e] at hd
  refine st_ret st (ev_cb (ea_cons (EvF.ev (ef_filter (wd_lst (ev_var rfl)) _ _ (by rw [List.length_map]; omega) (fun p i d acc hd' => ?_))) ea_nil) cb_lenL) hd
  obtain ⟨⟨n, t⟩, _, rfl⟩ := map_get hd'
  cases t with
  | none => exact ⟨_, _, g_tup (g_cons g_name (g_cons g_name g_nil)), by decide, et_test (ev_op (ev_var rfl) ev_non od_notN), fun _ => ev_var rfl⟩
  | some t => exact ⟨_, _, g_tup (g_cons g_name (g_cons g_name g_nil)), by decide, et_test (ev_op (ev_var rfl) ev_non od_notN), fun _ => ev_var rfl⟩
theorem ok_col {f : Addr} {fd : FuncData} (F : Fun K "column_row" "column_row" s_column_row f fd) : FnOk P w K mg base CX0 1 f fd ["name", "target"] (spM K preColRow) := by
  refine ok_body F sc_column_row (fun rs Pl cs r cs' h => ?_) (fun X hX hr => ?_)
  · obtain ⟨c, d, rfl, _⟩ := h
    rfl
  obtain ⟨cdv, A, outer, s, H, E, rfl⟩ := hX
  have nd := sc_column_row.nd
  refine ⟨_, (pss_one (ps_ret (pe_ifExp (pt_cmpR op_isN' (pv 1) pe_non (nomark _)) (pe_joined (PJ.cons pe_str (PJ.cons (pe_fmt (pv 0)) PJ.nil))) (pe_joined (PJ.cons pe_str (PJ.cons (pe_fmt (pv 0)) (PJ.cons pe_str (PJ.cons (pe_fmt (pv 1)) PJ.nil)))))))), ?_⟩
  intro rs Pl cs r cs' hp B0 H0 σ Dn st hP hd hn
  obtain ⟨⟨n, t⟩, d, rfl, rfl, hc, rfl, rfl, rfl, rfl⟩ := hp
  have hn8 : n.length ≤ 8 := hc.1.2.2.1
  have l0 : (Str.empty).length = 0 := rfl
  have l1 : ("  plain " : Str).length = 8 := by decide +kernel
  have l2 : ("  ref " : Str).length = 6 := by decide +kernel
  have l3 : (" " : Str).length = 1 := by decide +kernel
  cases t with
  | none =>
    rw [← row_plain] at hd
    exact st_ret st (ev_if (b := true) (et_test (ev_op (ev_var rfl) ev_non od_isN)) (fun _ => ev_joined (ej_cons ev_str (by simp only [len_app]; omega) (ej_cons (ev_fmt (y := n) (ev_var rfl) (by omega)) (by simp only [len_app]; omega) ej_nil))) (fun z => by cases z)) hd
  | some t =>
    have ht8 : t.length ≤ 8 := (hc.2 t rfl).2.2.1
    rw [← row_ref] at hd
    exact st_ret st (ev_if (b := false) (et_test (ev_op (ev_var rfl) ev_non od_isN)) (fun z => by cases z) (fun _ => ev_joined (ej_cons ev_str (by simp only [len_app]; omega) (ej_cons (ev_fmt (y := n) (ev_var rfl) (by omega)) (by simp only [len_app]; omega) (ej_cons ev_str (by simp only [len_app]; omega) (ej_cons (ev_fmt (y := t) (ev_var rfl) (by omega)) (by simp only [len_app]; omega) ej_nil)))))) hd
theorem words_snoc (T : List Tab) (i : Nat) (t : Tab) (h : T[i]? = some t) : rowsOf (T.take (i + 1)) = rowsOf (T.take i) ++ [rowOf ["table", t.1]] ++ t.2.map (fun c => rowOf (colWords c)) := by
  unfold rowsOf words
  rw [List.take_add_one, h, List.flatMap_append, List.map_append]
  have : [t].flatMap tabWords = tabWords t := by simp
  rw [show (some t).toList = [t] from rfl, this]
  unfold tabWords
  rw [List.map_cons, List.map_map, List.append_assoc]
  rfl
theorem rows_len {T : List Tab} (h : tabsOk T) : ∀ i, (rowsOf (T.take i)).length ≤ 5 * i := by
  intro i
  induction i with
  | zero => simp [rowsOf, words]
  | succ i ih =>
    by_cases hi : i < T.length
    · rw [words_snoc T i _ (List.getElem?_eq_getElem hi)]
      simp only [List.length_append, List.length_map, List.length_cons, List.length_nil]
      have := (h.2 _ (List.getElem_mem hi)).2.1
      omega
    · have e : T.take (i + 1) = T.take i := by rw [List.take_of_length_le (by omega), List.take_of_length_le (by omega)]
      rw [e]; omega
theorem ok_rows {f fC : Addr} {fd fdC : FuncData} (F : Fun K "text_rows" "text_rows" s_text_rows f fd) (G_column_row : Def P w K mg base 1 "column_row" fC fdC ["name", "target"] (spM K preColRow)) : FnOk P w K mg base CX0 2 f fd ["tables"] (spM K preRows) := by
  refine ok_body F sc_text_rows (fun rs Pl cs r cs' h => ?_) (fun X hX hr => ?_)
  · obtain ⟨T, rfl, _⟩ := h
    rfl
  obtain ⟨cdv, A, outer, s, H, E, rfl⟩ := hX
  have nd := sc_text_rows.nd
  refine ⟨_, (pss_cons (ps_set (i := 1) nd rfl (.inl rfl) (pe_lst pa_nil))
      (pss_cons (ps_for PassesOwn.never rfl (pi_list (pv 0)) (pg_tup (by rfl) (by exact (pgs_cons (by exact (pg_name (i := 2) nd (by rfl) (by first | exact .inl rfl | exact .inr rfl))) (by exact (pgs_cons (by exact (pg_name (i := 3) nd (by rfl) (by first | exact .inl rfl | exact .inr rfl))) (by exact pgs_nil)))))) (pss_cons (ps_expr (pe_bm PySem.F.plainAttrs_list PySem.F.slot_list_append PySem.F.type_list_append mt_append (pv 1) (pa_cons (pe_joined (PJ.cons pe_str (PJ.cons (pe_fmt (pv 2)) PJ.nil))) pa_nil)))
      (pss_one (ps_expr (pe_bm PySem.F.plainAttrs_list PySem.F.slot_list_extend PySem.F.type_list_extend mt_extend (pv 1) (pa_cons (pe_lc (own := [("name", 4), ("target", 5)]) (g := (gTup K 2 (gCons (gName 4) (gCons (gName 5) gNil)))) (tt := tYes) (te := (tCall _ [] E0 (tCons (tVar 4) (tCons (tVar 5) tNil)))) rfl nd (pi_list (pv 3)) (blkOk_by (N := N_text_rows) (sc := defScope s_text_rows) (by decide +kernel)) (by intro _ _ _ _ _; exact (pg_tup (by rfl) (by exact (pgs_cons (by exact (pg_name (i := 4) nd (by rfl) (by first | exact .inl rfl | exact .inr rfl))) (by exact (pgs_cons (by exact (pg_name (i := 5) nd (by rfl) (by first | exact .inl rfl | exact .inr rfl))) (by exact pgs_nil))))))) (by intro _ _ _ _ _; exact pts_nil) (by intro _ _ _ _ _; exact (pe_def G_column_row hr (by decide) (by rfl) (pa_cons (pv 4) (pa_cons (pv 5) pa_nil))))) pa_nil))))))
      (pss_one (ps_ret (pv 1))))), ?_⟩
  intro rs Pl cs r cs' hp B0 H0 σ Dn st hP hd hn
  obtain ⟨T, rfl, hT, rfl, rfl, rfl, rfl⟩ := hp
  refine st_new (i := 1) st (fun p σ1 H1 hp0 hpn st1 => ?_)
  refine st_for (α := Unit) st1 (wd_lst (ev_var rfl)) (fun _ _ => True) (fun _ _ => [.dat (encTs T), .val (.ref p), .any, .any, .any, .any]) (fun i _ => [(rowsOf (T.take i)).map D.str]) () True.intro ⟨.rfl _, .rfl _, .any _, .any _, .any _, .any _, True.intro⟩ rfl ?_ ?_
  · intro B1 H1' s1 i d z hd' _
    obtain ⟨t, ht, rfl⟩ := map_get hd'
    obtain ⟨hw, hc4, hcs⟩ := hT.2 t (List.mem_of_getElem? ht)
    have hi : i < T.length := (List.getElem?_eq_some_iff.mp ht).1
    have hrl := rows_len hT i
    have h3 := hT.1
    have l0 : (Str.empty).length = 0 := rfl
    have l1 : ("table " : Str).length = 6 := by decide +kernel
    have hn8 : t.1.length ≤ 8 := hw.2.2.1
    refine ⟨_, _, g_tup (g_cons g_name (g_cons g_name g_nil)), fun σ2 H2 st2 => ?_⟩
    refine st_app (j := 0) (cs1 := [(rowsOf (T.take i)).map D.str]) (ds := (rowsOf (T.take i)).map D.str) (d := .str (rowOf ["table", t.1])) st2 rfl ?_ rfl ⟨_, rfl⟩ rfl (by rw [List.length_map]; omega) (fun H3 st3 => ?_)
    · rw [← row_table]
      exact ev_joined (ej_cons ev_str (by simp only [len_app]; omega) (ej_cons (ev_fmt (ev_var rfl) (by omega)) (by simp only [len_app]; omega) ej_nil))
    refine st_ext (j := 0) (ds := (rowsOf (T.take i)).map D.str ++ [D.str (rowOf ["table", t.1])]) (es := (t.2.map encC).map fun d => match d with | .tup [.str n, .non] => .str (rowOf (colWords (n, none))) | .tup [.str n, .str t] => .str (rowOf (colWords (n, some t))) | _ => .non) st3 rfl (EvF.ev (ef_map (wd_lst (ev_var rfl)) _ (by rw [List.length_map]; omega) (fun p' i' d' acc hd2 => ?_))) rfl ⟨_, rfl⟩ rfl (by
      simp only [List.length_append, List.length_map, List.length_cons, List.length_nil]; omega) (fun H4 st4 => ⟨(), True.intro, ?_⟩)
    · obtain ⟨⟨n, t'⟩, hm, rfl⟩ := map_get hd2
      have hco := hcs _ (List.mem_of_getElem? hm)
      cases t' with
      | none => exact ⟨_, _, g_tup (g_cons g_name (g_cons g_name g_nil)), by decide, ev_call0 (ea_cons (ev_var rfl) (ea_cons (ev_var rfl) ea_nil)) ⟨(n, none), .non, rfl, rfl, hco, rfl, rfl, rfl, rfl⟩⟩
      | some t' => exact ⟨_, _, g_tup (g_cons g_name (g_cons g_name g_nil)), by decide, ev_call0 (ea_cons (ev_var rfl) (ea_cons (ev_var rfl) ea_nil)) ⟨(n, some t'), .str t', rfl, rfl, hco, rfl, rfl, rfl, rfl⟩⟩
    · have e : ((rowsOf (T.take i)).map D.str ++ [D.str (rowOf ["table", t.1])]) ++ ((t.2.map encC).map fun d => match d with | .tup [.str n, .non] => .str (rowOf (colWords (n, none))) | .tup [.str n, .str t] => .str (rowOf (colWords (n, some t))) | _ => .non) = (rowsOf (T.take (i + 1))).map D.str := by
        rw [words_snoc T i t ht, List.map_append, List.map_append, List.map_map, List.map_map]
        congr 1
        apply List.map_congr_left
        intro c _
        obtain ⟨n, t'⟩ := c
        cases t' <;> rfl
      show Sta K [p] B1 H1' [.dat (encTs T), .val (.ref p), .any, .any, .any, .any] [(rowsOf (T.take (i + 1))).map D.str] σ2 H4
      rw [← e]
      exact st4.le ⟨.rfl _, .rfl _, .any _, .any _, .rfl _, .rfl _, True.intro⟩
  · intro z σ2 H2 _ st2
    have st3 := Sta.pub (i := 1) st2 hp0 rfl
    rw [List.length_map, List.take_length] at st3
    exact st_ret st3 (ev_var rfl) hd
theorem ok_is_name {f : Addr} {fd : FuncData} (F : Fun K "is_name" "is_name" s_is_name f fd) (b_len : mg "len" = none) (g_MOST_LETTERS : ∃ t, mg "MOST_LETTERS" = some (.int 8 t)) : FnOk P w K mg base CX0 1 f fd ["word"] (spM K preIsName) := by
  obtain ⟨tk, g_MOST_LETTERS⟩ := g_MOST_LETTERS
  refine ok_body F sc_is_name (fun rs Pl cs r cs' h => ?_) (fun X hX hr => ?_)
  · obtain ⟨w, rfl, _⟩ := h
    rfl
  obtain ⟨cdv, A, outer, s, H, E, rfl⟩ := hX
  have nd := sc_is_name.nd
  refine ⟨_, (pss_one (ps_ret (pe_and (pe_cmpR op_le (pe_callB call_len1 (by rfl) b_len PySem.boot_len (pa_cons (pv 0) pa_nil)) (pe_glob (v := .int 8) rfl g_MOST_LETTERS ⟨_, rfl⟩) (nomark _)) (pe_and (pe_m0 PySem.F.slot_str_isascii PySem.F.type_str_isascii mt_isascii (pv 0)) (pe_and (pe_m0 PySem.F.slot_str_isalpha PySem.F.type_str_isalpha mt_isalpha (pv 0)) (pe_one (pe_m0 PySem.F.slot_str_islower PySem.F.type_str_islower mt_islower (pv 0)))))))), ?_⟩
  intro rs Pl cs r cs' hp B0 H0 σ Dn st hP hd hn
  obtain ⟨w, rfl, hl, rfl, rfl, rfl, rfl⟩ := hp
  refine st_ret st (ev_andV (ev_op (ev_cb (ea_cons (ev_var rfl) ea_nil) (cb_lenS hl)) ev_int (od_I0 fun _ => .bl _)) (fun _ => ev_andV (ev_m0 (ev_var rfl) (fun H Q q => ⟨w, rfl, rfl, True.intro, q _ (.bl _)⟩))
    (fun _ => ev_andV (ev_m0 (ev_var rfl) (fun H Q q => ⟨w, rfl, rfl, True.intro, q _ (.bl _)⟩)) (fun _ => ev_m0 (ev_var rfl) (fun H Q q => ⟨w, rfl, rfl, True.intro, q _ (.bl _)⟩))))) hd
theorem ok_is_new {f fN : Addr} {fd fdN : FuncData} (F : Fun K "is_new_name" "is_new_name" s_is_new_name f fd) (G_is_name : Def P w K mg base 1 "is_name" fN fdN ["word"] (spM K preIsName)) : FnOk P w K mg base CX0 2 f fd ["word", "pairs"] (spM K preIsNew) := by
  refine ok_body F sc_is_new_name (fun rs Pl cs r cs' h => ?_) (fun X hX hr => ?_)
  · obtain ⟨w, ds, ns, rfl, _⟩ := h
    rfl
  obtain ⟨cdv, A, outer, s, H, E, rfl⟩ := hX
  have nd := sc_is_new_name.nd
  refine ⟨_, (pss_one (ps_ret (pe_and (pe_def G_is_name hr (by decide) (by rfl) (pa_cons (pv 0) pa_nil)) (pe_one (pe_cmpR op_notIn_seq (pv 0) (pe_lc (own := [("pair", 2)]) (g := (gName 2)) (tt := tYes) (te := (tOp (rIx K) (tVar 2) (tC (.int 0)))) rfl nd (pi_list (pv 1)) (blkOk_by (N := N_is_new_name) (sc := defScope s_is_new_name) (by decide +kernel)) (by intro _ _ _ _ _; exact (pg_name (i := 2) nd (by rfl) (by first | exact .inl rfl | exact .inr rfl))) (by intro _ _ _ _ _; exact pts_nil) (by intro _ _ _ _ _; exact (pe_ix ix_seq (pv 2) pe_int (fun _ _ => rfl)))) (by rfl)))))), ?_⟩
  intro rs Pl cs r cs' hp B0 H0 σ Dn st hP hd hn
  obtain ⟨w, ds, ns, rfl, hl, hdl, hm, ht, rfl, rfl, rfl, rfl⟩ := hp
  refine st_ret st (ev_andV (ev_call0 (ea_cons (ev_var rfl) ea_nil) ⟨w, rfl, hl, rfl, rfl, rfl, rfl⟩) (fun _ => ev_op (ev_var rfl) (hm ▸ EvF.ev (ef_map (wd_lst (ev_var rfl)) fstD (by omega) (fun p i d acc hd' => ?_))) od_niS)) hd
  have hi := ht d (List.mem_of_getElem? hd')
  match d, hi with
  | .tup (x :: r), _ => exact ⟨_, _, g_name, by decide, ev_op (ev_var rfl) ev_int (od_ixT (atI_nat (j := 0) rfl))⟩
theorem strs_get {ws : List Str} {j : Nat} {x : Str} (h : ws[j]? = some x) : (ws.map D.str)[j]? = some (.str x) := by rw [List.getElem?_map, h]; rfl
theorem ok_begins {f fN : Addr} {fd fdN : FuncData} (F : Fun K "begins_table" "begins_table" s_begins_table f fd) (G_is_new_name : Def P w K mg base 2 "is_new_name" fN fdN ["word", "pairs"] (spM K preIsNew)) (b_len : mg "len" = none)
    (g_MOST_TABLES : ∃ t, mg "MOST_TABLES" = some (.int 3 t)) : FnOk P w K mg base CX0 3 f fd ["tables", "words"] (spM K preBegins) := by
  obtain ⟨tk, g_MOST_TABLES⟩ := g_MOST_TABLES
  refine ok_body F sc_begins_table (fun rs Pl cs r cs' h => ?_) (fun X hX hr => ?_)
  · obtain ⟨T, ws, rfl, _⟩ := h
    rfl
  obtain ⟨cdv, A, outer, s, H, E, rfl⟩ := hX
  have nd := sc_begins_table.nd
  refine ⟨_, (pss_cons (ps_if (PW.pt (pw_or (pt_cmpR (op_neA hr.units) (pe_callB call_len1 (by rfl) b_len PySem.boot_len (pa_cons (pv 1) pa_nil)) pe_int (nomark _)) (pw_or1 (pt_cmpR (op_neA hr.units) (pe_ix ix_seq (pv 1) pe_int (fun _ _ => rfl)) pe_str (nomark _))))) (pss_one (ps_ret pe_bl)) pss_nil)
      (pss_one (ps_ret (pe_and (pe_cmpR op_lt (pe_callB call_len1 (by rfl) b_len PySem.boot_len (pa_cons (pv 0) pa_nil)) (pe_glob (v := .int 3) rfl g_MOST_TABLES ⟨_, rfl⟩) (nomark _)) (pe_one (pe_def G_is_new_name hr (by decide) (by rfl) (pa_cons (pe_ix ix_seq (pv 1) pe_int (fun _ _ => rfl)) (pa_cons (pv 0) pa_nil)))))))), ?_⟩
  intro rs Pl cs r cs' hp B0 H0 σ Dn st hP hd hn
  obtain ⟨T, ws, rfl, hT, hws, rfl, rfl, rfl, rfl⟩ := hp
  have hlen : decide (((ws.map D.str).length : Int) = 2) = decide (ws.length = 2) := by
    rw [List.length_map, Bool.eq_iff_iff]
    simp only [decide_eq_true_eq]
    omega
  by_cases h2 : ws.length = 2
  · obtain ⟨a, b, rfl⟩ : ∃ a b, ws = [a, b] := by
      match ws, h2 with
      | [a, b], _ => exact ⟨a, b, rfl⟩
    have e : (!decide ((([a, b] : List Str).map D.str).length = (2 : Int))) = false := by rfl
    have hb := hws.2 b (by simp)
    refine st_if (b := !decide (a = "table")) st (EvT.eq (et_or (et_test (ev_op (ev_cb (ea_cons (ev_var rfl) ea_nil) cb_lenL) ev_int od_neI)) (fun _ => et_test (ev_op (ev_op (ev_var rfl) ev_int (od_ixL (atI_nat (j := 0) rfl))) ev_str od_neS))) rfl) (fun hb' H1 st1 => ?_) (fun hb' H1 st1 => ?_)
    · have hne : beginsT T [a, b] = false := by
        have : decide (a = ("table" : Str)) = false := by simpa using hb'
        unfold beginsT
        simp only [this, Bool.false_and]
      rw [hne] at hd
      exact st_ret st1 ev_bl hd
    · have he : beginsT T [a, b] = (decide ((T.length : Int) < 3) && isNew b (T.map Prod.fst)) := by
        have : decide (a = ("table" : Str)) = true := by simpa using hb'
        unfold beginsT
        simp only [this, Bool.true_and]
      rw [he] at hd
      have hl : ((T.map encT).length : Int) = (T.length : Int) := by rw [List.length_map]
      refine st_ret st1 (ev_andV (a := decide ((T.length : Int) < 3)) (Ev.eq (ev_op (ev_cb (ea_cons (ev_var rfl) ea_nil) cb_lenL) ev_int (od_I0 fun _ => .bl _)) (by rw [List.length_map])) (fun _ => ?_)) hd
      exact ev_call0 (ea_cons (ev_op (ev_var rfl) ev_int (od_ixL (atI_nat (j := 1) rfl))) (ea_cons (ev_var rfl) ea_nil)) ⟨b, T.map encT, T.map Prod.fst, rfl, hb.1, by rw [List.length_map]; exact hT, fst_encT T, tup_encT T, rfl, rfl, rfl, rfl⟩
  · have hne : beginsT T ws = false := by
      unfold beginsT
      match ws, h2 with
      | [], _ => rfl
      | [_], _ => rfl
      | _ :: _ :: _ :: _, _ => rfl
    rw [hne] at hd
    refine st_if (b := true) st (EvT.eq (et_or (b := true) (et_test (ev_op (ev_cb (ea_cons (ev_var rfl) ea_nil) cb_lenL) ev_int od_neI)) (fun z => ?_)) ?_) (fun hb' H1 st1 => st_ret st1 ev_bl hd) (fun z => by cases z)
    · rw [hlen, decide_eq_false h2] at z
      cases z
    · rw [hlen, decide_eq_false h2]
      rfl
/-- the words ahead: ws[:3] == [x, y, z] -/
theorem cut3 (ws : List Str) : cutD (ws.map D.str) none (some 3) = (ws.take 3).map D.str := by
  unfold cutD
  rw [HT.sIx_none, show HT.sIx (ws.map D.str).length (ws.map D.str).length (some 3) = min 3 (ws.map D.str).length from HT.sIx_nat _ _ 3]
  rw [List.drop_zero, Nat.sub_zero, ← List.map_take]
  rw [List.length_map]
  congr 1
  by_cases h : 3 ≤ ws.length
  · rw [Nat.min_eq_left h]
  · rw [Nat.min_eq_right (by omega), List.take_of_length_le (by omega), List.take_of_length_le (by omega)]
theorem sh_strs {l : List Str} (h : ∀ w ∈ l, PyData.strOk w = true) : D.sh 1 (.lst (l.map D.str)) = true := D.shA_all fun d hd => by
  obtain ⟨x, hx, rfl⟩ := List.mem_map.mp hd
  exact h x hx
theorem nb_strs (l : List Str) : D.nb (.lst (l.map D.str)) = true := D.nbA_all fun d hd => by
  obtain ⟨x, hx, rfl⟩ := List.mem_map.mp hd
  rfl
theorem strs_inj {l m : List Str} : D.lst (l.map D.str) = D.lst (m.map D.str) ↔ l = m := by
  constructor
  · intro h
    have h' : l.map D.str = m.map D.str := D.lst.inj h
    exact List.map_inj_right (fun a b e => D.str.inj e) |>.mp h'
  · intro h; rw [h]
theorem et_take3 {Pl : List Addr} {ss : List Sl} {cs : List (List D)} {ws : List Str} {x y z : Str} {i : Nat} (hi : ss[i]? = some (.dat (.lst (ws.map D.str)))) (hws : wordsIn ws) (hx : PyData.strOk x = true) (hy : PyData.strOk y = true) (hz : PyData.strOk z = true) :
    EvT K Pl ss cs (tTest (tOp (neA K) (tSl (rSl3 K) (tVar i) tNoPart (tPart (tC (.int 3)))) (tLst (tCons (tC (.str x)) (tCons (tC (.str y)) (tCons (tC (.str z)) tNil)))))) (!decide (ws.take 3 = [x, y, z])) cs := by
  refine et_test (ev_op (r1 := .dat (.lst ((ws.take 3).map D.str))) (r2 := .dat (.lst (([x, y, z] : List Str).map D.str))) (cut3 ws ▸ ev_sl (ev_var hi) eo_none (eo_some ev_int) sd_L) (ev_lst (ds := [.str x, .str y, .str z]) (ea_cons ev_str (ea_cons ev_str (ea_cons ev_str ea_nil))) (by simp)) (od_r (od_ne 1 1 (sh_strs fun w hw => (hws.2 w (List.mem_of_mem_take hw)).2) (sh_strs ?_) (nb_strs _) (nb_strs _) ?_)))
  · intro w hw
    simp only [List.mem_cons, List.not_mem_nil, or_false] at hw
    rcases hw with rfl | rfl | rfl <;> assumption
  · rw [decide_eq_true_eq]
    exact strs_inj.symm
theorem lastD (T : List Tab) (t : Tab) : atI ((T ++ [t]).map encT) (-1) = some (encT t) := by
  rw [List.map_append]
  exact atI_last _ _
theorem addsP_take {T : List Tab} {t : Tab} {ws : List Str} (h : addsP (T ++ [t]) ws = true) : ws.length = 4 ∧ ws.take 3 = (["", "", "plain"] : List Str) := by
  unfold addsP at h
  rw [last_snoc] at h
  match ws, h with
  | [a, b, c, d], h =>
    simp only [Bool.and_eq_true, decide_eq_true_eq] at h
    exact ⟨rfl, h.1⟩
theorem isNewT {ws : List Str} {j : Nat} {d : Str} (h : ws[j]? = some d) (hws : wordsIn ws) : d.length ≤ 1000000 := (hws.2 d (List.mem_of_getElem? h)).1
theorem ok_plain {f fC fN : Addr} {fd fdC fdN : FuncData} (F : Fun K "adds_plain" "adds_plain" s_adds_plain f fd) (G_count_references : Def P w K mg base 1 "count_references" fC fdC ["columns"] (spM K preCount))
    (G_is_new_name : Def P w K mg base 2 "is_new_name" fN fdN ["word", "pairs"] (spM K preIsNew)) (b_len : mg "len" = none) (g_MOST_PLAIN : ∃ t, mg "MOST_PLAIN" = some (.int 2 t)) : FnOk P w K mg base CX0 3 f fd ["tables", "words"] (spM K prePlain) := by
  obtain ⟨tk, g_MOST_PLAIN⟩ := g_MOST_PLAIN
  refine ok_body F sc_adds_plain (fun rs Pl cs r cs' h => ?_) (fun X hX hr => ?_)
  · obtain ⟨T, ws, rfl, _⟩ := h
    rfl
  obtain ⟨cdv, A, outer, s, H, E, rfl⟩ := hX
  have nd := sc_adds_plain.nd
  refine ⟨_, (pss_cons (ps_if (PW.pt (pw_or (pt_not (pt_truth (pv 0) (by intro _; rfl))) (pw_or (pt_cmpR (op_neA hr.units) (pe_callB call_len1 (by rfl) b_len PySem.boot_len (pa_cons (pv 1) pa_nil)) pe_int (nomark _)) (pw_or1 (pt_cmpR (op_neA hr.units) (pe_slice sl_3 (pv 1) po_none (po_some pe_int)) (pe_lst (pa_cons pe_str (pa_cons pe_str (pa_cons pe_str pa_nil)))) (nomark _)))))) (pss_one (ps_ret pe_bl)) pss_nil)
      (pss_cons (ps_set (i := 2) nd rfl (.inl rfl) (pe_ix ix_seq (pe_ix ix_seq (pv 0) (pe_un un_neg pe_int) (fun _ _ => rfl)) pe_int (fun _ _ => rfl)))
      (pss_cons (ps_if (PW.pt (pw_or (pt_cmpR op_gt (pe_def G_count_references hr (by decide) (by rfl) (pa_cons (pv 2) pa_nil)) pe_int (nomark _)) (pw_or1 (pt_cmpR (op_eqA hr.units) (pe_callB call_len1 (by rfl) b_len PySem.boot_len (pa_cons (pv 2) pa_nil)) (pe_glob (v := .int 2) rfl g_MOST_PLAIN ⟨_, rfl⟩) (nomark _))))) (pss_one (ps_ret pe_bl)) pss_nil)
      (pss_one (ps_ret (pe_def G_is_new_name hr (by decide) (by rfl) (pa_cons (pe_ix ix_seq (pv 1) pe_int (fun _ _ => rfl)) (pa_cons (pv 2) pa_nil)))))))), ?_⟩
  intro rs Pl cs r cs' hp B0 H0 σ Dn st hP hd hn
  obtain ⟨T, ws, rfl, hT, hws, rfl, rfl, rfl, rfl⟩ := hp
  refine st_if (b := (!(!(T.map encT).isEmpty)) || ((!decide (((ws.map D.str).length : Int) = 4)) || !decide (ws.take 3 = (["", "", "plain"] : List Str)))) st
    (et_or (et_not (et_truL (ev_var rfl))) (fun _ => et_or (et_test (ev_op (ev_cb (ea_cons (ev_var rfl) ea_nil) cb_lenL) ev_int od_neI)) (fun _ => et_take3 rfl hws wordOk_empty.2.2.2 wordOk_empty.2.2.2 wordOk_plain.2.2.2))) (fun hb H1 st1 => ?_) (fun hb H1 st1 => ?_)
  · have hne : addsP T ws = false := by
      rcases List.eq_nil_or_concat T with rfl | ⟨T', t, rfl⟩
      · unfold addsP
        match ws with
        | [] => rfl
        | [_] => rfl
        | [_, _] => rfl
        | [_, _, _] => rfl
        | [_, _, _, _] => rfl
        | _ :: _ :: _ :: _ :: _ :: _ => rfl
      · cases e : addsP (T'.concat t) ws with
        | false => rfl
        | true =>
          rw [List.concat_eq_append] at e hb
          obtain ⟨h1, h2⟩ := addsP_take e
          rw [h2, List.length_map, h1] at hb
          simp at hb
    rw [hne] at hd
    exact st_ret st1 ev_bl hd
  · simp only [Bool.or_eq_false_iff, Bool.not_eq_false', Bool.not_eq_true', decide_eq_true_eq, List.length_map] at hb
    obtain ⟨h0, h1, h2⟩ := hb
    rcases List.eq_nil_or_concat T with rfl | ⟨T', t, rfl⟩
    · simp at h0
    rw [List.concat_eq_append] at *
    obtain ⟨a, b, c, d, rfl⟩ : ∃ a b c d, ws = [a, b, c, d] := by
      match ws, (show ws.length = 4 by omega) with
      | [a, b, c, d], _ => exact ⟨a, b, c, d, rfl⟩
    have habc : ([a, b, c] : List Str) = (["", "", "plain"] : List Str) := h2
    have htl : t.2.length ≤ 1000 := hT.2 t (by simp)
    have he : addsP (T' ++ [t]) [a, b, c, d] = (!(decide (0 < (refsN t.2 : Int)) || decide ((t.2.length : Int) = 2)) && isNew d (t.2.map Prod.fst)) := by
      unfold addsP
      rw [last_snoc]
      simp only [habc, decide_true, Bool.true_and]
    rw [he] at hd
    refine st_asg (i := 2) (r := .dat (.lst (t.2.map encC))) (cs1 := []) st1 (ev_op (ev_op (ev_var (r := .dat (encTs (T' ++ [t]))) rfl) (ev_un (r1 := .dat (.int 1)) (r := .dat (.int (-1))) ev_int (fun B H x e h Q q => by
      cases (show Rp _ B x (.int 1) from h)
      exact ⟨1, rfl, q _ B H (Stp.refl _ _ _) e (.int _)⟩)) (od_ixL (lastD T' t))) ev_int (od_ixT (atI_nat (j := 1) rfl))) (fun σ2 H2 st2 => ?_)
    refine st_if (b := decide (0 < (refsN t.2 : Int)) || decide (((t.2.map encC).length : Int) = 2)) st2 (et_or (et_test (ev_op (ev_call0 (ea_cons (ev_var rfl) ea_nil) ⟨t.2, rfl, htl, rfl, rfl, rfl, rfl⟩) ev_int (od_I0 fun _ => .bl _))) (fun _ => et_test (ev_op (ev_cb (ea_cons (ev_var rfl) ea_nil) cb_lenL) ev_int od_eqI))) (fun hb H3 st3 => ?_) (fun hb H3 st3 => ?_)
    · rw [List.length_map] at hb
      rw [hb] at hd
      exact st_ret st3 ev_bl hd
    · rw [List.length_map] at hb
      rw [hb] at hd
      exact st_ret st3 (ev_call0 (ea_cons (ev_op (ev_var rfl) ev_int (od_ixL (atI_nat (j := 3) rfl))) (ea_cons (ev_var rfl) ea_nil)) ⟨d, t.2.map encC, t.2.map Prod.fst, rfl, isNewT (j := 3) rfl hws, by rw [List.length_map]; exact htl, fst_encC _, tup_encC _, rfl, rfl, rfl, rfl⟩) hd
theorem addsR_take {T : List Tab} {t : Tab} {ws : List Str} (h : addsR (T ++ [t]) ws = true) : ws.length = 5 ∧ ws.take 3 = (["", "", "ref"] : List Str) := by
  unfold addsR at h
  rw [last_snoc] at h
  match ws, h with
  | [a, b, c, d, e], h =>
    simp only [Bool.and_eq_true, decide_eq_true_eq] at h
    exact ⟨rfl, h.1⟩
theorem cutLast (T : List Tab) (t : Tab) : cutD ((T ++ [t]).map encT) none (some (-1)) = T.map encT := by
  unfold cutD
  rw [HT.sIx_none]
  have e : HT.sIx ((T ++ [t]).map encT).length ((T ++ [t]).map encT).length (some (-1)) = T.length := by
    show (if (-1 : Int) < 0 then ((-1 : Int) + (((T ++ [t]).map encT).length : Int)).toNat else min (-1 : Int).toNat ((T ++ [t]).map encT).length) = T.length
    rw [if_pos (by decide)]
    simp
    omega
  rw [e, List.drop_zero, Nat.sub_zero, List.map_append, List.take_append_of_le_length (by simp), List.take_of_length_le (by simp)]
theorem ev_neg1 {Pl : List Addr} {ss : List Sl} {cs : List (List D)} : Ev K Pl ss cs (tUn (rU fun i => .int (-i)) (tC (.int 1))) (.dat (.int (-1))) cs := ev_un (r1 := .dat (.int 1)) ev_int (fun B H x e h Q q => by
  cases (show Rp K B x (.int 1) from h)
  exact ⟨1, rfl, q _ B H (Stp.refl _ _ _) e (.int _)⟩)
theorem ok_ref {f fC fN : Addr} {fd fdC fdN : FuncData} (F : Fun K "adds_reference" "adds_reference" s_adds_reference f fd) (G_count_references : Def P w K mg base 1 "count_references" fC fdC ["columns"] (spM K preCount))
    (G_is_new_name : Def P w K mg base 2 "is_new_name" fN fdN ["word", "pairs"] (spM K preIsNew)) (b_len : mg "len" = none) (b_sum : mg "sum" = none) (g_MOST_REFERENCES : ∃ t, mg "MOST_REFERENCES" = some (.int 2 t)) (g_MOST_REFERENCES_IN_ALL : ∃ t, mg "MOST_REFERENCES_IN_ALL" = some (.int 3 t)) :
    FnOk P w K mg base CX0 3 f fd ["tables", "words"] (spM K preRef) := by
  obtain ⟨tk, g_MOST_REFERENCES⟩ := g_MOST_REFERENCES
  obtain ⟨tk2, g_MOST_REFERENCES_IN_ALL⟩ := g_MOST_REFERENCES_IN_ALL
  refine ok_body F sc_adds_reference (fun rs Pl cs r cs' h => ?_) (fun X hX hr => ?_)
  · obtain ⟨T, ws, rfl, _⟩ := h
    rfl
  obtain ⟨cdv, A, outer, s, H, E, rfl⟩ := hX
  have nd := sc_adds_reference.nd
  refine ⟨_, (pss_cons (ps_if (PW.pt (pw_or (pt_not (pt_truth (pv 0) (by intro _; rfl))) (pw_or (pt_cmpR (op_neA hr.units) (pe_callB call_len1 (by rfl) b_len PySem.boot_len (pa_cons (pv 1) pa_nil)) pe_int (nomark _)) (pw_or1 (pt_cmpR (op_neA hr.units) (pe_slice sl_3 (pv 1) po_none (po_some pe_int)) (pe_lst (pa_cons pe_str (pa_cons pe_str (pa_cons pe_str pa_nil)))) (nomark _)))))) (pss_one (ps_ret pe_bl)) pss_nil)
      (pss_cons (ps_set (i := 2) nd rfl (.inl rfl) (pe_ix ix_seq (pe_ix ix_seq (pv 0) (pe_un un_neg pe_int) (fun _ _ => rfl)) pe_int (fun _ _ => rfl)))
      (pss_cons (ps_if (pt_cmpR (op_eqA hr.units) (pe_def G_count_references hr (by decide) (by rfl) (pa_cons (pv 2) pa_nil)) (pe_glob (v := .int 2) rfl g_MOST_REFERENCES ⟨_, rfl⟩) (nomark _)) (pss_one (ps_ret pe_bl)) pss_nil)
      (pss_cons (ps_if (pt_cmpR (op_eqA hr.units) (pe_callB (cr_sum rfl) (by rfl) b_sum (by decide +kernel) (pa_cons (pe_lc (own := [("pair", 4)]) (g := (gName 4)) (tt := tYes) (te := (tCall _ [] E0 (tCons (tOp (rIx K) (tVar 4) (tC (.int 1))) tNil))) rfl nd (pi_list (pv 0)) (blkOk_by (N := N_adds_reference) (sc := defScope s_adds_reference) (by decide +kernel)) (by intro _ _ _ _ _; exact (pg_name (i := 4) nd (by rfl) (by first | exact .inl rfl | exact .inr rfl))) (by intro _ _ _ _ _; exact pts_nil) (by intro _ _ _ _ _; exact (pe_def G_count_references hr (by decide) (by rfl) (pa_cons (pe_ix ix_seq (pv 4) pe_int (fun _ _ => rfl)) pa_nil)))) pa_nil)) (pe_glob (v := .int 3) rfl g_MOST_REFERENCES_IN_ALL ⟨_, rfl⟩) (nomark _)) (pss_one (ps_ret pe_bl)) pss_nil)
      (pss_cons (ps_setLc (i := 3) (own := [("pair", 4)]) (g := (gName 4)) (tt := tYes) (te := (tOp (rIx K) (tVar 4) (tC (.int 0)))) rfl nd rfl rfl (sw_true rfl rfl rfl (by decide +kernel)) (pi_list (pe_slice sl_3 (pv 0) po_none (po_some (pe_un un_neg pe_int)))) (blkOk_by (N := N_adds_reference) (sc := defScope s_adds_reference) (by decide +kernel)) (by intro _ _ _ _ _; exact (pg_name (i := 4) nd (by rfl) (by first | exact .inl rfl | exact .inr rfl))) (by intro _ _ _ _ _; exact pts_nil) (by intro _ _ _ _ _; exact (pe_ix ix_seq (pv 4) pe_int (fun _ _ => rfl))))
      (pss_one (ps_ret (pe_and (pe_def G_is_new_name hr (by decide) (by rfl) (pa_cons (pe_ix ix_seq (pv 1) pe_int (fun _ _ => rfl)) (pa_cons (pv 2) pa_nil))) (pe_one (pe_cmpR op_in_seq (pe_ix ix_seq (pv 1) pe_int (fun _ _ => rfl)) (pv 3) (by rfl))))))))))), ?_⟩
  intro rs Pl cs r cs' hp B0 H0 σ Dn st hP hd hn
  obtain ⟨T, ws, rfl, hT, hws, rfl, rfl, rfl, rfl⟩ := hp
  refine st_if (b := (!(!(T.map encT).isEmpty)) || ((!decide (((ws.map D.str).length : Int) = 5)) || !decide (ws.take 3 = (["", "", "ref"] : List Str)))) st
    (et_or (et_not (et_truL (ev_var rfl))) (fun _ => et_or (et_test (ev_op (ev_cb (ea_cons (ev_var rfl) ea_nil) cb_lenL) ev_int od_neI)) (fun _ => et_take3 rfl hws wordOk_empty.2.2.2 wordOk_empty.2.2.2 wordOk_ref.2.2.2))) (fun hb H1 st1 => ?_) (fun hb H1 st1 => ?_)
  · have hne : addsR T ws = false := by
      rcases List.eq_nil_or_concat T with rfl | ⟨T', t, rfl⟩
      · unfold addsR
        match ws with
        | [] => rfl
        | [_] => rfl
        | [_, _] => rfl
        | [_, _, _] => rfl
        | [_, _, _, _] => rfl
        | [_, _, _, _, _] => rfl
        | _ :: _ :: _ :: _ :: _ :: _ :: _ => rfl
      · cases e : addsR (T'.concat t) ws with
        | false => rfl
        | true =>
          rw [List.concat_eq_append] at e hb
          obtain ⟨h1, h2⟩ := addsR_take e
          rw [h2, List.length_map, h1] at hb
          simp at hb
    rw [hne] at hd
    exact st_ret st1 ev_bl hd
  · simp only [Bool.or_eq_false_iff, Bool.not_eq_false', Bool.not_eq_true', decide_eq_true_eq, List.length_map] at hb
    obtain ⟨h0, h1, h2⟩ := hb
    rcases List.eq_nil_or_concat T with rfl | ⟨T', t, rfl⟩
    · simp at h0
    rw [List.concat_eq_append] at *
    obtain ⟨a, b, c, d, e, rfl⟩ : ∃ a b c d e, ws = [a, b, c, d, e] := by
      match ws, (show ws.length = 5 by omega) with
      | [a, b, c, d, e], _ => exact ⟨a, b, c, d, e, rfl⟩
    have habc : ([a, b, c] : List Str) = (["", "", "ref"] : List Str) := h2
    have htl : t.2.length ≤ 1000 := hT.2 t (by simp)
    have he : addsR (T' ++ [t]) [a, b, c, d, e] = (!decide ((refsN t.2 : Int) = 2) && (!decide ((sumRefs (T' ++ [t]) : Int) = 3) && (isNew d (t.2.map Prod.fst) && decide (e ∈ T'.map Prod.fst)))) := by
      unfold addsR
      rw [last_snoc, drop_snoc]
      simp only [habc, decide_true, Bool.true_and]
    rw [he] at hd
    refine st_asg (i := 2) (r := .dat (.lst (t.2.map encC))) (cs1 := []) st1 (ev_op (ev_op (ev_var (r := .dat (encTs (T' ++ [t]))) rfl) ev_neg1 (od_ixL (lastD T' t))) ev_int (od_ixT (atI_nat (j := 1) rfl))) (fun σ2 H2 st2 => ?_)
    refine st_if st2 (et_test (ev_op (ev_call0 (ea_cons (ev_var rfl) ea_nil) ⟨t.2, rfl, htl, rfl, rfl, rfl, rfl⟩) ev_int od_eqI)) (fun hb H3 st3 => ?_) (fun hb H3 st3 => ?_)
    · rw [hb] at hd
      exact st_ret st3 ev_bl hd
    rw [hb] at hd
    have hsum : ((T' ++ [t]).map fun t => (refsN t.2 : Int)).sum = (sumRefs (T' ++ [t]) : Int) := by
      unfold sumRefs
      generalize T' ++ [t] = L
      induction L with
      | nil => rfl
      | cons x r ih => simp only [List.map_cons, List.sum_cons, ih]; omega
    refine st_ns ?_
    refine st_if (b := decide ((sumRefs (T' ++ [t]) : Int) = 3)) (cs1 := []) st3 ?_ (fun hb H4 st4 => ?_) (fun hb H4 st4 => ?_)
    · refine et_test (ev_op (r1 := .dat (.int (sumRefs (T' ++ [t]) : Int))) (cs1 := []) ?_ ev_int od_eqI)
      rw [← hsum]
      refine ev_cb (cs1 := []) (ea_cons (EvF.ev (ds := ((T' ++ [t]).map fun t => (refsN t.2 : Int)).map D.int) ?_) ea_nil) cb_sum
      rw [List.map_map]
      refine ef_mapE (enc := encT) (cs1 := []) (wd_lst (ev_var rfl)) _ (by have := hT.1; omega) (fun p i x acc hx => ?_)
      exact ⟨_, _, g_name, by decide, ev_call0 (ea_cons (ev_op (ev_var rfl) ev_int (od_ixT (atI_nat (j := 1) rfl))) ea_nil) ⟨x.2, rfl, hT.2 x (List.mem_of_getElem? hx), rfl, rfl, rfl, rfl⟩⟩
    · rw [hb] at hd
      exact st_ret st4 ev_bl hd
    rw [hb] at hd
    refine st_ns ?_
    refine st_asg (i := 3) (r := .dat (.lst ((T'.map Prod.fst).map D.str))) (cs1 := []) st4 (EvF.ev ?_) (fun σ5 H5 st5 => ?_)
    · rw [List.map_map]
      refine ef_mapE (enc := encT) (cs1 := []) (wd_lst (cutLast T' t ▸ ev_sl (r1 := .dat (.lst ((T' ++ [t]).map encT))) (ev_var (i := 0) rfl) eo_none (eo_some ev_neg1) sd_L)) _ (by have := hT.1; rw [List.length_append] at this; omega) (fun p i x acc hx => ?_)
      exact ⟨_, _, g_name, by decide, ev_op (ev_var rfl) ev_int (od_ixT (atI_nat (j := 0) rfl))⟩
    exact st_ret st5 (ev_andV (ev_call0 (ea_cons (ev_op (ev_var rfl) ev_int (od_ixL (atI_nat (j := 3) rfl))) (ea_cons (ev_var rfl) ea_nil)) ⟨d, t.2.map encC, t.2.map Prod.fst, rfl, isNewT (j := 3) rfl hws, by rw [List.length_map]; exact htl, fst_encC _, tup_encC _, rfl, rfl, rfl, rfl⟩)
      (fun _ => ev_op (ev_op (ev_var rfl) ev_int (od_ixL (atI_nat (j := 4) rfl))) (ev_var rfl) od_inS)) hd
end
end T3
/-! PM2: texts, bounds, beginnings. -/
namespace PM
open PySem L2
def Bnd (T : List Tab) : Prop := T.length ≤ 3 ∧ ∀ t ∈ T, refsN t.2 ≤ 2 ∧ t.2.length ≤ refsN t.2 + 2
theorem refsN_snoc (cs : List Col) (c : Col) : refsN (cs ++ [c]) = refsN cs + if c.2.isSome then 1 else 0 := by
  unfold refsN
  rw [List.filter_append, List.length_append]
  cases h : c.2.isSome <;> simp [h]
theorem last_some {T : List Tab} {t : Tab} (h : T.getLast? = some t) : ∃ T', T = T' ++ [t] := by
  rcases List.eq_nil_or_concat T with rfl | ⟨T', x, rfl⟩
  · simp at h
  · rw [List.concat_eq_append, last_snoc] at h
    exact ⟨T', by rw [List.concat_eq_append, Option.some.inj h]⟩
theorem addCol_snoc (T : List Tab) (t : Tab) (c : Col) : addCol (T ++ [t]) c = T ++ [(t.1, t.2 ++ [c])] := by
  unfold addCol
  rw [last_snoc, drop_snoc]
theorem addsP_last {T : List Tab} {ws : List Str} (h : addsP T ws = true) : ∃ T' t, T = T' ++ [t] ∧ ∃ d : Str, ws = (["", "", "plain", d] : List Str) ∧ refsN t.2 = 0 ∧ t.2.length ≠ 2 := by
  unfold addsP at h
  split at h
  · rename_i a b c d t ht
    obtain ⟨T', rfl⟩ := last_some ht
    simp only [Bool.and_eq_true, decide_eq_true_eq, Bool.not_eq_true', Bool.or_eq_false_iff, decide_eq_false_iff_not] at h
    obtain ⟨h1, ⟨h2, h3⟩, _⟩ := h
    refine ⟨T', t, rfl, d, ?_, by omega, by omega⟩
    have e1 : a = "" := by injection h1
    have e2 : b = "" := by injection h1 with _ h1; injection h1
    have e3 : c = "plain" := by injection h1 with _ h1; injection h1 with _ h1; injection h1
    rw [e1, e2, e3]
  · cases h
theorem addsR_last {T : List Tab} {ws : List Str} (h : addsR T ws = true) : ∃ T' t, T = T' ++ [t] ∧ ∃ d e : Str, ws = (["", "", "ref", d, e] : List Str) ∧ refsN t.2 ≠ 2 := by
  unfold addsR at h
  split at h
  · rename_i a b c d e t ht
    obtain ⟨T', rfl⟩ := last_some ht
    simp only [Bool.and_eq_true, decide_eq_true_eq, Bool.not_eq_true', decide_eq_false_iff_not] at h
    obtain ⟨h1, h2, _⟩ := h
    refine ⟨T', t, rfl, d, e, ?_, by omega⟩
    have e1 : a = "" := by injection h1
    have e2 : b = "" := by injection h1 with _ h1; injection h1
    have e3 : c = "ref" := by injection h1 with _ h1; injection h1 with _ h1; injection h1
    rw [e1, e2, e3]
  · cases h
theorem beginsT_is {T : List Tab} {ws : List Str} (h : beginsT T ws = true) : ∃ b : Str, ws = (["table", b] : List Str) ∧ T.length < 3 := by
  unfold beginsT at h
  split at h
  · rename_i a b
    simp only [Bool.and_eq_true, decide_eq_true_eq] at h
    exact ⟨b, by rw [h.1], by omega⟩
  · cases h
/-- how a row is read -/
theorem step_cases {T T1 : List Tab} {ws : List Str} (h : step T ws = some T1) :
    (∃ n : Str, beginsT T ws = true ∧ ws = (["table", n] : List Str) ∧ T1 = T ++ [(n, [])]) ∨
    (∃ (T' : List Tab) (t : Tab) (d : Str), beginsT T ws = false ∧ addsP T ws = true ∧ T = T' ++ [t] ∧ ws = (["", "", "plain", d] : List Str) ∧ T1 = T' ++ [(t.1, t.2 ++ [(d, none)])]) ∨
    (∃ (T' : List Tab) (t : Tab) (d e : Str), beginsT T ws = false ∧ addsP T ws = false ∧ addsR T ws = true ∧ T = T' ++ [t] ∧ ws = (["", "", "ref", d, e] : List Str) ∧ T1 = T' ++ [(t.1, t.2 ++ [(d, some e)])]) := by
  unfold step at h
  cases hb : beginsT T ws with
  | true =>
    rw [hb, if_pos rfl] at h
    obtain ⟨n, rfl, _⟩ := beginsT_is hb
    exact .inl ⟨n, rfl, rfl, (Option.some.inj h).symm⟩
  | false =>
    rw [hb, if_neg Bool.false_ne_true] at h
    cases hp : addsP T ws with
    | true =>
      rw [hp, if_pos rfl] at h
      obtain ⟨T', t, rfl, d, rfl, _⟩ := addsP_last hp
      refine .inr (.inl ⟨T', t, d, rfl, rfl, rfl, rfl, ?_⟩)
      rw [addCol_snoc] at h
      exact (Option.some.inj h).symm
    | false =>
      rw [hp, if_neg Bool.false_ne_true] at h
      cases hr : addsR T ws with
      | true =>
        rw [hr, if_pos rfl] at h
        obtain ⟨T', t, rfl, d, e, rfl, _⟩ := addsR_last hr
        refine .inr (.inr ⟨T', t, d, e, rfl, rfl, rfl, rfl, rfl, ?_⟩)
        rw [addCol_snoc] at h
        exact (Option.some.inj h).symm
      | false =>
        rw [hr, if_neg Bool.false_ne_true] at h
        cases h
theorem Bnd.step {T T1 : List Tab} {ws : List Str} (b : Bnd T) (h : step T ws = some T1) : Bnd T1 := by
  rcases step_cases h with ⟨n, hb, _, rfl⟩ | ⟨T', t, d, _, hp, rfl, _, rfl⟩ | ⟨T', t, d, e, _, _, hr, rfl, _, rfl⟩
  · obtain ⟨_, _, hl⟩ := beginsT_is hb
    refine ⟨by rw [List.length_append]; simp; omega, fun x hx => ?_⟩
    rcases List.mem_append.mp hx with hx | hx
    · exact b.2 x hx
    · have : x = (n, []) := by simpa using hx
      subst this
      exact ⟨by simp [refsN], by simp [refsN]⟩
  · obtain ⟨T2, t2, e2, _, _, h1, h2⟩ := addsP_last hp
    have et : t2 = t := by
      have := congrArg List.getLast? e2
      rw [last_snoc, last_snoc] at this
      exact (Option.some.inj this).symm
    subst et
    refine ⟨by have := b.1; simpa using this, fun x hx => ?_⟩
    rcases List.mem_append.mp hx with hx | hx
    · exact b.2 x (List.mem_append_left _ hx)
    · have : x = (t2.1, t2.2 ++ [(d, none)]) := by simpa using hx
      subst this
      have := b.2 t2 (by simp)
      simp only [refsN_snoc, List.length_append, List.length_cons, List.length_nil]
      simp
      omega
  · obtain ⟨T2, t2, e2, _, _, _, h1⟩ := addsR_last hr
    have et : t2 = t := by
      have := congrArg List.getLast? e2
      rw [last_snoc, last_snoc] at this
      exact (Option.some.inj this).symm
    subst et
    refine ⟨by have := b.1; simpa using this, fun x hx => ?_⟩
    rcases List.mem_append.mp hx with hx | hx
    · exact b.2 x (List.mem_append_left _ hx)
    · have : x = (t2.1, t2.2 ++ [(d, some e)]) := by simpa using hx
      subst this
      have := b.2 t2 (by simp)
      simp only [refsN_snoc, List.length_append, List.length_cons, List.length_nil]
      simp
      omega
theorem Bnd.from : ∀ {rows : List (List Str)} {T T1 : List Tab}, Bnd T → readFrom T rows = some T1 → Bnd T1
  | [], T, T1, b, h => by
    have e : T = T1 := Option.some.inj h
    rw [← e]; exact b
  | ws :: r, T, T1, b, h => by
    have h' : (PM.step T ws).bind (fun T' => readFrom T' r) = some T1 := h
    cases e : PM.step T ws with
    | none => rw [e] at h'; cases h'
    | some T2 => rw [e] at h'; exact Bnd.from (b.step e) h'
theorem bnd_nil : Bnd [] := ⟨by simp, fun _ h => by cases h⟩
/-! ### the whole text -/
def wordsText (x : Str) : List (List Str) := (Txt.split x nl).map fun r => Txt.split r sp
def readText (x : Str) : Option (List Tab) := readFrom [] (wordsText x)
theorem mem_join {s : Str} {c : Nat} : ∀ {ls : List Str} {l : Str}, l ∈ ls → c ∈ l.cps.toList → c ∈ (Txt.join s ls).cps.toList
  | [], _, h, _ => by cases h
  | [x], l, h, hc => by
    have e : l = x := by simpa using h
    rw [join_one, ← e]; exact hc
  | x :: y :: r, l, h, hc => by
    rw [join_cons, app_list, app_list]
    rcases List.mem_cons.mp h with e | e
    · rw [← e]; simp [hc]
    · have := mem_join (s := s) e hc
      simp [this]
theorem join_split' (x y : Str) : Txt.join y (Txt.split x y) = x := by
  have e := StrLaws.join_split x y
  rw [← StrLaws.glued_eq_join] at e
  exact e
theorem ok_split {x y l : Str} (h : PyData.strOk x = true) (hl : l ∈ Txt.split x y) : PyData.strOk l = true := by
  unfold PyData.strOk at *
  rw [all_list, List.all_eq_true] at *
  intro c hc
  exact h c (by rw [← join_split' x y]; exact mem_join hl hc)
/-! rows and their words -/
theorem split_row {ws : List Str} (h : ws ≠ []) (hf : ∀ w ∈ ws, free 32 w) : Txt.split (rowOf ws) sp = ws := by
  unfold rowOf
  rw [show sp = (⟨#[32]⟩ : Str) from sp_is]
  exact split_join 32 h hf
theorem free_row {ws : List Str} (hf : ∀ w ∈ ws, free 10 w) : free 10 (rowOf ws) := by
  unfold rowOf
  induction ws with
  | nil => exact (by decide +kernel : free 10 Str.empty)
  | cons x r ih =>
    cases r with
    | nil => rw [join_one]; exact hf x List.mem_cons_self
    | cons y r =>
      rw [join_cons]
      unfold free
      rw [app_list, app_list]
      intro z
      rcases List.mem_append.mp z with z | z
      · rcases List.mem_append.mp z with z | z
        · exact hf x List.mem_cons_self z
        · exact (by decide +kernel : free 10 sp) z
      · exact ih (fun w hw => hf w (List.mem_cons_of_mem _ hw)) z
theorem wordsText_join {rows : List (List Str)} (h : rows ≠ []) (hr : ∀ ws ∈ rows, ws ≠ [] ∧ ∀ w ∈ ws, free 10 w ∧ free 32 w) : wordsText (Txt.join nl (rows.map rowOf)) = rows := by
  unfold wordsText
  rw [show nl = (⟨#[10]⟩ : Str) from nl_is, split_join 10 (by simpa using h)]
  · rw [List.map_map]
    conv => rhs; rw [← List.map_id rows]
    apply List.map_congr_left
    intro ws hw
    exact split_row (hr ws hw).1 fun w hw' => ((hr ws hw).2 w hw').2
  · intro l hl
    obtain ⟨ws, hw, rfl⟩ := List.mem_map.mp hl
    exact free_row fun w hw' => ((hr ws hw).2 w hw').1
end PM
/-! SP2: what reading a whole text promises. -/
namespace SP
open PySem L2 DV PM
def preRead : Pre := fun rs Pl cs r cs' => ∃ (x : Str) (T : List Tab), rs = [.dat (.str x)] ∧ x.length ≤ 100000 ∧ PyData.strOk x = true ∧ readText x = some T ∧ Pl = [] ∧ cs = [] ∧ r = .dat (encTs T) ∧ cs' = []
theorem tabsIn_bnd {T : List Tab} (b : Bnd T) : tabsIn T := ⟨by have := b.1; omega, fun t ht => by have := b.2 t ht; omega⟩
theorem wordsIn_row {x row : Str} (hx : x.length ≤ 100000) (ho : PyData.strOk x = true) (hr : row ∈ Txt.split x nl) : row.length ≤ 100000 ∧ PyData.strOk row = true ∧ wordsIn (Txt.split row sp) := by
  have hl : row.length ≤ x.length := PyProof.Rows.part_short hr
  have hro := ok_split ho hr
  refine ⟨by omega, hro, ?_, fun w hw => ⟨?_, ok_split hro hw⟩⟩
  · have := PyProof.Rows.split_le row sp
    omega
  · have : w.length ≤ row.length := PyProof.Rows.part_short hw
    omega
theorem readFrom_snoc (T : List Tab) (rows : List (List Str)) (ws : List Str) : readFrom T (rows ++ [ws]) = (readFrom T rows).bind fun T' => step T' ws := by
  rw [readFrom_append]
  congr 1
  funext T'
  show (step T' ws).bind (fun T' => some T') = step T' ws
  cases step T' ws <;> rfl
theorem readFrom_take {rows : List (List Str)} {T : List Tab} (h : readFrom [] rows = some T) (i : Nat) : ∃ T', readFrom [] (rows.take i) = some T' := by
  have e : rows = rows.take i ++ rows.drop i := (List.take_append_drop i rows).symm
  rw [e, readFrom_append] at h
  cases q : readFrom [] (rows.take i) with
  | none => rw [q] at h; cases h
  | some T' => exact ⟨T', rfl⟩
end SP
namespace T3
open PySem L2 DV PM SP
abbrev s_read_tables : Stmt := topS 17
abbrev N_read_tables : List Str := ["text", "tables", "number", "row", "words"]
theorem sc_read_tables : FnScope N_read_tables ["text"] (defScope s_read_tables) := ⟨rfl, rfl, rfl, by decide +kernel, rfl, by decide +kernel, by decide +kernel⟩

section
variable {P : Program} {w : World} {K : PySem.W.Frag} {mg : Str → Option Value} {base : Heap}
theorem ok_read {f fB fP fR : Addr} {fd fdB fdP fdR : FuncData} (F : Fun K "read_tables" "read_tables" s_read_tables f fd) (G_begins_table : Def P w K mg base 3 "begins_table" fB fdB ["tables", "words"] (spM K preBegins))
    (G_adds_plain : Def P w K mg base 3 "adds_plain" fP fdP ["tables", "words"] (spM K prePlain)) (G_adds_reference : Def P w K mg base 3 "adds_reference" fR fdR ["tables", "words"] (spM K preRef)) (b_enumerate : mg "enumerate" = none) :
    FnOk P w K mg base CX0 4 f fd ["text"] (spM K preRead) := by
  refine ok_body F sc_read_tables (fun rs Pl cs r cs' h => ?_) (fun X hX hr => ?_)
  · obtain ⟨x, T, rfl, _⟩ := h
    rfl
  obtain ⟨cdv, A, outer, s, H, E, rfl⟩ := hX
  have nd := sc_read_tables.nd
  refine ⟨_, (pss_cons (ps_set (i := 1) nd rfl (.inl rfl) (pe_lst pa_nil))
      (pss_cons (ps_for PassesOwn.never rfl (pi_enum (by rfl) b_enumerate (pa_cons (pe_split (pv 0) pe_str) pa_nil)) (pg_tup (by rfl) (by exact (pgs_cons (by exact (pg_name (i := 2) nd (by rfl) (by first | exact .inl rfl | exact .inr rfl))) (by exact (pgs_cons (by exact (pg_name (i := 3) nd (by rfl) (by first | exact .inl rfl | exact .inr rfl))) (by exact pgs_nil)))))) (pss_cons (ps_set (i := 4) nd rfl (.inl rfl) (pe_split (pv 3) pe_str))
      (pss_one (ps_if (pt_val (pe_def G_begins_table hr (by decide) (by rfl) (pa_cons (pv 1) (pa_cons (pv 4) pa_nil)))) (pss_one (ps_expr (pe_bm PySem.F.plainAttrs_list PySem.F.slot_list_append PySem.F.type_list_append mt_append (pv 1) (pa_cons (pe_tup (pa_cons (pe_ix ix_seq (pv 4) pe_int (fun _ _ => rfl)) (pa_cons (pe_lst pa_nil) pa_nil))) pa_nil)))) (pss_one (ps_if (pt_val (pe_def G_adds_plain hr (by decide) (by rfl) (pa_cons (pv 1) (pa_cons (pv 4) pa_nil)))) (pss_one (ps_expr (pe_bm PySem.F.plainAttrs_list PySem.F.slot_list_append PySem.F.type_list_append mt_append (pe_ix ix_seq (pe_ix ix_seq (pv 1) (pe_un un_neg pe_int) (fun _ _ => rfl)) pe_int (fun _ _ => rfl)) (pa_cons (pe_tup (pa_cons (pe_ix ix_seq (pv 4) pe_int (fun _ _ => rfl)) (pa_cons pe_non pa_nil))) pa_nil)))) (pss_one (ps_if (pt_val (pe_def G_adds_reference hr (by decide) (by rfl) (pa_cons (pv 1) (pa_cons (pv 4) pa_nil)))) (pss_one (ps_expr (pe_bm PySem.F.plainAttrs_list PySem.F.slot_list_append PySem.F.type_list_append mt_append (pe_ix ix_seq (pe_ix ix_seq (pv 1) (pe_un un_neg pe_int) (fun _ _ => rfl)) pe_int (fun _ _ => rfl)) (pa_cons (pe_tup (pa_cons (pe_ix ix_seq (pv 4) pe_int (fun _ _ => rfl)) (pa_cons (pe_ix ix_seq (pv 4) pe_int (fun _ _ => rfl)) pa_nil))) pa_nil)))) (pss_one ps_never)))))))))
      (pss_one (ps_ret (pv 1))))), ?_⟩
  intro rs Pl cs r cs' hp B0 H0 σ Dn st hP hd hn
  obtain ⟨x, T, rfl, hxl, hxo, hT, rfl, rfl, rfl, rfl⟩ := hp
  obtain ⟨B, s0, o0⟩ := st
  refine st_seq (st_raw0 fun p hp => ?_)
  have fp : H0 p = none := free0 s0 hp
  have bp : B p = none := o0.ex.free hp
  have s1 : Stp [] B0 H0 B (upd H0 p (.lst [])) := stp_upd s0 fp
  have o1 : Okk K [] [.dat (.str x), .val (.ref p), .any, .any, .any] [] B (upd H0 p (.lst [])) (σ.set 1 (some (.ref p))) := ⟨ex_upd o0.ex bp, o0.sl.set (i := 1) rfl, True.intro⟩
  have t1 : TabsAt K H0 B (upd H0 p (.lst [])) p [] := ⟨⟨[], upd_same, .nil, .nil, by simp⟩, bp, fp⟩
  dsimp only []
  refine st_seq (t := tFor _ _ _) ?_
  refine for_of (wd_enum (ds := (Txt.split x nl).map D.str) (cs := []) (cs1 := []) (P := []) (ss := [.dat (.str x), .val (.ref p), .any, .any, .any]) (ea_cons (EvF.ev (ev_split (ev_var (i := 0) rfl) ev_str (by decide +kernel) (by omega))) ea_nil) B _ _ o1 _ fun J B1 H1 s2 o2 wk => ?_)
  have t2 := t1.step s2
  have s02 := s1.trans s2
  have hn0 : (enumD ((Txt.split x nl).map D.str)).length = (Txt.split x nl).length := by rw [enumD_len, List.length_map]
  let I : Nat → L2.St → Hp → Prop := fun i σ' H' => ∃ B' T', Stp [] B0 H0 B' H' ∧ Ex B1 B' ∧ Okk K [] [.dat (.str x), .val (.ref p), .any, .any, .any] [] B' H' σ' ∧ TabsAt K H0 B' H' p T' ∧ readFrom [] ((wordsText x).take i) = some T'
  refine ⟨fun i m σ' H' => m = (Txt.split x nl).length - i ∧ i ≤ (Txt.split x nl).length ∧ I i σ' H', ⟨_, rfl, Nat.zero_le _, B1, [], s02, Ex.refl _, o2, t2, rfl⟩, ?_⟩
  rintro i m σ' H' ⟨rfl, hi, B2, T2, s3, e3, o3, t3, hr3⟩
  obtain ⟨w1, w2⟩ := wk i B2 H' e3 o3.ex
  have b3 : Bnd T2 := bnd_nil.from hr3
  by_cases hlt : i < (Txt.split x nl).length
  · have hrow : (Txt.split x nl)[i]? = some (Txt.split x nl)[i] := List.getElem?_eq_getElem hlt
    generalize (Txt.split x nl)[i] = row at hrow
    obtain ⟨hrl, hro, hws⟩ := wordsIn_row hxl hxo (List.mem_of_getElem? hrow)
    have hd' : (enumD ((Txt.split x nl).map D.str))[i]? = some (.tup [.int (i : Nat), .str row]) := by
      unfold enumD
      rw [List.getElem?_map, List.getElem?_zipIdx, List.getElem?_map, hrow]
      simp
    obtain ⟨go, yl⟩ := w1 _ hd'
    have hwi : (wordsText x)[i]? = some (Txt.split row sp) := by
      unfold wordsText
      rw [List.getElem?_map, hrow]; rfl
    obtain ⟨T3, hT3⟩ := readFrom_take (i := i + 1) (show readFrom [] (wordsText x) = some T from hT)
    have hst : step T2 (Txt.split row sp) = some T3 := by
      rw [List.take_add_one, hwi, show (some (Txt.split row sp)).toList = [Txt.split row sp] from rfl, readFrom_snoc, hr3] at hT3
      exact hT3
    refine .inr ⟨go, I (i + 1), fun σ4 H4 q => ⟨(Txt.split x nl).length - (i + 1), by omega, rfl, hlt, q⟩, fun v H4 y => ?_⟩
    obtain ⟨B4, s4, e4, x4⟩ := yl v H4 y
    have o4 := o3.step0 s4 e4
    have t4 := t3.step s4
    have s04 := s3.trans s4
    refine (g_tup (g_cons g_name (g_cons g_name g_nil)) : GR K _ _ _ _ _) B4 H4 σ' v o4.ex o4.sl x4 _ fun σ5 sl5 _ => ?_
    have o5 : Okk K [] [.dat (.str x), .val (.ref p), .dat (.int (i : Nat)), .dat (.str row), .any] [] B4 H4 σ5 := ⟨o4.ex, sl5, True.intro⟩
    -- words
    refine EvF.ev (ev_split (ev_var (i := 3) rfl) ev_str (by decide +kernel) (by omega)) B4 H4 σ5 o5 _ fun wv B6 H6 s6 o6 v6 => ?_
    have t6 := t4.step s6
    have s06 := s04.trans s6
    have v6' : Rp K B6 wv (.lst ((Txt.split row sp).map D.str)) := v6
    have o7 : Okk K [] [.dat (.str x), .val (.ref p), .dat (.int (i : Nat)), .dat (.str row), .dat (.lst ((Txt.split row sp).map D.str))] [] B6 H6 (σ5.set 4 (some wv)) := ⟨o6.ex, o6.sl.set (i := 4) v6, True.intro⟩
    have h1 : (σ5.set 4 (some wv))[1]? = some (some (.ref p)) := by
      obtain ⟨u, hu, eu⟩ := o7.sl.get 1 (.val (.ref p)) rfl (by intro z; cases z)
      rw [hu, show u = V.ref p from eu]
    have h4 : (σ5.set 4 (some wv))[4]? = some (some wv) := by
      have hl : 4 < σ5.length := by rw [o6.sl.len]; exact Nat.lt_succ_self 4
      rw [List.getElem?_set, if_pos rfl, if_pos hl]
    have ex16 : Ex B1 B6 := e3.trans (s4.ex.trans s6.ex)
    have fin : ∀ B' H'', Stp [] B0 H0 B' H'' → Okk K [] [.dat (.str x), .val (.ref p), .dat (.int (i : Nat)), .dat (.str row), .dat (.lst ((Txt.split row sp).map D.str))] [] B' H'' (σ5.set 4 (some wv)) → Ex B6 B' → TabsAt K H0 B' H'' p T3 → I (i + 1) (σ5.set 4 (some wv)) H'' := fun B' H'' a b c d =>
      ⟨B', T3, a, ex16.trans c, ⟨b.ex, b.sl.le ⟨.rfl _, .rfl _, .any _, .any _, .any _, True.intro⟩, True.intro⟩, d, hT3⟩
    refine call_tabs (b := beginsT T2 (Txt.split row sp)) o7.ex t6 h1 h4 v6' ⟨T2, _, rfl, by have := b3.1; omega, hws, rfl, rfl, rfl, rfl⟩ fun H8 s8 e8 => ?_
    have o8 := o7.step0 s8 e8
    have t8 := t6.step s8
    have s08 := s06.trans s8
    rcases step_cases hst with ⟨n, hb, hw, rfl⟩ | ⟨T', t, d, hb, hpl, rfl, hw, rfl⟩ | ⟨T', t, d, e, hb, hpl, hre, rfl, hw, rfl⟩
    · rw [hb, if_pos rfl]
      refine app_tab (n := n) s08 o8 t8 h1 (ev_op (ev_var (i := 4) rfl) ev_int (od_ixL (atI_nat (j := 1) ?_))) (by have := b3.1; omega) (fun B' H'' a b c d => fin B' H'' a b c d)
      rw [hw]; rfl
    · rw [hb, if_neg Bool.false_ne_true]
      refine call_tabs (b := addsP (T' ++ [t]) (Txt.split row sp)) o8.ex t8 h1 h4 v6' ⟨_, _, rfl, tabsIn_bnd b3, hws, rfl, rfl, rfl, rfl⟩ fun H9 s9 e9 => ?_
      have o9 := o8.step0 s9 e9
      have t9 := t8.step s9
      have s09 := s08.trans s9
      rw [hpl, if_pos rfl]
      refine app_col (n := t.1) (cols := t.2) (c := (d, none)) (x := .str d) (y := .non) s09 o9 t9 h1 (ea_cons (ev_op (ev_var (i := 4) rfl) ev_int (od_ixL (atI_nat (j := 3) ?_))) (ea_cons ev_non ea_nil)) rfl (by have := b3.2 t (by simp); omega) (fun B' H'' a b c d => fin B' H'' a b c d)
      rw [hw]; rfl
    · rw [hb, if_neg Bool.false_ne_true]
      refine call_tabs (b := addsP (T' ++ [t]) (Txt.split row sp)) o8.ex t8 h1 h4 v6' ⟨_, _, rfl, tabsIn_bnd b3, hws, rfl, rfl, rfl, rfl⟩ fun H9 s9 e9 => ?_
      have o9 := o8.step0 s9 e9
      have t9 := t8.step s9
      have s09 := s08.trans s9
      rw [hpl, if_neg Bool.false_ne_true]
      refine call_tabs (b := addsR (T' ++ [t]) (Txt.split row sp)) o9.ex t9 h1 h4 v6' ⟨_, _, rfl, tabsIn_bnd b3, hws, rfl, rfl, rfl, rfl⟩ fun H10 s10 e10 => ?_
      have o10 := o9.step0 s10 e10
      have t10 := t9.step s10
      have s010 := s09.trans s10
      rw [hre, if_pos rfl]
      refine app_col (n := t.1) (cols := t.2) (c := (d, some e)) (x := .str d) (y := .str e) s010 o10 t10 h1 (ea_cons (ev_op (ev_var (i := 4) rfl) ev_int (od_ixL (atI_nat (j := 3) ?_))) (ea_cons (ev_op (ev_var (i := 4) rfl) ev_int (od_ixL (atI_nat (j := 4) ?_))) ea_nil)) rfl (by have := b3.2 t (by simp); omega) (fun B' H'' a b c d => fin B' H'' a b c d)
      · rw [hw]; rfl
      · rw [hw]; rfl
  · have e : i = (Txt.split x nl).length := by omega
    subst e
    refine .inl ⟨w2 (by rw [hn0]; exact Nat.le_refl _), ?_⟩
    have hTT : T2 = T := by
      have hl : (wordsText x).length = (Txt.split x nl).length := by unfold wordsText; rw [List.length_map]
      rw [← hl, List.take_length] at hr3
      exact Option.some.inj (hr3.symm.trans hT)
    subst hTT
    obtain ⟨u, hu, eu⟩ := o3.sl.get 1 (.val (.ref p)) rfl (by intro z; cases z)
    have eu' : u = .ref p := eu
    subst eu'
    exact ⟨.ref p, hu, hd _ _ _ (pub_stp s3 o3.ex) (pub_in s3 o3.ex) True.intro (t3.pub s3 o3.ex)⟩
end
end T3
/-! XT: InvalidText(row), made, raised, read (from the guide's skeleton of an own error). -/
namespace PySem
namespace BadX
open PySem.W PySem.Calls PyProof.Rows PySem.HandSPX
/-! ### the text of __init__ -/
def iA (p1 p2 : Pos) : Arguments := { posonlyargs := [], args := [{ arg := "self", annotation := none, pos := p1 }, { arg := "row", annotation := none, pos := p2 }], vararg := none, kwonlyargs := [], kw_defaults := [], kwarg := none, defaults := [] }
def iB (q1 q2 q3 q4 : Pos) : List Stmt := [.Assign [.Attribute (.Name "self" q1) "row" q2] (.Name "row" q3) q4]
def iS : Scope := { kind := .function, names := [(PySem.Str.ofString "self", .local), (PySem.Str.ofString "row", .local)], isGenerator := false, isCoroutine := false, more := [] }
/-- what the written part says of Low, at C, and of its __init__, at fI -/
structure BadTxt (K : Frag) (mg : Str → Option Value) (C fI : Addr) : Prop where
  gC : mg "InvalidText" = some (.ref C)
  cls : ∃ nm q N bs bm sn sub ab col dd k0 k1 k2 k3 k5, K.lookup C = some (excClassObj nm q C N bs bm true sn sub ab col dd k0 k1 k2 k3 k5 "ValueError.__new__") ∧ refsVE bm = true
  sa : findIn K (.ref C) "__setattr__" = some (some (.builtin "object.__setattr__"))
  ga : findIn K (.ref C) "__getattribute__" = some (some (.builtin "BaseException.__getattribute__"))
  gg : findIn K (.ref C) "__getattr__" = some none
  noN : findIn K (.ref C) "row" = some none
  iC : findIn K (.ref C) "__init__" = some (some (.ref fI))
  tC : typeIn K (.ref fI) = some (.type "function")
  kC : keepIn K (.ref C) = true
  exC : subIn K (.ref C) (.type "BaseException") = some true
  tyC : typeIn K (.ref C) = some (.type "type")
  hdC : hasDictIn K C = true
  te : exmOne K (.ref C) (.ref C) = some true
  fn : ∃ (oc : Value) (od : Option Addr) (doc pm : Value) (an : Option Addr) (cdv ct : Value) (osl : Array (Option Value)) (p1 p2 q1 q2 q3 q4 : Pos),
    K.lookup fI = some ⟨oc, od, .func (fnOf "__init__" "InvalidText.__init__" (iA p1 p2) (iB q1 q2 q3 q4) iS .none .none doc pm an cdv ct), osl⟩ ∧ codeIn K cdv "InvalidText.__init__" = true
theorem one_size (v : Value) : [v].length ≤ sizeLine := by
  rw [sizeLine_eq]
  exact (by decide : 1 ≤ 16777216)
theorem kept_but {K : Frag} {h h' : Heap} {x : Addr} (X : K.In h) (hx : K.lookup x = none) (k : ∀ b o, b ≠ x → h.get? b = some o → h'.get? b = some o) : K.In h' := fun a o e =>
  k a o (fun z => by rw [z, hx] at e; cases e) (X a o e)
theorem ldC {M : Model} {s : Shared} {name : Str} {scope : Scope} {L a : Addr} {cd : Value} {m : Str → Option Value} {x : Str} {pos : Pos} {v : Value} {Q : Value → Shared → Prop} {A : Around} {E : Value → Shared → Prop} (hn : s.heap.Ns L m) (hv : m x = some v) (h : Q v s)
    (hk : scope.kind = .function := by rfl) (hl : (envOfC name scope L a cd).kindOf x = some .local := by rfl) (hd : (x == ("__debug__" : Str)) = false := by decide) :
    wpAny M A (eval (.Name x pos) (envOfC name scope L a cd)) Q E s := wpAny_Name (wpAny_loadName_local hk hl hn hv h) hd
/-- what __init__ leaves of a fresh exception at x -/
structure InitEnd (h h' : Heap) (x C dx t1 : Addr) (v : Value) : Prop where
  keep : ∀ b o, b ≠ x → h.get? b = some o → h'.get? b = some o
  obj : h'.get? x = some { cls := .ref C, dict := some dx, data := .fields #[.ref t1, .none, .none, .none, .bool false, .none] }
  dbig : h.objs.size ≤ dx
  dne : dx ≠ x
  ns : h'.Ns1 dx (fun y => if y = "row" then some v else none)
/-- a made Low -/
structure OwnMade (h h' : Heap) (e C d : Addr) (v : Value) : Prop where
  keep : ∀ b o, h.get? b = some o → h'.get? b = some o
  new : h.objs.size ≤ e
  obj : ∃ oe vs, h'.get? e = some oe ∧ oe.cls = .ref C ∧ oe.dict = some d ∧ oe.data = .fields vs ∧ vs[1]? = some .none
  dbig : h.objs.size ≤ d
  dne : d ≠ e
  ns : h'.Ns1 d (fun y => if y = "row" then some v else none)
section
variable {prog : Program} {w : World} {A : Around} {E : Value → Shared → Prop} {R : Result → Shared → Prop} {s : Shared} {K : Frag} {mg : Str → Option Value} {C fI : Addr}
theorem bad_init (T : BadTxt K mg C fI) {x t0 : Addr} {v : Value} (X : K.In s.heap) (hlim : s.heap.NoLimit) (hx : s.heap.get? x = some (excO C t0)) (hnx : K.lookup x = none) (hroom : A.depth < recursionLimit)
    (hq : ∀ h' tk dx, InitEnd s.heap h' x C dx t0 v → R (.ok (.ret .none)) { s with heap := h', toks := tk }) :
    codeAny (model prog w) A (.call (.ref fI) ⟨[.ref x, v], []⟩) R s := by
  obtain ⟨oc, od, doc, pm, an, cdv, ct, osl, p1, p2, q1, q2, q3, q4, ho, hcd⟩ := T.fn
  obtain ⟨nm, q, N, bs, bm, sn, sub, ab, col, dd, k0, k1, k2, k3, k5, hC, hbm⟩ := T.cls
  have hcl : clsIn K C = some { name := nm, bases := bs, mro := .ref C :: bm, ns := N, qualname := q, hasDict := true, slotNames := sn, subclasses := sub, abstract := ab, collection := col, hasDel := false } := by unfold clsIn; rw [hC] <;> rfl
  refine Att.call_fn (binds := [("self", .ref x), ("row", v)]) X hlim ho hcd hroom (BindsTo.of_eq (by first | rfl | with_unfolding_all rfl)) (by first | rfl | decide | with_unfolding_all rfl) (fun s₁ IC => ?_) rfl rfl rfl
  obtain ⟨h₁, tk₁, rfl⟩ := IC.toInCall.same
  have k : ∀ b o, s.heap.get? b = some o → h₁.get? b = some o := IC.toInCall.keep
  have hn := IC.toInCall.ns
  have hxL : s.heap.objs.size ≠ x := Nat.ne_of_gt (Heap.lt_size hx)
  have X₁ : K.In h₁ := X.keeps k
  have hx₁ := k _ _ hx
  -- self.by = by
  show wpAny _ _ (execs _ _) _ _ _
  refine wpAny_execs_cons (plainObj_wpAny_Assign_Attribute ?_)
  refine ldC (v := v) hn (by first | rfl | with_unfolding_all rfl | kernel_rfl) (ldC (v := .ref x) hn (by first | rfl | with_unfolding_all rfl | kernel_rfl) ?_)
  refine set_plain X₁ (ox := excO C t0) (od := none) ⟨hx₁, rfl, rfl, trivial⟩ T.sa ?_
  refine exc_osa X₁ hx₁ hcl (show refsVE (.ref C :: bm) = true from hbm) rfl T.noN (fun h₃ tk₃ dx k₃ dn dne hx₃ hn₃ => ?_)
  show wpAny _ _ (execs _ _) _ _ _
  have z : s.heap.objs.size < h₁.objs.size := hn.lt
  exact wpAny_execs_nil (hq h₃ tk₃ dx ⟨fun b o hb e => k₃ b o hb (k b o e), hx₃, Nat.le_of_lt (Nat.lt_of_lt_of_le z dn), dne, hn₃⟩)
theorem bad_made (T : BadTxt K mg C fI) {v : Value} (X : K.In s.heap) (hlim : s.heap.NoLimit) (hroom : A.depth + 1 < recursionLimit)
    (hq : ∀ h' tk e d, OwnMade s.heap h' e C d v → R (.ok (.ret (.ref e))) { s with heap := h', toks := tk }) :
    codeAny (model prog w) A (.call (.ref C) ⟨[v], []⟩) R s := by
  obtain ⟨nm, q, N, bs, bm, sn, sub, ab, col, dd, k0, k1, k2, k3, k5, hC, hbm⟩ := T.cls
  obtain ⟨hp, g, dr, tk, os⟩ := s
  have k : ∀ b o, hp.get? b = some o → ((hp.push (kdv_tup [v])).push (excO C hp.objs.size)).get? b = some o := fun b o e => Heap.get?_push_of_some _ (Heap.get?_push_of_some _ e)
  have hget : ((hp.push (kdv_tup [v])).push (excO C hp.objs.size)).get? (hp.objs.size + 1) = some (excO C hp.objs.size) := by heap_get
  have hnx : K.lookup (hp.objs.size + 1) = none := by
    cases e : K.lookup (hp.objs.size + 1) with
    | none => rfl
    | some o =>
      have z : hp.get? (hp.objs.size + 1) = some o := X _ _ e
      exact absurd (Nat.lt_of_succ_lt (Heap.lt_size z)) (Nat.lt_irrefl _)
  refine call_own F.excBase_ValueError (fun X => refsVE_contains X bm hbm) (X _ _ hC) (looks_findIn X T.iC) (fun self => bind_fn X self T.tC) (one_size v) ?_
  refine bad_init (s := ⟨(hp.push (kdv_tup [v])).push (excO C hp.objs.size), g, dr, tk, os⟩) T (X.keeps k) (hlim.keeps k) hget hnx ?_ fun h' tk' dx ⟨k', hx, dn, dne, hns⟩ => ?_
  · show A.depth + 1 < recursionLimit
    exact hroom
  · have old : ∀ b o, hp.get? b = some o → h'.get? b = some o := fun b o e => k' b o (Nat.ne_of_lt (Nat.lt_succ_of_lt (Heap.lt_size e))) (k b o e)
    have z : hp.objs.size + 1 + 1 ≤ dx := by
      first
        | (simpa only [Heap.size_push] using dn)
        | exact dn
        | (have q := dn; rw [Heap.size_push, Heap.size_push] at q; exact q)
    exact ⟨rfl, hq h' tk' (hp.objs.size + 1) dx ⟨old, Nat.le_succ _, ⟨_, _, hx, rfl, rfl, rfl, rfl⟩, Nat.le_trans (Nat.le_trans (Nat.le_succ _) (Nat.le_succ _)) z, dne, hns⟩⟩
end
end BadX
end PySem
namespace L2
open PySem PySem.Spec PyProof.Rows
theorem relO_bad {v : V} {v' : Value} (r : RelV v v') (f : Str) : RelO (List.lookup f [(("row" : Str), v)]) (if f = "row" then some v' else none) := by
  by_cases hw : f = "row"
  · subst hw
    rw [if_pos rfl]
    have q : List.lookup ("row" : Str) [(("row" : Str), v)] = some v := by simp [List.lookup]
    rw [q]
    exact r
  · rw [if_neg hw]
    have qw : (f == ("row" : Str)) = false := by simpa using hw
    have q2 : List.lookup f [(("row" : Str), v)] = none := by simp [List.lookup, qw]
    rw [q2]
    trivial
section
variable {X : Cx} {C fI : Addr}
/-- Low(e) -/
def tMkBad (C : Addr) (ta : TA) : St → Hp → XK → Prop := fun σ H Q => ta σ H fun vs H1 => ∃ v, vs = [v] ∧ ∀ d, H1 d = none → Q (.ref C) (some d) (upd H1 d (.xd [(("row" : Str), v)]))
theorem pmk_bad {a : Expr} {ta : TA} {p pos : Pos} {k : Nat} (T : PySem.BadX.BadTxt X.K X.mg C fI) (hr : Room k X.A) (ha : PA X [a] ta) (hg : Gl X "InvalidText" := by rfl)
    (he : starEach (a :: []) X.env = (false, eval a X.env) :: starEach [] X.env := by rfl) (hpl : (backTo pos (starEach [] X.env)).any (·.1) = false := by rfl) :
    PMk X (.Call (.Name "InvalidText" p) [a] [] pos) (tMkBad C ta) := by
  intro pins s σ H Q I h
  refine wpAny_Call_Name_kw (ld_glob I hg T.gC ?_)
  refine PySem.W.callWith_K (h₀ := X.base) I.ok.mod.kin T.kC (thn (ha.run pos pins s σ H _ I h) fun us s1 hh => ?_) he hpl
  obtain ⟨vs, H1, I1, r1, v, ev, q1⟩ := hh
  subst ev
  refine ⟨I1.kIn, ?_⟩
  cases r1 with
  | cons rv rn =>
    rename_i v' us'
    cases rn
    show wpAny _ _ (call (.ref C) [v']) _ _ _
    have hlim := I1.nolimit
    obtain ⟨hp, g, dr, tk, os⟩ := s1
    refine wpAny_call (PySem.BadX.bad_made T I1.kIn hlim (by have := hr.dp; omega) fun h' tk' e d M => ?_)
    show MkP X pins σ Q (.ref e) ⟨h', g, dr, tk', os⟩
    obtain ⟨oe, fv, hoe, hc, hd, hdat, h1⟩ := M.obj
    have hns := M.ns
    obtain ⟨G', g1, g2⟩ := restrict h' fun b => decide (b ≠ e)
    have gk : ∀ b, b ≠ e → G'.get? b = h'.get? b := fun b hb => g1 b (decide_eq_true hb)
    have ge : G'.get? e = none := g2 e (by simp)
    have old : ∀ b o, hp.get? b = some o → G'.get? b = some o := fun b o q => (gk b (Nat.ne_of_lt (Nat.lt_of_lt_of_le (Heap.lt_size q) M.new))).trans (M.keep b o q)
    have ob : ObjOk X.prog X.w (upd H1 d (.xd [(("row" : Str), v)])) G' d (.xd [(("row" : Str), v)]) :=
      ⟨_, hns.at (fun o q => (gk d M.dne).trans q), fun f => relO_bad rv f⟩
    have J : Inv X pins σ (upd H1 d (.xd [(("row" : Str), v)])) ⟨G', g, dr, tk', os⟩ := I1.laid (t' := tk') old M.dbig ob
    refine ⟨e, oe, fv, ⟨G', g, dr, tk', os⟩, _, .ref C, some d, rfl, J, fun b o q => ?_, ge, hoe, ⟨hc, hd⟩, hdat, h1, ?_, rfl, I1.bare, raises_own T.exC T.tyC, q1 d (I1.hok.fresh M.dbig)⟩
    · by_cases hb : b = e
      · have q' : G'.get? b = some o := q
        rw [hb, ge] at q'; cases q'
      · exact (gk b hb).symm.trans q
    · rw [upd_ne (Ne.symm M.dne)]
      exact I1.hok.fresh M.new
/-- raise Low(e) -/
def tRaiseBad (C : Addr) (W : WX) (ta : TA) : TS := fun _ σ H => tMkBad C ta σ H fun cls d H' => W cls d σ H'
theorem ps_raiseBad {a : Expr} {ta : TA} {W : WX} {p pos pos2 : Pos} {k : Nat} (hc : X.calm = true) (T : PySem.BadX.BadTxt X.K X.mg C fI) (hr : Room k X.A) (tk : Takes X W) (ha : PA X [a] ta) (hg : Gl X "InvalidText" := by rfl)
    (he : starEach (a :: []) X.env = (false, eval a X.env) :: starEach [] X.env := by rfl) (hpl : (backTo pos (starEach [] X.env)).any (·.1) = false := by rfl) :
    PS X (.Raise (some (.Call (.Name "InvalidText" p) [a] [] pos)) none pos2) (tRaiseBad C W ta) := ps_raise hc tk (pmk_bad T hr ha hg he hpl)
/-- low.by, low the exception that the suite holds (at a; its class cls, its dict d) -/
def tRowBad (C : Addr) (a : Addr) (cls : Value) (d : Option Addr) (te : TE) : TE := fun σ H Q => te σ H fun x H1 => x = .ref a ∧ cls = .ref C ∧ ∃ (dd : Addr) (v : V), d = some dd ∧ H1 dd = some (.xd [(("row" : Str), v)]) ∧ Q v H1
theorem pe_rowBad {a : Addr} {oe : Obj} {cls : Value} {d : Option Addr} {pn : List (Addr × Obj)} {e : Expr} {te : TE} {pos : Pos} (T : PySem.BadX.BadTxt X.K X.mg C fI) (hz : Zc cls d oe) (hf : ∃ vs, oe.data = .fields vs) (he : PE (X.suite a ((a, oe) :: pn)) e te)
    (hb : attributeBase e "row" X.env (eval e X.env) = eval e X.env := by rfl) :
    PE (X.suite a ((a, oe) :: pn)) (.Attribute e "row" pos) (tRowBad C a cls d te) := by
  refine ⟨fun pins s σ H Q I h => ?_⟩
  refine attr_of hb (thn (he.run pins s σ H _ I h) fun u s1 hh => ?_)
  obtain ⟨x, H1, I1, rx, ex, ec, dd, v, ed, ea, q⟩ := hh
  subst ex
  obtain rfl : u = Value.ref a := rx
  subst ec
  subst ed
  obtain ⟨ha, _⟩ := I1.pin (a, oe) (List.mem_append_left _ List.mem_cons_self)
  obtain ⟨vs, hd⟩ := hf
  have hx : ObjOk X.prog X.w H1 s1.heap dd (.xd [(("row" : Str), v)]) := I1.hok dd _ ea
  obtain ⟨mA, hns, hr⟩ := hx
  obtain ⟨od, ho, hl⟩ := lookIn_ns hns
  have l : List.lookup ("row" : Str) [(("row" : Str), v)] = some v := by simp [List.lookup]
  obtain ⟨u, hu, ru⟩ := RelO.some_of (v := v) (o := mA "row") (by rw [← l]; exact hr "row")
  have J : PySem.W.InstAt s1.heap a oe C (some od) := ⟨ha, hz.1, by unfold PySem.W.notCls; rw [hd] <;> rfl, by rw [hz.2]; exact ho⟩
  exact HandSPX.exc_get I1.kIn J T.ga T.gg T.exC (PySem.W.findObj_own T.hdC T.noN rfl (by rw [hl, hu])) (handed_of ru) ⟨v, H1, I1.tok _, ru, q⟩
end
end L2
/-! OWN: ==, != and str of an instance by its class's own defs. -/
namespace OWN
open PySem PySem.Spec PyProof.Rows L2
section
variable {prog : Program} {w : World} {A : Around} {E : Value → Shared → Prop} {s : Shared} {K : PySem.W.Frag} {x C f : Addr} {ox : Obj} {od : Option Obj} {h₀ : Heap} {L : Addr} {m : Str → Option Value}
theorem ifBound_objNe {M : Model} {args : List Value} {Q : Option Value → Shared → Prop} (X : K.In s.heap) (I : PySem.W.InstAt s.heap x ox C od) (hs : PySem.W.findIn K (.ref C) "__ne__" = some (some (.builtin "object.__ne__")))
    (h : wpAny M A (call (.builtin "object.__ne__") (.ref x :: args)) (fun v => Q (some v)) E s) : wpAny M A (callSpecialIfBound? (.ref x) "__ne__" args) Q E s := by
  simp only [callSpecialIfBound?, bindSpecialIfBound?]
  refine wpAny_holding (wpAny_bind (wpAny_bind (wpAny_bind (I.type.here ((PySem.W.looks_findIn X hs).here ?_)))))
  refine wpAny_bind (wpAny_askSetting (wpAny_ite ?_))
  have fin : wpAny M A (call (.builtin "object.__ne__") ([.ref x] ++ args) >>= fun v => pure (some v)) Q E s := wpAny_bind (wpAny_mono h (fun v s' h' => wpAny_pure h') fun _ _ h' => h')
  split
  · exact wpAny_bind (wpAny_of_eq (F.cmp_object.ne.bind _) (wpAny_pure (by exact fin)))
  · exact wpAny_tryCatch (wpAny_bind (wpAny_of_eq (F.cmp_object.ne.bind _) (wpAny_pure (by exact fin))))
theorem entry_ne {b : Value} (hu : A.units < cLine) (X : K.In s.heap) (I : PySem.W.InstAt s.heap x ox C od) (hs : PySem.W.findIn K (.ref C) "__eq__" = some (some (.ref f))) (hf : PySem.W.isFn K (.ref f) = true) {Q : Fin → Shared → Prop}
    (hcall : wpAny (model prog w) A (call (.ref f) [.ref x, b]) (fun v s' => ∃ b, v = .bool b ∧ Q (.done (.ret (.bool (!b)))) s') E s) :
    wpAny (model prog w) A (Builtin.«object.__ne__» ⟨[.ref x, b], []⟩) Q E s := by
  unfold Builtin.«object.__ne__»
  repeat (first
    | with_reducible refine wpAny_cRoomFor hu ?_
    | (refine wpAny_bind (m := callSpecialIfBound? (.ref x) (Str.ofString "__eq__") [b])
        (PySem.W.ifBound_K X I hs hf (wpAny_mono hcall (fun r s' hr => by
          obtain ⟨b, rfl, hq⟩ := hr
          repeat (first | exact hq | exact wpAny_pure hq | exact wpAny_truthy_bool hq | (refine wpAny_bind (m := truthy (.bool _)) (wpAny_truthy_bool ?_)) | wp_step)) fun _ _ e => e)))
    | wp_step)
theorem ne_K {b tb : Value} {Q : Value → Shared → Prop} (hu : A.units + 1 < cLine) (X : K.In s.heap) (I : PySem.W.InstAt s.heap x ox C od) (hb : PySem.W.Looks (model prog w) s.heap (typeOf b) tb) (hn : PySem.W.notFirst K C tb = true) (hm : PySem.W.mroIn K C (.type "object") = some true)
    (hne : PySem.W.findIn K (.ref C) "__ne__" = some (some (.builtin "object.__ne__"))) (hs : PySem.W.findIn K (.ref C) "__eq__" = some (some (.ref f))) (hf : PySem.W.isFn K (.ref f) = true)
    (h : wpAny (model prog w) A.in1 (call (.ref f) [.ref x, b]) (fun v s' => ∃ b, v = .bool b ∧ Q (.bool (!b)) s') E s) : wpAny (model prog w) A (richCompare .NotEq (.ref x) b) Q E s := by
  have one : wpAny (model prog w) A (tryCompare (.ref x) (cmpInfo .NotEq).2.1 b) (fun r s' => ∃ v, r = some v ∧ Q v s') E s := by
    unfold tryCompare
    refine wpAny_bind (ifBound_objNe X I hne (wpAny_call (codeAny_call_builtin F.cmp_object.ne.plain F.cmpEntry_ne (PySem.W.check_slot F.cmpKind_ne F.cmpSplit_ne (I.type.andThen (PySem.W.looks_mroIn X hm)) (F.cmpArgs_ne _ _) (entry_ne (A := A.in1) hu X I hs hf (wpAny_mono h (fun v s' hv => ?_) fun _ _ e => e))))))
    obtain ⟨k, rfl, hq⟩ := hv
    first | exact ⟨k, rfl, wpAny_pure ⟨_, rfl, hq⟩⟩ | exact ⟨k, rfl, ⟨_, rfl, hq⟩⟩
  unfold richCompare
  simp only [oneThing_ref]
  refine wpAny_holding (wpAny_bind (wpAny_cRoomFor (Nat.lt_of_succ_lt hu) ?_))
  refine wpAny_bind (I.type.here (wpAny_bind (hb.here ?_)))
  split
  · rename_i q
    have e : PySem.W.subIn K tb (.ref C) = some false := by
      rcases Bool.or_eq_true_iff.mp hn with e | e
      · rw [beq_iff_eq.mp e] at q; simp at q
      · exact beq_iff_eq.mp e
    refine wpAny_bind ((PySem.W.looks_subIn X e).here ?_)
    simp only [Bool.false_eq_true, if_false]
    refine wpAny_bind (wpAny_mono one (fun r s' z => ?_) fun _ _ e => e)
    obtain ⟨v, rfl, hq⟩ := z
    exact wpAny_pure hq
  · refine wpAny_bind (wpAny_pure ?_)
    simp only [Bool.false_eq_true, if_false]
    refine wpAny_bind (wpAny_mono one (fun r s' z => ?_) fun _ _ e => e)
    obtain ⟨v, rfl, hq⟩ := z
    exact wpAny_pure hq
end
section
variable {X : Cx} {n : Nat} {C f : Addr} {fd : FuncData} {ps : List Str} {sp : Sp}
theorem v1r (a : Addr) : Vals [V.ref a] [Value.ref a] := .cons rfl .nil
theorem v2r (a b : Addr) : Vals [V.ref a, V.ref b] [Value.ref a, Value.ref b] := .cons rfl (.cons rfl .nil)
theorem run_at {A : Around} {pins : List (Addr × Obj)} {σ : L2.St} {H : Hp} {s : Shared} {vs : List V} {us : List Value} {Q : VK} (sb : Sub X n A) (F : FnOk X.prog X.w X.K X.mg X.base CX0 n f fd ps sp) (hb : Binds X.K fd ps []) (I : Inv X pins σ H s) (r : Vals vs us) (h : sp vs H Q E0) :
    wpAny (model X.prog X.w) A (call (.ref f) us) (EP X pins σ Q) X.xe s := by
  have e0 : Env0 X.prog X.w X.K X.mg X.base A X.stack s H := by
    have e := I.env0
    exact ⟨by rw [sb.fr]; exact e.frames, e.mod, e.bs, e.bsz, e.funs, e.frf, e.hok, e.bare⟩
  have hl := F.len _ _ _ _ h
  have hl' : (us ++ []).length = ps.length := by rw [List.append_nil, ← r.length]; exact hl
  refine wpAny_call (codeAny_mono (F.run A X.stack s H ⟨us, []⟩ us vs _ E0 sb.room e0 (by
    have := hb s us I.kIn hl'
    simpa using this) r h) fun r s' hq => ?_)
  cases r with
  | error e => exact False.elim hq
  | ok fl =>
    cases fl with
    | ret w => exact I.after hq
    | next => exact False.elim hq
    | brk => exact False.elim hq
    | cont => exact False.elim hq
/-- str(o) by its own def -/
def rStrOwn (C : Addr) (sp : Sp) : List V → Hp → VK → Prop := fun xs H Q => ∃ a dx fs, xs = [.ref a] ∧ H a = some (.ins C dx fs) ∧ sp [.ref a] H (fun z H' => ∃ y, z = .str y ∧ Q z H') E0
theorem call_strOwn (F : FnOk X.prog X.w X.K X.mg X.base CX0 n f fd ps sp) (hb : Binds X.K fd ps []) (hs : PySem.W.findIn X.K (.ref C) "__str__" = some (some (.ref f))) (hf : PySem.W.isFn X.K (.ref f) = true) (hr : Room (n + 2) X.A) : CallR X (.type "str") (rStrOwn C sp) := by
  intro pins s σ H xs us Q I r h
  obtain ⟨a, dx, fs, rfl, ha, h⟩ := h
  obtain ⟨u, rfl, rx⟩ := vals1 r
  cases (show u = Value.ref a from rx)
  obtain ⟨mA, J, _⟩ := ins_get I.hok ha
  obtain ⟨od, J, _⟩ := J.look
  have sb : Sub X n X.A.in1.in1 := (Sub.in1 (Sub.in1 ⟨hr, rfl⟩))
  have hu : X.A.in1.in1.units < cLine := by have := sb.room.units0; exact this
  refine PySem.W.kso_call hu I.kIn J hs hf (wpAny_mono (run_at sb F hb I (v1r a) h) (fun v s' z => ?_) fun _ _ e => e)
  obtain ⟨z, H', I', rz, ⟨y, rfl, q⟩⟩ := z
  obtain ⟨tk, rfl⟩ := rz
  exact ⟨.str y, H', I', ⟨tk, rfl⟩, q⟩
/-- x == y, x an instance of the class at C with an own __eq__, y of the class or of a built-in type -/
def EqTy (K : PySem.W.Frag) (C : Addr) (H : Hp) (y : V) : Prop := (∃ b dx fs, y = .ref b ∧ H b = some (.ins C dx fs)) ∨ ∃ t, TyX K H y t ∧ PySem.W.notFirst K C t = true
def rEqOwn (K : PySem.W.Frag) (C : Addr) (sp : Sp) (neg : Bool) : R2 := fun x y H Q => ∃ a dx fs, x = .ref a ∧ H a = some (.ins C dx fs) ∧ (∃ b dy gs, y = .ref b ∧ H b = some (.ins C dy gs)) ∧ sp [x, y] H (fun z H' => ∃ k, z = .bl k ∧ Q (.bl (if neg then !k else k)) H') E0
theorem op_eqOwn (F : FnOk X.prog X.w X.K X.mg X.base CX0 n f fd ps sp) (hb : Binds X.K fd ps []) (hs : PySem.W.findIn X.K (.ref C) "__eq__" = some (some (.ref f))) (hf : PySem.W.isFn X.K (.ref f) = true) (hr : Room n X.A) : OpR X (compareOp .Eq) (rEqOwn X.K C sp false) := by
  intro pins s σ H x y v u Q I rx ry hq
  obtain ⟨a, dx, fs, rfl, ha, ⟨b, dy, gs, rfl, hb'⟩, h⟩ := hq
  cases rx
  cases ry
  obtain ⟨mA, J, _⟩ := ins_get I.hok ha
  obtain ⟨mB, J', _⟩ := ins_get I.hok hb'
  obtain ⟨od, J, _⟩ := J.look
  obtain ⟨od', J', _⟩ := J'.look
  obtain ⟨m, hF⟩ := I.fr
  show wpAny (model X.prog X.w) X.A (richCompare .Eq (.ref a) (.ref b)) (EP X pins σ Q) X.xe s
  refine PySem.W.cmp_K (op := .Eq) (tb := .ref C) hr.units0 hF I.ok.mod.kin J J'.type (by simp [PySem.W.notFirst]) hs hf (wpAny_mono (run_at ⟨hr, rfl⟩ F hb I (v2r a b) h) (fun v s' z => ?_) fun _ _ e => e)
  obtain ⟨z, H', I', rz, ⟨k, rfl, q⟩⟩ := z
  cases rz
  exact ⟨.bl k, H', I', rfl, q⟩
theorem op_neOwn (F : FnOk X.prog X.w X.K X.mg X.base CX0 n f fd ps sp) (hb : Binds X.K fd ps []) (hs : PySem.W.findIn X.K (.ref C) "__eq__" = some (some (.ref f))) (hf : PySem.W.isFn X.K (.ref f) = true) (hne : PySem.W.findIn X.K (.ref C) "__ne__" = some (some (.builtin "object.__ne__"))) (hm : PySem.W.mroIn X.K C (.type "object") = some true)
    (hr : Room (n + 1) X.A) : OpR X (compareOp .NotEq) (rEqOwn X.K C sp true) := by
  intro pins s σ H x y v u Q I rx ry hq
  obtain ⟨a, dx, fs, rfl, ha, ⟨b, dy, gs, rfl, hb'⟩, h⟩ := hq
  cases rx
  cases ry
  obtain ⟨mA, J, _⟩ := ins_get I.hok ha
  obtain ⟨mB, J', _⟩ := ins_get I.hok hb'
  obtain ⟨od, J, _⟩ := J.look
  obtain ⟨od', J', _⟩ := J'.look
  have sb : Sub X n X.A.in1 := Sub.in1 ⟨hr, rfl⟩
  have hu : X.A.units + 1 < cLine := sb.room.units0
  show wpAny (model X.prog X.w) X.A (richCompare .NotEq (.ref a) (.ref b)) (EP X pins σ Q) X.xe s
  refine ne_K (tb := .ref C) hu I.kIn J J'.type (by simp [PySem.W.notFirst]) hm hne hs hf (wpAny_mono (run_at sb F hb I (v2r a b) h) (fun v s' z => ?_) fun _ _ e => e)
  obtain ⟨z, H', I', rz, ⟨k, rfl, q⟩⟩ := z
  cases rz
  exact ⟨k, rfl, .bl (!k), H', I', rfl, q⟩
end
end OWN
/-! DC: dict comprehensions with texts as keys; an own class made by a local name that holds it; its fields set; its methods called. -/
namespace DV
open PySem L2
variable {K : PySem.W.Frag}
theorem putK_new {kvs : List (Key × V)} {k : Key} {v : V} (h : ∀ p ∈ kvs, p.1 ≠ k) : putK kvs k v = kvs ++ [(k, v)] := by
  unfold putK
  have e : (kvs.any fun kv => decide (kv.1 = k)) = false := by
    rw [List.any_eq_false]
    intro p hp
    simpa using h p hp
  rw [e]
  simp
theorem RpK.keys {B : Hp} : ∀ {vs : List (Key × V)} {ds : List (Key × D)}, RpK K B vs ds → vs.map (·.1) = ds.map (·.1)
  | _, _, .nil => rfl
  | _, _, .cons _ r => by rw [List.map_cons, List.map_cons, RpK.keys r]
theorem RpK.append {B : Hp} : ∀ {vs ws : List (Key × V)} {ds es : List (Key × D)}, RpK K B vs ds → RpK K B ws es → RpK K B (vs ++ ws) (ds ++ es)
  | _, _, _, _, .nil, s => s
  | _, _, _, _, .cons h r, s => .cons h (RpK.append r s)
section
variable {ss : List Sl}
theorem ev_dcE {β : Type} {wi : TI} {g : TG} {tk tv : TE} {vs : List Nat} {l : List β} {enc : β → D} (hw : WD K [] ss [] wi (l.map enc) []) (key : β → Str) (val : β → D) (hz : l.length ≤ 1000) (nd : (l.map key).Nodup)
    (hs : ∀ (i : Nat) (x : β), l[i]? = some x → ∃ G W, GR K (wipeS ss vs) g (enc x) G W ∧ (∀ k ∈ W, k ∈ vs) ∧ Ev K [] G [] tk (.dat (.str (key x))) [] ∧ Ev K [] G [] tv (.dat (val x)) []) :
    Ev K [] ss [] (tDc wi g tYes tk tv vs) (.dat (.dic (l.map fun x => ((Sum.inr (key x) : Key), val x)))) [] := fun B H σ o Q q => by
  refine hw B H σ o _ fun It B1 H1 s1 o1 wk Dp hDp => ?_
  have hB1 : B1 Dp = none := o1.ex.free hDp
  have hD0 : H Dp = none := by
    cases e : H Dp with
    | none => rfl
    | some u =>
      obtain ⟨u', h'⟩ := s1.dm Dp u e
      rw [hDp] at h'; cases h'
  let out : Nat → List (Key × D) := fun i => (l.take i).map fun x => ((Sum.inr (key x) : Key), val x)
  let I : Nat → Hp → Prop := fun i H' => ∃ B' kvs, Stp [] B1 H1 B' H' ∧ Okk K [] ss [] B' H' σ ∧ H' Dp = some (.dK kvs) ∧ B' Dp = none ∧ RpK K B' kvs (out i)
  have i0 : I 0 (upd H1 Dp (.dK [])) :=
    ⟨B1, [], ⟨Ex.refl _, fun b u n e => Ex.new hDp b u e, fun _ _ _ => rfl, fun b u e => ⟨u, Ex.new hDp b u e⟩⟩, ⟨fun b u e => Ex.new hDp b u (o1.ex b u e), o1.sl, True.intro⟩, upd_same, hB1, .nil⟩
  refine ⟨fun i m H' => m = l.length - i ∧ i ≤ l.length ∧ I i H', ⟨l.length, by simp, Nat.zero_le _, i0⟩, ?_⟩
  rintro i m H' ⟨rfl, hi, B2, kvs, s2, o2, hd2, hb2, r2⟩
  obtain ⟨w1, w2⟩ := wk i B2 H' s2.ex o2.ex
  by_cases hlt : i < l.length
  · have hx : l[i]? = some l[i] := List.getElem?_eq_getElem hlt
    generalize l[i] = x at hx
    have hd' : (l.map enc)[i]? = some (enc x) := by rw [List.getElem?_map, hx]; rfl
    obtain ⟨go, yl⟩ := w1 _ hd'
    obtain ⟨G, W, hg, hW, hk, hv⟩ := hs i x hx
    refine .inr ⟨go, I (i + 1), fun H3 q => ⟨l.length - (i + 1), by omega, rfl, hlt, q⟩, fun y H3 hy => ?_⟩
    obtain ⟨B3, s3, e3, x3⟩ := yl y H3 hy
    have o3 := o2.step0 s3 e3
    refine hg B3 H3 (wipe σ vs) y o3.ex (o3.sl.wipe vs) x3 _ fun σ4 s4 on => ⟨on.wipe hW, ?_⟩
    show tk σ4 H3 _
    refine hk B3 H3 σ4 ⟨o3.ex, s4, True.intro⟩ _ fun kv B5 H5 s5 o5 v5 => ?_
    cases (show Rp K B5 kv (.str (key x)) from v5)
    refine hv B5 H5 σ4 o5 _ fun v B6 H6 s6 o6 v6 => ?_
    have s26 : Stp [] B2 H' B6 H6 := (s3.trans s5).trans s6
    have hd6 : H6 Dp = some (.dK kvs) := s26.fr _ _ (by simp) hd2
    have hb6 : B6 Dp = none := by rw [s26.nb _ _ hd2]; exact hb2
    have r6 : RpK K B6 kvs (out i) := RpK.mono s26.ex r2
    have hl : kvs.length = i := by rw [r6.length]; show ((l.take i).map _).length = i; rw [List.length_map, List.length_take]; omega
    have hnew : ∀ p ∈ kvs, p.1 ≠ (Sum.inr (key x) : Key) := fun p hp z => by
      have h1 : p.1 ∈ kvs.map (·.1) := List.mem_map.mpr ⟨p, hp, rfl⟩
      rw [r6.keys, z] at h1
      obtain ⟨q', hq', eq'⟩ := List.mem_map.mp h1
      obtain ⟨y', hy', rfl⟩ := List.mem_map.mp hq'
      have ek : key y' = key x := Sum.inr.inj eq'
      obtain ⟨j, hj, ej⟩ := List.getElem_of_mem hy'
      have hj' : j < i := by rw [List.length_take] at hj; omega
      have hjl : l[j]? = some y' := by
        rw [List.getElem_take] at ej
        rw [List.getElem?_eq_getElem (by omega), ej]
      have a1 : (l.map key)[j]? = some (key x) := by rw [List.getElem?_map, hjl, ← ek]; rfl
      have a2 : (l.map key)[i]? = some (key x) := by rw [List.getElem?_map, hx]; rfl
      obtain ⟨l1, g1⟩ := List.getElem?_eq_some_iff.mp a1
      obtain ⟨l2, g2⟩ := List.getElem?_eq_some_iff.mp a2
      exact List.pairwise_iff_getElem.mp nd j i l1 l2 hj' (g1.trans g2.symm)
    refine ⟨kvs, Sum.inr (key x), rfl, hd6, lt_line (by omega), ?_⟩
    rw [putK_new hnew]
    have key' : ∀ b, b ≠ Dp → upd H6 Dp (.dK (kvs ++ [(Sum.inr (key x), v)])) b = H6 b := fun b n => upd_ne n
    have hne : ∀ b u, H1 b = some u → b ≠ Dp := fun b u e z => by rw [z, hDp] at e; cases e
    have s16 := s2.trans s26
    refine ⟨B6, _, ⟨s16.ex, fun b u n e => by rw [key' b (hne b u e)]; exact s16.fr b u n e, s16.nb, fun b u e => by rw [key' b (hne b u e)]; exact s16.dm b u e⟩, ⟨fun b u e => ?_, o2.sl.mono s26.ex, True.intro⟩, upd_same, hb6, ?_⟩
    · rw [key' b (fun z => by rw [z, hb6] at e; cases e)]; exact o6.ex b u e
    · show RpK K B6 _ ((l.take (i + 1)).map _)
      rw [List.take_add_one, hx, List.map_append]
      exact RpK.append r6 (.cons v6 .nil)
  · have e : i = l.length := by omega
    subst e
    have ho : out l.length = l.map fun x => ((Sum.inr (key x) : Key), val x) := by show (l.take l.length).map _ = _; rw [List.take_length]
    rw [ho] at r2
    have eB : Ex B2 (upd B2 Dp (.dK kvs)) := Ex.new hb2
    have s02 := s1.trans s2
    refine .inl ⟨w2 (by rw [List.length_map]; exact Nat.le_refl _), q _ (upd B2 Dp (.dK kvs)) H' ⟨s02.ex.trans eB, s02.fr, fun b u e => ?_, s02.dm⟩ ⟨fun b u e => ?_, o2.sl.mono eB, True.intro⟩ (Rp.dic upd_same (RpK.mono eB r2))⟩
    · rw [upd_ne (ne_of_none e hD0)]
      exact s02.nb b u e
    · by_cases hb : b = Dp
      · subst hb; rw [upd_same] at e; cases e; exact hd2
      · rw [upd_ne hb] at e; exact o2.ex b u e
end
/-- a local name holds the class: C(..) by it -/
def tMakeL (i : Nat) (C : Addr) (sp : Sp) (t : TA) : TE := fun σ H Q => σ[i]? = some (some (.ref C)) ∧ tMake C sp [] E0 t σ H Q
open PySem.Spec PyProof.Rows in
theorem pe_makeL {X : Cx} {k i : Nat} {f C : Addr} {fd : FuncData} {ps : List Str} {sp : Sp} {x : Str} {p pos : Pos} {e : Expr} {es : List Expr} {t : TA} (M : Mk X.K C f) (F : FnOk X.prog X.w X.K X.mg X.base CX0 k f fd ps sp) (hb : Binds X.K fd ps []) (hr : Room (k + 1) X.A)
    (hN : X.N[i]? = some x) (hv : Vis X.env.scope x) (ha : PA X (e :: es) t)
    (hdb : (x == ("__debug__" : Str)) = false := by decide) (hcd : (x == ("__classdict__" : Str)) = false := by decide)
    (he : starEach (e :: es) X.env = (false, eval e X.env) :: starEach es X.env := by rfl) (hpl : (backTo pos (starEach es X.env)).any (·.1) = false := by rfl) : PE X (.Call (.Name x p) (e :: es) [] pos) (tMakeL i C sp t) := by
  refine ⟨fun pins s σ H Q I h => ?_⟩
  obtain ⟨hs, ht⟩ := h
  refine wpAny_Call_Name_kw (thn ((pe_var (pos := p) hN hv hdb hcd).run pins s σ H (fun v H1 => v = .ref C ∧ H1 = H) I ⟨.ref C, hs, rfl, rfl⟩) fun u s1 ⟨v, H1, I1, r1, q1⟩ => ?_)
  obtain ⟨rfl, rfl⟩ := q1
  cases r1
  refine PySem.W.callWith_K (h₀ := X.base) I.ok.mod.kin M.kp (thn (ha.run pos pins s1 σ _ _ I1 ht) fun us s2 ⟨vs, H2, I2, r, q⟩ => ⟨I2.kIn, ?_⟩) he hpl
  exact run_make M F hr hb .nil pass0 I2 r q
/-- o.f = v while o is not told yet -/
theorem st_fldNew {B0 H0 B H : Hp} {ss : List Sl} {σ : L2.St} {D : Ends} {i : Nat} {te : TE} {d : DV.D} {p C dx : Addr} {fs : List (Str × V)} {f : Str} (s : Stp [] B0 H0 B H) (o : Okk K [] ss [] B H σ) (hp0 : H0 p = none) (hbp : B p = none) (hi : ss[i]? = some (.val (.ref p)))
    (hp : H p = some (.ins C dx fs)) (c : Cls K C) (n : NoAttr K C f) (hl : fs.length < 1000) (he : Ev K [] ss [] te (.dat d) [])
    (k : ∀ v B' H', Stp [] B0 H0 B' H' → Okk K [] ss [] B' H' σ → Ex B B' → B' p = none → H' p = some (.ins C dx (putF f v fs)) → Rp K B' v d → D.nx σ H') : sFld K (tVar i) te f D σ H := by
  refine he B H σ o _ fun v B1 H1 s1 o1 v1 => ?_
  obtain ⟨u, hu, eu⟩ := o1.sl.get i _ hi (by intro z; cases z)
  cases (show u = V.ref p from eu)
  have hp1 : H1 p = some (.ins C dx fs) := s1.fr _ _ (by simp) hp
  have hb1 : B1 p = none := by rw [s1.nb _ _ hp]; exact hbp
  have s01 := s.trans s1
  refine ⟨.ref p, hu, p, C, dx, fs, rfl, hp1, c, n, hl, ?_⟩
  exact k v B1 _ (SP.stp_upd s01 hp0) ⟨SP.ex_upd o1.ex hb1, o1.sl, True.intro⟩ s1.ex hb1 upd_same v1
end DV
/-! ZM: zip of a tuple and a list, by the library's zip over two iterators of any kind. -/
namespace ZM
open PySem PySem.Spec PyProof.Rows L2 RZ
/-- what a turn of zip(tuple, list) gives -/
def ItzM (K : PySem.W.Frag) (a b : Addr) (n m : Nat) : It where
  go i H := ∃ xs ys x y, SqT K H a xs ∧ SqL K H b ys ∧ xs[i]? = some x ∧ ys[i]? = some y ∧ xs.length = n ∧ ys.length = m
  yld i H v H' := ∃ T x y, v = .ref T ∧ H T = none ∧ H' = upd H T (.tup [x, y]) ∧ (∀ xs, SqT K H a xs → xs[i]? = some x) ∧ ∀ ys, SqL K H b ys → ys[i]? = some y
  stop i H := ∃ xs ys, SqT K H a xs ∧ SqL K H b ys ∧ xs.length = n ∧ ys.length = m ∧ min n m ≤ i
/-- the five cells of it between two turns -/
def Cells (z TI TO i1 i2 a b : Addr) (N i : Nat) (h : Heap) : Prop := i ≤ N ∧ IsZip h z TI TO .none ∧ IsPair h TI (.ref i1) (.ref i2) ∧ (∃ x y, IsPair h TO x y) ∧ h.IsTupleIter i1 a i ∧ h.IsListIter i2 b i
theorem sepOf {z TI TO i1 i2 a b : Addr} (D : ZipApart z TI TO i1 i2 a b) : ZipSep2 z TI TO i1 i2 [i1, a] [i2, b] where
  TIz := D.TIz
  TOz := D.TOz
  TITO := D.TITO
  TIi1 := D.TIi1
  mem1 := by simp
  zf1 := by simp [Ne.symm D.i1z, Ne.symm D.l1z]
  Tf1 := by simp [D.TOi1, Ne.symm D.l1TO]
  TIi2 := D.TIi2
  mem2 := by simp
  zf2 := by simp [Ne.symm D.i2z, Ne.symm D.l2z]
  Tf2 := by simp [D.TOi2, Ne.symm D.l2TO]
  sep1_2 := by simp [D.i12, Ne.symm D.l2i1]
  sep2_1 := by simp [Ne.symm D.i12, Ne.symm D.l1i2]
theorem cases5 {c z TI TO i1 i2 : Addr} (h : c ∈ [z, TI, TO, i1, i2]) : c = z ∨ c = TI ∨ c = TO ∨ c = i1 ∨ c = i2 := by simpa using h
theorem cell_obj {z TI TO i1 i2 a b c : Addr} {N i : Nat} {h : Heap} (st : Cells z TI TO i1 i2 a b N i h) (hc : c ∈ [z, TI, TO, i1, i2]) : ∃ o, h.get? c = some o ∧ ∀ v, o.data ≠ .cell v := by
  obtain ⟨_, p1, p2, ⟨_, _, p3⟩, ⟨o4, p4, _, d4⟩, ⟨o5, p5, _, d5⟩⟩ := st
  rcases cases5 hc with rfl | rfl | rfl | rfl | rfl
  · exact ⟨_, p1, nofun⟩
  · exact ⟨_, p2, nofun⟩
  · exact ⟨_, p3, nofun⟩
  · exact ⟨o4, p4, fun v e => by rw [d4] at e; cases e⟩
  · exact ⟨o5, p5, fun v e => by rw [d5] at e; cases e⟩
theorem turnM {P : Program} {w : World} {K : PySem.W.Frag} {elts : List Expr} {kk : Nat} {tpos : Pos} {a b z TI TO i1 i2 : Addr} {n m : Nat} (D : ZipApart z TI TO i1 i2 a b) : Turn P w K (.Tuple elts kk tpos) (ItzM K a b n m) [z, TI, TO, i1, i2] z (Cells z TI TO i1 i2 a b (min n m)) where
  mem := List.mem_cons_self
  obj i h st c hc := cell_obj st hc
  keep i h h' st k := by
    obtain ⟨p0, p1, p2, ⟨x, y, p3⟩, p4, p5⟩ := st
    refine ⟨p0, k _ ?_ _ p1, k _ ?_ _ p2, ⟨x, y, k _ ?_ _ p3⟩, p4.at (k _ ?_), p5.at (k _ ?_)⟩ <;> simp
  item := by
    intro X hP hw hK hc i pins s σ H E I free st go
    subst hP hw hK
    have st0 := st
    obtain ⟨p0, p1, p2, ⟨u0, v0, p3⟩, p4, p5⟩ := st
    obtain ⟨xs, ys, x, y, qa, qb, ex, ey, hn, hm⟩ := go
    have i1n := (List.getElem?_eq_some_iff.mp ex).1
    have i2m := (List.getElem?_eq_some_iff.mp ey).1
    obtain ⟨ua, ra, ta, _⟩ := I.tuple qa
    obtain ⟨ub, rb, lb, _⟩ := I.list qb
    obtain ⟨u, eu, ru⟩ := ra.get ex
    obtain ⟨v, ev, rv⟩ := rb.get ey
    have none1 : X.A.in1.handled = none := I.ok.hd hc
    refine wpAny_pyNext_zipD2_item (sepOf D) (Draws.tuple none1 i1 a D.l1i1 ua.toArray) (Draws.list none1 i2 b D.l2i2 ub.toArray) p1 p2 p3 ⟨p4, ta⟩ ⟨p5, lb.isList⟩
      (by simpa using (List.getElem?_eq_some_iff.mp eu).1) (by simpa using (List.getElem?_eq_some_iff.mp ev).1) fun v1 v2 h1 tk e1 e2 n1 n3 n4 n5 nT nS old => ?_
    have w1 : v1 = u := by simpa [eu] using e1.symm
    have w2 : v2 = v := by simpa [ev] using e2.symm
    subst w1 w2
    have lt : ∀ c ∈ [z, TI, TO, i1, i2], c < s.heap.objs.size := fun c h => (cell_obj st0 h).elim fun o q => Heap.lt_size q.1
    refine ⟨_, rfl, wpAny_letOwnedTupleGo_zip (s := { s with heap := h1, toks := tk }) n1 fun h2 m1 same => ?_⟩
    have at2 : ∀ c o, c ≠ z → h1.get? c = some o → h2.get? c = some o := fun c o n q => (same.2 c n).trans q
    have old2 : ∀ c o, c ∉ [z, TI, TO, i1, i2] → s.heap.get? c = some o → h2.get? c = some o := fun c o n q => by
      simp only [List.mem_cons, List.not_mem_nil, or_false, not_or] at n
      exact at2 c o n.1 (old c o n.1 n.2.2.1 n.2.2.2.1 n.2.2.2.2 q)
    have newT : h2.get? s.heap.objs.size = some { cls := .type "tuple", data := .seq #[v1, v2] } := at2 _ _ (Nat.ne_of_gt (lt z (by simp))) nT
    have I1 : Inv X pins σ (upd H s.heap.objs.size (.tup [x, y])) { s with heap := h2, toks := tk } :=
      I.turnedNew (t' := tk) (ch := [z, TI, TO, i1, i2]) old2 free (Nat.le_refl _) ⟨by show 2 ≤ sizeLine; decide, [v1, v2], .cons ru (.cons rv .nil), _, newT, rfl, _, rfl⟩
    refine ⟨.ref _, _, I1, rfl, ⟨_, x, y, rfl, I.hok.fresh (Nat.le_refl _), rfl, fun l q => I.tuple_inj q qa ▸ ex, fun l q => I.list_inj q qb ▸ ey⟩, ⟨by omega, m1, at2 _ _ D.TIz (old _ _ D.TIz D.TITO D.TIi1 D.TIi2 p2), ⟨v1, v2, at2 _ _ D.TOz n3⟩, n4.1.at fun o q => at2 _ o D.i1z q, n5.1.at fun o q => at2 _ o D.i2z q⟩, fun c h => ?_⟩
    rw [upd_ne (Nat.ne_of_lt (lt c h))]
    exact (free c h).1
  done := by
    intro X hP hw hK hc i pins s σ H E I free st fin
    subst hP hw hK
    obtain ⟨p0, p1, p2, ⟨u0, v0, p3⟩, p4, p5⟩ := st
    obtain ⟨xs, ys, qa, qb, hn, hm, he⟩ := fin
    obtain ⟨ua, ra, ta, _⟩ := I.tuple qa
    obtain ⟨ub, rb, lb, _⟩ := I.list qb
    have la := ra.length
    have lb' := rb.length
    have none1 : X.A.in1.handled = none := I.ok.hd hc
    refine wpAny_pyNext_zipD2_end (i := i) (sepOf D) (Draws.tuple none1 i1 a D.l1i1 ua.toArray) (Draws.list none1 i2 b D.l2i2 ub.toArray) p1 p2 p3 ⟨p4, ta⟩ ⟨p5, lb.isList⟩
      (by rw [List.size_toArray]; omega) (by rw [List.size_toArray]; omega) (by rw [List.size_toArray, List.size_toArray]; omega) fun h1 tk old => ⟨rfl, I.turnedL (t' := tk) (ch := [z, TI, TO, i1, i2]) (fun c o n q => ?_) free⟩
    simp only [List.mem_cons, List.not_mem_nil, or_false, not_or] at n
    exact old c o n.1 n.2.2.1 n.2.2.2.1 n.2.2.2.2 q
  self A i s Q E st h := wpAny_pyIter_zip st.2.1 h
/-- zip(t, l) -/
def iZipM (K : PySem.W.Frag) (ta : TA) : TI := fun σ H R => ta σ H fun vs H1 => ∃ a b xs ys, vs = [.ref a, .ref b] ∧ SqT K H1 a xs ∧ SqL K H1 b ys ∧ R (ItzM K a b xs.length ys.length) H1
theorem pi_zipM {X : Cx} {e1 e2 : Expr} {ta : TA} {np cp tp : Pos} {elts : List Expr} {n : Nat} (hg : Gl X "zip") (hm : X.mg "zip" = none) (ha : PA X [e1, e2] ta)
    (h1 : starEach [e1, e2] X.env = (false, eval e1 X.env) :: starEach [e2] X.env := by rfl) (h2 : (backTo cp (starEach [e2] X.env)).any (·.1) = false := by rfl) : PI X (.Tuple elts n tp) (.Call (.Name "zip" np) [e1, e2] [] cp) (iZipM X.K ta) where
  run pins s σ H R I h := by
    refine Call_ (ld_blt I hg hm PyProof.Rows.boot_zip (PyProof.Rows.callWith_type1 (thn (ha.run cp pins s σ H _ I h) fun us t ⟨vs, G, I1, rv, a, b, xs, ys, ev, qa, qb, q⟩ => ?_) h1 h2))
    subst ev
    obtain ⟨u1, u2, rfl, r1, r2⟩ := vals2 rv
    cases r1
    cases r2
    obtain ⟨ua, ra, ta', _⟩ := I1.tuple qa
    obtain ⟨ub, rb, lb, _⟩ := I1.list qb
    have at' := ta'
    obtain ⟨oa, ga, _⟩ := at'
    have far : ∀ k, FpOk X pins G (t.heap.objs.size + k) := fun k => I1.fpOk (Nat.le_add_right _ _) (I1.hok.fresh (Nat.le_add_right _ _))
    refine zip_begins2 (begins_tuple a ua.toArray) (begins_list b ub.toArray) ta' lb.isList fun h' z0 z2 z3 c1 c2 _ old => wpAny_pyIter_zip z0 ⟨_, _, _, _, G, rfl, I1.kept (t' := t.toks) old, turnM (PySem.W.ktu_apart t.heap.objs.size a b (Heap.lt_size ga) lb.lt), ⟨Nat.zero_le _, z0, z2, ⟨_, _, z3⟩, ⟨_, c1, rfl, rfl⟩, ⟨_, c2, rfl, rfl⟩⟩, fun c hc => ?_, q⟩
    rcases cases5 hc with rfl | rfl | rfl | rfl | rfl
    · exact far 4
    · exact far 2
    · exact far 3
    · exact far 0
    · exact far 1
end ZM
namespace SP
open PySem L2 DV PM
def schD (C : Addr) (T : List Tab) : D := .obj C [("tables", .nt (T.map fun t => .str t.1)), ("_columns", .dic (T.map fun t => ((Sum.inr t.1 : Key), .tup (t.2.map encC)))), ("_rows", .lst ((rowsOf T).map D.str))]
def schOk (T : List Tab) : Prop := tabsOk T ∧ (T.map (·.1)).Nodup
def spInit (K : PySem.W.Frag) (C : Addr) : Sp := fun vs H Q _ => ∃ p dx T v B0 H0, vs = [.ref p, v] ∧ H = upd (upd H0 dx (.own p)) p (.ins C dx []) ∧ H0 p = none ∧ H0 dx = none ∧ dx ≠ p ∧ Ex B0 H0 ∧ Rp K B0 v (encTs T) ∧ schOk T ∧
  ∀ B' H', Stp [] B0 H0 B' H' → Ex B' H' → Rp K B' (.ref p) (schD C T) → Q .non H'
def preParse (C : Addr) : Pre := fun rs Pl cs r cs' => ∃ x T, rs = [.val (.ref C), .dat (.str x)] ∧ x.length ≤ 100000 ∧ PyData.strOk x = true ∧ readText x = some T ∧ schOk T ∧ Pl = [] ∧ cs = [] ∧ r = .dat (schD C T) ∧ cs' = []
def preStr (C : Addr) : Pre := fun rs Pl cs r cs' => ∃ T, rs = [.dat (schD C T)] ∧ tabsOk T ∧ Pl = [] ∧ cs = [] ∧ r = .dat (.str (textOf T)) ∧ cs' = []
def preSEq (C : Addr) : Pre := fun rs Pl cs r cs' => ∃ T U, rs = [.dat (schD C T), .dat (schD C U)] ∧ tabsOk T ∧ tabsOk U ∧ Pl = [] ∧ cs = [] ∧ r = .dat (.bl (decide (rowsOf T = rowsOf U))) ∧ cs' = []
def preCols (C : Addr) : Pre := fun rs Pl cs r cs' => ∃ T n cols, rs = [.dat (schD C T), .dat (.str n)] ∧ T.lookup n = some cols ∧ Pl = [] ∧ cs = [] ∧ r = .dat (.tup (cols.map encC)) ∧ cs' = []
section
variable {K : PySem.W.Frag} {P : List Addr} {ss : List Sl} {cs cs1 : List (List D)} {ta : TA}
theorem ev_makeL {i : Nat} {C : Addr} {T : List Tab} (hi : ss[i]? = some (.val (.ref C))) (ha : EvA K P ss cs ta [.dat (encTs T)] cs1) (hT : schOk T) : Ev K P ss cs (tMakeL i C (spInit K C) ta) (.dat (schD C T)) cs1 := fun B H σ o Q q => by
  obtain ⟨w, hw, ew⟩ := o.sl.get i _ hi (by intro z; cases z)
  cases (show w = V.ref C from ew)
  refine ⟨hw, ha B H σ o _ fun vs B1 H1 s1 o1 r1 => ?_⟩
  obtain ⟨v, rfl, h1⟩ := rs1 r1
  intro x dx hx hdx hne
  exact ⟨x, dx, T, v, B1, H1, rfl, rfl, hx, hdx, hne, o1.ex, h1, hT, fun B' H' s' e' r' => ⟨rfl, q (.ref x) B' H' (s1.trans s'.ofNil) (o1.step0 s' e') r'⟩⟩
theorem valD_cols {T : List Tab} {n : Str} {cols : List Col} (h : T.lookup n = some cols) : valD (T.map fun t => ((Sum.inr t.1 : Key), D.tup (t.2.map encC))) (.inr n) = some (.tup (cols.map encC)) := by
  induction T with
  | nil => cases h
  | cons t T ih =>
    obtain ⟨a, c⟩ := t
    by_cases e : n = a
    · subst e
      have : c = cols := by simpa [List.lookup] using h
      subst this
      unfold valD
      simp
    · have e' : (n == a) = false := by simpa using e
      have h2 : T.lookup n = some cols := by simpa [List.lookup, e'] using h
      have := ih h2
      unfold valD at this ⊢
      have ne : ¬ (Sum.inr a : Key) = Sum.inr n := fun z => e (Sum.inr.inj z).symm
      simpa [List.find?_cons, ne] using this
theorem RpF.none {B : Hp} {f : Str} : ∀ {vs : List (Str × V)} {ds : List (Str × D)}, RpF K B vs ds → ds.lookup f = none → vs.lookup f = none
  | _, _, .nil, _ => rfl
  | _, _, .cons (k := k) h r, e => by
    by_cases hk : f = k
    · subst hk; simp [List.lookup] at e
    · have q : (f == k) = false := by simpa using hk
      simp only [List.lookup, q] at e ⊢
      exact RpF.none r e
theorem ev_meth1 {te : TE} {C : Addr} {m : Str} {pre : Pre} {fs : List (Str × D)} {rs : List Sl} {r : Sl} {cs2 : List (List D)} (h : Ev K P ss cs te (.dat (.obj C fs)) cs1) (hl : fs.lookup m = none) (ha : EvA K P ss cs1 ta rs cs2) (hp : pre (.dat (.obj C fs) :: rs) [] [] r []) :
    Ev K P ss cs (tMeth C m (spM K pre) [] E0 te ta) r cs2 := fun B H σ o Q q =>
  h B H σ o _ fun x B1 H1 s1 o1 v1 => by
    have a' : Rp K B1 x (.obj C fs) := v1
    cases a' with
    | @obj a _ dx fvs _ h5 rf =>
      refine ⟨a, dx, fvs, rfl, o1.ex _ _ h5, RpF.none rf hl, ha B1 H1 σ o1 _ fun vs B2 H2 s2 o2 r2 => ?_⟩
      rw [List.append_nil]
      exact ⟨B2, _, [], [], r, [], hp, o2.ex, ⟨RS.mono s2.ex v1, r2⟩, True.intro, fun v B3 H3 s3 e3 _ v3 => q v B3 H3 ((s1.trans s2).trans s3.ofNil) (o2.step0 s3 e3) v3⟩
theorem wd_zipM {ds es : List D} (h : EvA K P ss cs ta [.dat (.tup ds), .dat (.lst es)] cs1) : WD K P ss cs (ZM.iZipM K ta) (zipD ds es) cs1 := fun B H σ o R q =>
  h B H σ o _ fun vs B1 H1 s1 o1 r1 => by
    obtain ⟨v, v', rfl, h1, h2⟩ := rs2 r1
    have a' : Rp K B1 v (.tup ds) := h1
    have b' : Rp K B1 v' (.lst es) := h2
    cases a' with
    | @tup a xs _ h5 r => cases b' with
      | @lst b ys _ h6 r' =>
        refine ⟨_, _, xs, ys, rfl, .inl (RdEx o1.ex h5), .inl (.inl (o1.ex _ _ h6)), q _ B1 H1 s1 o1 fun i B2 H2 e1 e2 => ?_⟩
        have z : SqT K H2 a xs := .inl (RdEx e2 (RdEx e1 h5))
        have z' : SqL K H2 b ys := .inl (.inl (e2 _ _ (e1 _ _ h6)))
        refine ⟨fun d hd => ?_, fun hl => ⟨xs, ys, z, z', rfl, rfl, ?_⟩⟩
        · obtain ⟨e, e', he, he', rfl⟩ := zipD_get hd
          obtain ⟨v, h1, h2⟩ := r.get he
          obtain ⟨v', h1', h2'⟩ := r'.get he'
          refine ⟨⟨xs, ys, v, v', z, z', h1, h1', rfl, rfl⟩, fun x H' y => ?_⟩
          obtain ⟨T, x', y', rfl, hT, rfl, f, f'⟩ := y
          have q1 := f xs z
          have q2 := f' ys z'
          rw [h1] at q1; rw [h1'] at q2
          cases q1; cases q2
          have s := stp_new (o := .tup [v, v']) e2 hT
          exact ⟨_, s, e2.updB, .tup (.inl upd_same) (.cons (h2.mono (e1.trans s.ex)) (.cons (h2'.mono (e1.trans s.ex)) .nil))⟩
        · rw [r.length, r'.length]
          have : (zipD ds es).length = min ds.length es.length := by simp [zipD]
          rw [this] at hl
          omega
theorem cb_isTT {ds : List D} : CbD K (rIsi K) [.dat (.tup ds), .val (.ty "tuple")] (.dat (.bl true)) := fun B H vs e h Q q => by
  obtain ⟨v, v', rfl, h1, h2⟩ := rs2 h
  have a' : Rp K B v (.tup ds) := h1
  cases a' with
  | @tup a xs _ h5 r => exact ⟨_, v', .type "tuple", .type "tuple", true, rfl, by rw [show v' = V.ty "tuple" from h2]; exact .ty _, (RdEx e h5).elim (fun h => .base (.tup h)) (fun ⟨_, h⟩ => .fTuple h), kit_ty (by decide +kernel), q _ B H (Stp.refl _ _ _) e (.bl _)⟩
theorem cb_isI {i : Int} {n : String} {b : Bool} (hk : kitB "int" n = some b) : CbD K (rIsi K) [.dat (.int i), .val (.ty n)] (.dat (.bl b)) := fun B H vs e h Q q => by
  obtain ⟨v, v', rfl, h1, h2⟩ := rs2 h
  have a' : Rp K B v (.int i) := h1
  cases a'
  exact ⟨_, v', .type "int", .type n, b, rfl, by rw [show v' = V.ty n from h2]; exact .ty _, .base (.int _), kit_ty hk, q _ B H (Stp.refl _ _ _) e (.bl _)⟩
/-- what an instance of the class is told to be -/
structure SchCls (K : PySem.W.Frag) (C : Addr) : Prop where
  cl : Cls K C
  n1 : NoAttr K C "tables"
  n2 : NoAttr K C "_columns"
  n3 : NoAttr K C "_rows"
  ha : PySem.W.findIn K (.ref C) "__class__" = some (some (.builtin "object.__class__"))
  hn : PySem.W.specialIn K (.builtin "object.__class__") "__get__" = some (some (.builtin "getset_descriptor.__get__"))
  htk : PySem.W.takesIn K (.builtin "object.__class__") = some true
  hm : PySem.W.mroIn K C (.type "object") = some true
  hk : PySem.W.kitOne K (.ref C) (.ref C) = some true
theorem cb_isC {C : Addr} {fs : List (Str × D)} (c : SchCls K C) : CbD K (rIsi K) [.dat (.obj C fs), .val (.ref C)] (.dat (.bl true)) := fun B H vs e h Q q => by
  obtain ⟨v, v', rfl, h1, h2⟩ := rs2 h
  have a' : Rp K B v (.obj C fs) := h1
  cases a' with
  | @obj a _ dx fvs _ h5 rf => exact ⟨_, v', .ref C, .ref C, true, rfl, by rw [show v' = V.ref C from h2]; exact .own _, .base (.ins (e _ _ h5) c.cl c.ha c.hn c.htk c.hm), c.hk, q _ B H (Stp.refl _ _ _) e (.bl _)⟩
def preWithin : Pre := fun rs Pl cs r cs' => ∃ v lo hi : Int, rs = [.dat (.int v), .dat (.int lo), .dat (.int hi)] ∧ Pl = [] ∧ cs = [] ∧ r = .dat (.bl (decide (lo ≤ v) && decide (v ≤ hi))) ∧ cs' = []
def lowsOf (cols : List Col) : List Int := 0 :: cols.map fun c => if c.2.isNone then -1000000 else 0
def rowB (cols : List Col) (ns : List Int) : Bool := decide (ns.length = 1 + cols.length) && ((List.zip ns (lowsOf cols)).all fun p => decide (p.2 ≤ p.1) && decide (p.1 ≤ 1000000))
def preIsRow (C : Addr) : Pre := fun rs Pl cs r cs' => ∃ T n cols, ∃ ns : List Int, rs = [.dat (schD C T), .dat (.str n), .dat (.tup (ns.map D.int))] ∧ T.lookup n = some cols ∧ cols.length ≤ 1000 ∧ ns.length ≤ 1000 ∧ Pl = [] ∧ cs = [] ∧ r = .dat (.bl (rowB cols ns)) ∧ cs' = []
/-! rows of texts that are ok -/
theorem ok_join {y : Str} (hy : PyData.strOk y = true) : ∀ {ls : List Str}, ls ≠ [] → (∀ l ∈ ls, PyData.strOk l = true) → PyData.strOk (Txt.join y ls) = true := by
  intro ls
  induction ls with
  | nil => intro z; exact absurd rfl z
  | cons a r ih =>
    intro _ h
    cases r with
    | nil => rw [join_one]; exact h a (by simp)
    | cons b r =>
      rw [join_cons]
      have h1 := h a (by simp)
      have h2 := ih (by simp) fun l hl => h l (List.mem_cons_of_mem _ hl)
      unfold PyData.strOk at *
      rw [all_list] at *
      rw [app_list, app_list, List.all_append, List.all_append, hy, h1, h2]
      rfl
theorem row_ok {T : List Tab} (h : tabsOk T) {r : Str} (hr : r ∈ rowsOf T) : PyData.strOk r = true ∧ r.length ≤ 30 := by
  obtain ⟨ws, hw, rfl⟩ := List.mem_map.mp hr
  obtain ⟨t, ht, hw⟩ := List.mem_flatMap.mp hw
  obtain ⟨h1, _, h2⟩ := h.2 t ht
  have lits : PyData.strOk "table" = true ∧ PyData.strOk "" = true ∧ PyData.strOk "plain" = true ∧ PyData.strOk "ref" = true ∧ PyData.strOk sp = true := ⟨by decide +kernel, by decide +kernel, by decide +kernel, by decide +kernel, by decide +kernel⟩
  obtain ⟨a1, a2, a3, a4, a5⟩ := lits
  rcases List.mem_cons.mp hw with rfl | hw
  · refine ⟨ok_join a5 (by simp) fun l hl => ?_, row_len_tab h1.2.2.1⟩
    rcases List.mem_cons.mp hl with rfl | hl
    · exact a1
    · rw [List.mem_singleton.mp hl]; exact h1.2.2.2
  · obtain ⟨c, hc, rfl⟩ := List.mem_map.mp hw
    have hco := h2 c hc
    refine ⟨ok_join a5 (by obtain ⟨n, t⟩ := c; cases t <;> simp [colWords]) fun l hl => ?_, row_len_col hco⟩
    obtain ⟨n, t⟩ := c
    cases t with
    | none =>
      have : l = "" ∨ l = "" ∨ l = "plain" ∨ l = n := by simpa [colWords] using hl
      rcases this with rfl | rfl | rfl | rfl
      · exact a2
      · exact a2
      · exact a3
      · exact hco.1.2.2.2
    | some t =>
      have : l = "" ∨ l = "" ∨ l = "ref" ∨ l = n ∨ l = t := by simpa [colWords] using hl
      rcases this with rfl | rfl | rfl | rfl | rfl
      · exact a2
      · exact a2
      · exact a4
      · exact hco.1.2.2.2
      · exact (hco.2 _ rfl).2.2.2
theorem sum_le {ls : List Str} {k : Nat} (h : ∀ l ∈ ls, l.length ≤ k) : (ls.map (·.length)).sum ≤ k * ls.length := by
  induction ls with
  | nil => simp
  | cons a r ih =>
    have h1 := h a (by simp)
    have h2 := ih fun l hl => h l (List.mem_cons_of_mem _ hl)
    simp only [List.map_cons, List.sum_cons, List.length_cons]
    rw [Nat.mul_add]
    omega
end
end SP
namespace T3
open PySem L2 DV PM SP
abbrev s_Schema_init_ : Stmt := inClass (topS 10) 0
abbrev N_Schema_init_ : List Str := ["self", "tables", "name", "columns"]
theorem sc_Schema_init_ : FnScope N_Schema_init_ ["self", "tables"] (defScope s_Schema_init_) := ⟨rfl, rfl, rfl, by decide +kernel, rfl, by decide +kernel, by decide +kernel⟩

abbrev s_Schema_parse : Stmt := inClass (topS 10) 1
abbrev N_Schema_parse : List Str := ["cls", "text"]
theorem sc_Schema_parse : FnScope N_Schema_parse ["cls", "text"] (defScope s_Schema_parse) := ⟨rfl, rfl, rfl, by decide +kernel, rfl, by decide +kernel, by decide +kernel⟩

abbrev s_Schema_str_ : Stmt := inClass (topS 10) 2
abbrev N_Schema_str_ : List Str := ["self"]
theorem sc_Schema_str_ : FnScope N_Schema_str_ ["self"] (defScope s_Schema_str_) := ⟨rfl, rfl, rfl, by decide +kernel, rfl, by decide +kernel, by decide +kernel⟩

abbrev s_Schema_eq_ : Stmt := inClass (topS 10) 3
abbrev N_Schema_eq_ : List Str := ["self", "other"]
theorem sc_Schema_eq_ : FnScope N_Schema_eq_ ["self", "other"] (defScope s_Schema_eq_) := ⟨rfl, rfl, rfl, by decide +kernel, rfl, by decide +kernel, by decide +kernel⟩

abbrev s_Schema_columns : Stmt := inClass (topS 10) 4
abbrev N_Schema_columns : List Str := ["self", "table"]
theorem sc_Schema_columns : FnScope N_Schema_columns ["self", "table"] (defScope s_Schema_columns) := ⟨rfl, rfl, rfl, by decide +kernel, rfl, by decide +kernel, by decide +kernel⟩

abbrev s_is_within : Stmt := topS 12
abbrev N_is_within : List Str := ["value", "low", "high"]
theorem sc_is_within : FnScope N_is_within ["value", "low", "high"] (defScope s_is_within) := ⟨rfl, rfl, rfl, by decide +kernel, rfl, by decide +kernel, by decide +kernel⟩

abbrev s_is_row : Stmt := topS 11
abbrev N_is_row : List Str := ["schema", "table", "value", "columns", "lows", "name", "target", "part", "low"]
theorem sc_is_row : FnScope N_is_row ["schema", "table", "value"] (defScope s_is_row) := ⟨rfl, rfl, rfl, by decide +kernel, rfl, by decide +kernel, by decide +kernel⟩

section
variable {P : Program} {w : World} {K : PySem.W.Frag} {mg : Str → Option Value} {base : Heap} {C : Addr}
theorem ok_init {f fR : Addr} {fd fdR : FuncData} (F : Fun K "__init__" "Schema.__init__" s_Schema_init_ f fd) (G_text_rows : Def P w K mg base 2 "text_rows" fR fdR ["tables"] (spM K preRows)) (cl : Cls K C) (n1 : NoAttr K C "tables") (n2 : NoAttr K C "_columns") (n3 : NoAttr K C "_rows") (b_tuple : mg "tuple" = none) :
    FnOk P w K mg base CX0 3 f fd ["self", "tables"] (spInit K C) := by
  refine F.ok sc_Schema_init_ (fun vs H Q E h => ?_) (fun cdv A outer s H vs Q E hr h => ?_)
  · obtain ⟨p, dx, T, v, B0, H0, rfl, _⟩ := h
    rfl
  have nd := sc_Schema_init_.nd
  refine ⟨_, (pss_cons (ps_fld (pv 0) (pe_callTy call_tupleF (by rfl) b_tuple (by decide +kernel) (pa_cons (pe_lc (own := [("name", 2), ("columns", 3)]) (g := (gTup K 2 (gCons (gName 2) (gCons (gName 3) gNil)))) (tt := tYes) (te := (tVar 2)) rfl nd (pi_list (pv 1)) (blkOk_by (N := N_Schema_init_) (sc := defScope s_Schema_init_) (by decide +kernel)) (by intro _ _ _ _ _; exact (pg_tup (by rfl) (by exact (pgs_cons (by exact (pg_name (i := 2) nd (by rfl) (by first | exact .inl rfl | exact .inr rfl))) (by exact (pgs_cons (by exact (pg_name (i := 3) nd (by rfl) (by first | exact .inl rfl | exact .inr rfl))) (by exact pgs_nil))))))) (by intro _ _ _ _ _; exact pts_nil) (by intro _ _ _ _ _; exact (pv 2))) pa_nil)) rfl)
      (pss_cons (ps_fld (pv 0) (pe_dc (own := [("name", 2), ("columns", 3)]) (g := (gTup K 2 (gCons (gName 2) (gCons (gName 3) gNil)))) (tt := tYes) (tk := (tVar 2)) (tv := (tCB (rTuple1 K) (tCons (tVar 3) tNil))) rfl nd (pi_list (pv 1)) (blkOk_by (N := N_Schema_init_) (sc := defScope s_Schema_init_) (by decide +kernel)) (by intro _ _ _ _ _; exact (pg_tup (by rfl) (by exact (pgs_cons (by exact (pg_name (i := 2) nd (by rfl) (by first | exact .inl rfl | exact .inr rfl))) (by exact (pgs_cons (by exact (pg_name (i := 3) nd (by rfl) (by first | exact .inl rfl | exact .inr rfl))) (by exact pgs_nil))))))) (by intro _ _ _ _ _; exact pts_nil) (by intro _ _ _ _ _; exact (pv 2)) (by intro _ _ _ _ _; exact (pe_callTy call_tuple1 (by rfl) b_tuple (by decide +kernel) (pa_cons (pv 3) pa_nil)))) rfl)
      (pss_one (ps_fld (pv 0) (pe_def G_text_rows hr (by decide) (by rfl) (pa_cons (pv 1) pa_nil)) rfl)))), ?_⟩
  obtain ⟨p, dx, T, v, B0, H0, rfl, rfl, hp0, hd0, hne, e0, r0, hT, q⟩ := h
  have bp0 : B0 p = none := e0.free hp0
  have bd0 : B0 dx = none := e0.free hd0
  have s0 : Stp [] B0 H0 B0 (upd (upd H0 dx (.own p)) p (.ins C dx [])) := stp_upd (stp_upd (Stp.refl _ _ _) hd0) hp0
  have e1 : Ex B0 (upd (upd H0 dx (.own p)) p (.ins C dx [])) := ex_upd (ex_upd e0 bd0) bp0
  have hp : upd (upd H0 dx (.own p)) p (.ins C dx []) p = some (.ins C dx []) := upd_same
  generalize upd (upd H0 dx (.own p)) p (.ins C dx []) = H1 at s0 e1 hp ⊢
  obtain ⟨B, s1, o1⟩ := sta_start (vs := [.ref p, v]) (N := N_Schema_init_) (K := K) (P := []) (cs := []) (rs := [.val (.ref p), .dat (encTs T)]) e1 ⟨rfl, r0, True.intro⟩ True.intro
  have s01 := s0.trans s1
  have b1 : B p = none := by rw [s1.nb _ _ hp]; exact bp0
  refine st_seq (st_fldNew (K := K) (i := 0) (d := .nt (T.map fun t => .str t.1)) s01 o1 hp0 b1 rfl hp cl n1 (by decide) (ev_cb (ea_cons (EvF.ev (ef_mapE (l := T) (enc := encT) (wd_lst (ev_var (i := 1) rfl)) (fun t => .str t.1) (by have := hT.1.1; omega) (fun p i t acc hd' =>
    ⟨_, _, g_tup (g_cons g_name (g_cons g_name g_nil)), by decide, ev_var rfl⟩))) ea_nil) cb_tupleF) fun v1 B2 H2 s2 o2 e2 b2 hp2 r2 => ?_)
  dsimp only []
  refine st_seq (st_fldNew (K := K) (i := 0) (d := .dic (T.map fun t => ((Sum.inr t.1 : Key), .tup (t.2.map encC)))) s2 o2 hp0 b2 rfl hp2 cl n2 (by simp [putF]) (ev_dcE (l := T) (enc := encT) (wd_lst (ev_var (i := 1) rfl)) (fun t => t.1) (fun t => .tup (t.2.map encC)) (by have := hT.1.1; omega) hT.2 (fun i t hd' =>
    ⟨_, _, g_tup (g_cons g_name (g_cons g_name g_nil)), by decide, ev_var rfl, ev_cb (ea_cons (ev_var rfl) ea_nil) cb_tupleL⟩)) fun v2 B3 H3 s3 o3 e3 b3 hp3 r3 => ?_)
  refine st_fldNew (K := K) (i := 0) (d := .lst ((rowsOf T).map D.str)) s3 o3 hp0 b3 rfl hp3 cl n3 (by simp only [putF]; split <;> simp) (ev_call0 (ea_cons (ev_var (i := 1) rfl) ea_nil) ⟨T, rfl, hT.1, rfl, rfl, rfl, rfl⟩) fun v3 B4 H4 s4 o4 e4 b4 hp4 r4 => ?_
  refine q (upd B4 p (.ins C dx (putF "_rows" v3 (putF "_columns" v2 (putF "tables" v1 []))))) H4 ⟨s4.ex.trans (Ex.new b4), s4.fr, fun b u e => ?_, s4.dm⟩ (fun b u e => ?_) (Rp.obj upd_same ?_)
  · rw [upd_ne (ne_of_none e hp0)]; exact s4.nb b u e
  · by_cases hb : b = p
    · subst hb; rw [upd_same] at e; cases e; exact hp4
    · rw [upd_ne hb] at e; exact o4.ex b u e
  · have eB : Ex B4 (upd B4 p (.ins C dx (putF "_rows" v3 (putF "_columns" v2 (putF "tables" v1 []))))) := Ex.new b4
    have hf : putF "_rows" v3 (putF "_columns" v2 (putF "tables" v1 [])) = ([("tables", v1), ("_columns", v2), ("_rows", v3)] : List (Str × V)) := by
      have a1 : ¬ ("tables" : Str) = "_columns" := by decide +kernel
      have a2 : ¬ ("tables" : Str) = "_rows" := by decide +kernel
      have a3 : ¬ ("_columns" : Str) = "_rows" := by decide +kernel
      simp only [putF, if_neg a1, if_neg a2, if_neg a3]
    rw [hf] at eB ⊢
    exact .cons (r2.mono ((e3.trans e4).trans eB)) (.cons (r3.mono (e4.trans eB)) (.cons (r4.mono eB) .nil))
theorem ok_parse {f fR fI : Addr} {fd fdR fdI : FuncData} (F : Fun K "parse" "Schema.parse" s_Schema_parse f fd) (G_read_tables : Def P w K mg base 4 "read_tables" fR fdR ["text"] (spM K preRead)) (M_made : Mk K C fI) (G_init : FnOk P w K mg base CX0 3 fI fdI ["self", "tables"] (spInit K C)) (B_init : Binds K fdI ["self", "tables"] []) :
    FnOk P w K mg base CX0 5 f fd ["cls", "text"] (spM K (preParse C)) := by
  refine ok_body F sc_Schema_parse (fun rs Pl cs r cs' h => ?_) (fun X hX hr => ?_)
  · obtain ⟨x, T, rfl, _⟩ := h
    rfl
  obtain ⟨cdv, A, outer, s, H, E, rfl⟩ := hX
  have nd := sc_Schema_parse.nd
  refine ⟨_, (pss_one (ps_ret (pe_makeL (i := 0) M_made G_init B_init hr (by rfl) (.inl rfl) (pa_cons (pe_def G_read_tables hr (by decide) (by rfl) (pa_cons (pv 1) pa_nil)) pa_nil)))), ?_⟩
  intro rs Pl cs r cs' hp B0 H0 σ Dn st hP hd hn
  obtain ⟨x, T, rfl, hl, hs, hT, hk, rfl, rfl, rfl, rfl⟩ := hp
  exact st_ret st (ev_makeL (i := 0) rfl (ea_cons (ev_call0 (ea_cons (ev_var rfl) ea_nil) ⟨x, T, rfl, hl, hs, hT, rfl, rfl, rfl, rfl⟩) ea_nil) hk) hd
theorem un_negD {i : Int} : UnD K (rU fun i => .int (-i)) (.dat (.int i)) (.dat (.int (-i))) := fun B H x e h Q q => by
  have a' : Rp K B x (.int i) := h
  cases a'
  exact ⟨i, rfl, q _ B H (Stp.refl _ _ _) e (.int _)⟩
theorem text_small {T : List Tab} (hT : tabsOk T) : ((rowsOf T).map (·.length)).sum + (rowsOf T).length * ("\n" : Str).length ≤ 1000000 := by
  have h1 := sum_le (ls := rowsOf T) (k := 30) (fun l hl => (row_ok hT hl).2)
  have h2 := rows_len hT T.length
  rw [List.take_length] at h2
  have h3 := hT.1
  have h4 : ("\n" : Str).length = 1 := by decide +kernel
  rw [h4]
  omega
theorem ok_str {f : Addr} {fd : FuncData} (F : Fun K "__str__" "Schema.__str__" s_Schema_str_ f fd) (cl : Cls K C) (n3 : NoAttr K C "_rows") : FnOk P w K mg base CX0 1 f fd ["self"] (spM K (preStr C)) := by
  refine ok_body F sc_Schema_str_ (fun rs Pl cs r cs' h => ?_) (fun X hX hr => ?_)
  · obtain ⟨T, rfl, _⟩ := h
    rfl
  obtain ⟨cdv, A, outer, s, H, E, rfl⟩ := hX
  have nd := sc_Schema_str_.nd
  refine ⟨_, (pss_one (ps_ret (pe_join pe_str (pe_fld (pv 0) rfl)))), ?_⟩
  intro rs Pl cs r cs' hp B0 H0 σ Dn st hP hd hn
  obtain ⟨T, rfl, hT, rfl, rfl, rfl, rfl⟩ := hp
  exact st_ret st (ev_join ev_str (ev_fld (ev_var rfl) cl n3 rfl) (text_small hT)) hd
theorem ok_columns {f : Addr} {fd : FuncData} (F : Fun K "columns" "Schema.columns" s_Schema_columns f fd) (cl : Cls K C) (n2 : NoAttr K C "_columns") : FnOk P w K mg base CX0 1 f fd ["self", "table"] (spM K (preCols C)) := by
  refine ok_body F sc_Schema_columns (fun rs Pl cs r cs' h => ?_) (fun X hX hr => ?_)
  · obtain ⟨T, n, cols, rfl, _⟩ := h
    rfl
  obtain ⟨cdv, A, outer, s, H, E, rfl⟩ := hX
  have nd := sc_Schema_columns.nd
  refine ⟨_, (pss_one (ps_ret (pe_dget (hu_of hr) (pe_fld (pv 0) rfl) (pv 1) (fun _ _ => rfl)))), ?_⟩
  intro rs Pl cs r cs' hp B0 H0 σ Dn st hP hd hn
  obtain ⟨T, n, cols, rfl, hT, rfl, rfl, rfl, rfl⟩ := hp
  exact st_ret st (ev_dgetS (ev_fld (ev_var rfl) cl n2 rfl) (ev_var rfl) (valD_cols hT)) hd
theorem ok_eq {f : Addr} {fd : FuncData} (F : Fun K "__eq__" "Schema.__eq__" s_Schema_eq_ f fd) (sc : SchCls K C) (g_Schema : mg "Schema" = some (.ref C)) (b_isinstance : mg "isinstance" = none) : FnOk P w K mg base CX0 1 f fd ["self", "other"] (spM K (preSEq C)) := by
  refine ok_body F sc_Schema_eq_ (fun rs Pl cs r cs' h => ?_) (fun X hX hr => ?_)
  · obtain ⟨T, U, rfl, _⟩ := h
    rfl
  obtain ⟨cdv, A, outer, s, H, E, rfl⟩ := hX
  have nd := sc_Schema_eq_.nd
  refine ⟨_, (pss_one (ps_ret (pe_and (pe_callB call_isi (by rfl) b_isinstance (by decide +kernel) (pa_cons (pv 1) (pa_cons (pe_glob (v := .ref C) rfl g_Schema rfl) pa_nil))) (pe_one (pe_cmpR (op_eqA hr.units) (pe_fld (pv 0) rfl) (pe_fld (pv 1) rfl) (nomark _)))))), ?_⟩
  intro rs Pl cs r cs' hp B0 H0 σ Dn st hP hd hn
  obtain ⟨T, U, rfl, hT, hU, rfl, rfl, rfl, rfl⟩ := hp
  have e : (true && decide (rowsOf T = rowsOf U)) = decide (rowsOf T = rowsOf U) := Bool.true_and _
  rw [← e] at hd
  refine st_ret st (ev_andV (ev_cb (ea_cons (ev_var rfl) (ea_cons ev_val ea_nil)) (cb_isC sc)) (fun _ => ev_op (ev_fld (ev_var rfl) sc.cl sc.n3 rfl) (ev_fld (ev_var rfl) sc.cl sc.n3 rfl) (od_r (od_eq 1 1 (sh_strs fun w hw => (row_ok hT hw).1) (sh_strs fun w hw => (row_ok hU hw).1) (nb_strs _) (nb_strs _) ?_)))) hd
  exact decide_eq_true_iff.trans strs_inj.symm
theorem ok_within {f : Addr} {fd : FuncData} (F : Fun K "is_within" "is_within" s_is_within f fd) (b_isinstance : mg "isinstance" = none) (b_int : mg "int" = none) (b_bool : mg "bool" = none) : FnOk P w K mg base CX0 1 f fd ["value", "low", "high"] (spM K preWithin) := by
  refine ok_body F sc_is_within (fun rs Pl cs r cs' h => ?_) (fun X hX hr => ?_)
  · obtain ⟨v, lo, hi, rfl, _⟩ := h
    rfl
  obtain ⟨cdv, A, outer, s, H, E, rfl⟩ := hX
  have nd := sc_is_within.nd
  refine ⟨_, (pss_one (ps_ret (pe_and (pe_callB call_isi (by rfl) b_isinstance (by decide +kernel) (pa_cons (pv 0) (pa_cons (pe_bltn (v := .ty "int") (by rfl) b_int (by decide +kernel) rfl) pa_nil))) (pe_and (pe_not (pe_callB call_isi (by rfl) b_isinstance (by decide +kernel) (pa_cons (pv 0) (pa_cons (pe_bltn (v := .ty "bool") (by rfl) b_bool (by decide +kernel) rfl) pa_nil)))) (pe_one (pe_chain op_le op_le (pv 1) (pv 0) (pv 2))))))), ?_⟩
  intro rs Pl cs r cs' hp B0 H0 σ Dn st hP hd hn
  obtain ⟨v, lo, hi, rfl, rfl, rfl, rfl, rfl⟩ := hp
  have e : (true && ((!false) && (decide (lo ≤ v) && decide (v ≤ hi)))) = (decide (lo ≤ v) && decide (v ≤ hi)) := by simp
  rw [← e] at hd
  exact st_ret st (ev_andV (ev_cb (ea_cons (ev_var rfl) (ea_cons ev_val ea_nil)) (cb_isI (by decide +kernel))) (fun _ => ev_andV (ev_notV (ev_cb (ea_cons (ev_var rfl) (ea_cons ev_val ea_nil)) (cb_isI (by decide +kernel)))) (fun _ => ev_chain (cs3 := []) (ev_var rfl) (ev_var rfl) (fun _ => ev_var rfl)))) hd
theorem ok_is_row {f fW fC : Addr} {fd fdW fdC : FuncData} (F : Fun K "is_row" "is_row" s_is_row f fd) (G_is_within : Def P w K mg base 1 "is_within" fW fdW ["value", "low", "high"] (spM K preWithin)) (cls_S : Cls K C) (M_columns : Meth K C "columns" fC) (G_columns : FnOk P w K mg base CX0 1 fC fdC ["self", "table"] (spM K (preCols C))) (B_columns : Binds K fdC ["self", "table"] [])
    (b_isinstance : mg "isinstance" = none) (b_tuple : mg "tuple" = none) (b_len : mg "len" = none) (b_all : mg "all" = none) (b_zip : mg "zip" = none) (g_LARGEST : ∃ t, mg "LARGEST" = some (.int 1000000 t)) :
    FnOk P w K mg base CX0 2 f fd ["schema", "table", "value"] (spM K (preIsRow C)) := by
  obtain ⟨tk, g_LARGEST⟩ := g_LARGEST
  refine ok_body F sc_is_row (fun rs Pl cs r cs' h => ?_) (fun X hX hr => ?_)
  · obtain ⟨T, n, cols, ns, rfl, _⟩ := h
    rfl
  obtain ⟨cdv, A, outer, s, H, E, rfl⟩ := hX
  have nd := sc_is_row.nd
  refine ⟨_, (pss_cons (ps_set (i := 3) nd rfl (.inl rfl) (pe_meth (pv 0) cls_S M_columns G_columns (hr.mono (by decide)) B_columns .nil pass0 (pa_cons (pv 1) pa_nil)))
      (pss_cons (ps_if (PW.pt (pw_or (pt_not (pt_val (pe_callB call_isi (by rfl) b_isinstance (by decide +kernel) (pa_cons (pv 2) (pa_cons (pe_bltn (v := .ty "tuple") (by rfl) b_tuple (by decide +kernel) rfl) pa_nil))))) (pw_or1 (pt_cmpR (op_neA hr.units) (pe_callB call_len1 (by rfl) b_len PySem.boot_len (pa_cons (pv 2) pa_nil)) (pe_op op_addA pe_int (pe_callB call_len1 (by rfl) b_len PySem.boot_len (pa_cons (pv 3) pa_nil))) (nomark _))))) (pss_one (ps_ret pe_bl)) pss_nil)
      (pss_cons (ps_set (i := 4) nd rfl (.inl rfl) (pe_op op_addA (pe_lst (pa_cons pe_int pa_nil)) (pe_lc (own := [("name", 5), ("target", 6)]) (g := (gTup K 2 (gCons (gName 5) (gCons (gName 6) gNil)))) (tt := tYes) (te := (tIf (tTest (tOp rIsN (tVar 6) (tC .non))) (tUn (rU fun i => .int (-i)) (tC (.int 1000000))) (tC (.int 0)))) rfl nd (pi_tup (pv 3)) (blkOk_by (N := N_is_row) (sc := defScope s_is_row) (by decide +kernel)) (by intro _ _ _ _ _; exact (pg_tup (by rfl) (by exact (pgs_cons (by exact (pg_name (i := 5) nd (by rfl) (by first | exact .inl rfl | exact .inr rfl))) (by exact (pgs_cons (by exact (pg_name (i := 6) nd (by rfl) (by first | exact .inl rfl | exact .inr rfl))) (by exact pgs_nil))))))) (by intro _ _ _ _ _; exact pts_nil) (by intro _ _ _ _ _; exact (pe_ifExp (pt_cmpR op_isN' (pv 6) pe_non (nomark _)) (pe_un un_neg (pe_glob (v := .int 1000000) rfl g_LARGEST ⟨_, rfl⟩)) pe_int)))))
      (pss_one (ps_ret (pe_callB (cr_all rfl) (by rfl) b_all (by decide +kernel) (pa_cons (pe_lc (own := [("part", 7), ("low", 8)]) (g := (gTup K 2 (gCons (gName 7) (gCons (gName 8) gNil)))) (tt := tYes) (te := (tCall _ [] E0 (tCons (tVar 7) (tCons (tVar 8) (tCons (tC (.int 1000000)) tNil))))) rfl nd (ZM.pi_zipM (by rfl) b_zip (pa_cons (pv 2) (pa_cons (pv 4) pa_nil))) (blkOk_by (N := N_is_row) (sc := defScope s_is_row) (by decide +kernel)) (by intro _ _ _ _ _; exact (pg_tup (by rfl) (by exact (pgs_cons (by exact (pg_name (i := 7) nd (by rfl) (by first | exact .inl rfl | exact .inr rfl))) (by exact (pgs_cons (by exact (pg_name (i := 8) nd (by rfl) (by first | exact .inl rfl | exact .inr rfl))) (by exact pgs_nil))))))) (by intro _ _ _ _ _; exact pts_nil) (by intro _ _ _ _ _; exact (pe_def G_is_within hr (by decide) (by rfl) (pa_cons (pv 7) (pa_cons (pv 8) (pa_cons (pe_glob (v := .int 1000000) rfl g_LARGEST ⟨_, rfl⟩) pa_nil)))))) pa_nil))))))), ?_⟩
  intro rs Pl cs r cs' hp B0 H0 σ Dn st hP hd hn
  obtain ⟨T, n, cols, ns, rfl, hT, hc, hl, rfl, rfl, rfl, rfl⟩ := hp
  refine st_seq (st_asg (i := 3) (r := .dat (.tup (cols.map encC))) st (ev_meth1 (ev_var rfl) rfl (ea_cons (ev_var rfl) ea_nil) ⟨T, n, cols, rfl, hT, rfl, rfl, rfl, rfl⟩) (fun σ1 H1 st1 => ?_))
  dsimp only []
  have hz : List.length (List.map D.int ns) = ns.length := List.length_map _
  refine st_seq (st_if (cs1 := []) (b := (!true || !decide (((ns.map D.int).length : Int) = 1 + ((cols.map encC).length : Int)))) st1 (et_or (et_not (et_B (ev_cb (ea_cons (ev_var rfl) (ea_cons ev_val ea_nil)) cb_isTT))) (fun _ => et_test (ev_op (ev_cb (ea_cons (ev_var rfl) ea_nil) cb_lenT) (ev_op ev_int (ev_cb (ea_cons (ev_var rfl) ea_nil) cb_lenT) od_addI) od_neI))) (fun hb H2 st2 => ?_) (fun hb H2 st2 => ?_))
  · have e : rowB cols ns = false := by
      have h1 : ¬ ns.length = 1 + cols.length := by
        intro z
        rw [List.length_map, List.length_map, z] at hb
        simp at hb
      unfold rowB
      rw [decide_eq_false h1, Bool.false_and]
    rw [e] at hd
    exact st_ret st2 ev_bl hd
  · have h1 : ns.length = 1 + cols.length := by
      rw [List.length_map, List.length_map] at hb
      simp at hb
      omega
    have e : rowB cols ns = (((List.zip ns (lowsOf cols)).map fun p => decide (p.2 ≤ p.1) && decide (p.1 ≤ 1000000)).all id) := by
      unfold rowB
      rw [decide_eq_true h1, Bool.true_and, List.all_map]
      rfl
    rw [e] at hd
    refine st_ns ?_
    refine st_seq (st_asg (cs1 := []) (i := 4) (r := .dat (.lst ((lowsOf cols).map D.int))) st2 ?_ (fun σ3 H3 st3 => ?_))
    · have e2 : (lowsOf cols).map D.int = [D.int 0] ++ cols.map (fun c => D.int (if c.2.isNone then -1000000 else 0)) := by
        unfold lowsOf
        rw [List.map_cons, List.map_map]
        rfl
      rw [e2]
      refine ev_op (ev_lst (ds := [_]) (ea_cons ev_int ea_nil) (by simp)) (EvF.ev (ef_mapE (l := cols) (enc := encC) (wd_tup (ev_var rfl)) (fun c => D.int (if c.2.isNone then -1000000 else 0)) (by omega) (fun p i c acc hd' => ?_))) (od_addL (by simp; omega))
      obtain ⟨n', t⟩ := c
      cases t with
      | none => exact ⟨_, _, g_tup (g_cons g_name (g_cons g_name g_nil)), by decide, ev_if (b := true) (et_test (ev_op (ev_var rfl) ev_non od_isN)) (fun _ => ev_un (r1 := .dat (.int 1000000)) ev_int un_negD) (fun z => by cases z)⟩
      | some t => exact ⟨_, _, g_tup (g_cons g_name (g_cons g_name g_nil)), by decide, ev_if (b := false) (et_test (ev_op (ev_var rfl) ev_non od_isN)) (fun z => by cases z) (fun _ => ev_int)⟩
    · have e3 : zipD (ns.map D.int) ((lowsOf cols).map D.int) = (List.zip ns (lowsOf cols)).map fun p => D.tup [.int p.1, .int p.2] := by
        unfold zipD
        rw [List.zipWith_map, List.zip, List.map_zipWith]
      dsimp only []
      refine st_ret st3 (ev_cb (ea_cons (EvF.ev (?_ : EvF _ _ _ _ _ (((List.zip ns (lowsOf cols)).map fun p => decide (p.2 ≤ p.1) && decide (p.1 ≤ 1000000)).map D.bl) _)) ea_nil) cb_all) hd
      rw [List.map_map]
      refine ef_mapE (l := List.zip ns (lowsOf cols)) (enc := fun p => D.tup [.int p.1, .int p.2]) (e3 ▸ wd_zipM (ea_cons (ev_var rfl) (ea_cons (ev_var rfl) ea_nil))) _ (by rw [List.length_zip]; omega) (fun p i x acc hd' => ?_)
      exact ⟨_, _, g_tup (g_cons g_name (g_cons g_name g_nil)), by decide, ev_call0 (ea_cons (ev_var rfl) (ea_cons (ev_var rfl) (ea_cons ev_int ea_nil))) ⟨_, _, _, rfl, rfl, rfl, rfl, rfl⟩⟩
end
end T3
namespace SP
open PySem L2 DV PM
def preLText : Pre := fun rs Pl cs r cs' => ∃ T, rs = [.dat (encTs T)] ∧ tabsOk T ∧ Pl = [] ∧ cs = [] ∧ r = .dat (.str (textOf T)) ∧ cs' = []
end SP
namespace T3
open PySem L2 DV PM SP
abbrev s_l_schema_text : Stmt := topS 27
abbrev N_l_schema_text : List Str := ["tables", "rows", "table", "columns", "name", "target"]
theorem sc_l_schema_text : FnScope N_l_schema_text ["tables"] (defScope s_l_schema_text) := ⟨rfl, rfl, rfl, by decide +kernel, rfl, by decide +kernel, by decide +kernel⟩

section
variable {P : Program} {w : World} {K : PySem.W.Frag} {mg : Str → Option Value} {base : Heap} {C : Addr}
theorem ok_ltext {f : Addr} {fd : FuncData} (F : Fun K "_law_schema_text" "_law_schema_text" s_l_schema_text f fd) : FnOk P w K mg base CX0 1 f fd ["tables"] (spM K preLText) := by
  refine ok_body F sc_l_schema_text (fun rs Pl cs r cs' h => ?_) (fun X hX hr => ?_)
  · obtain ⟨T, rfl, _⟩ := h
    rfl
  obtain ⟨cdv, A, outer, s, H, E, rfl⟩ := hX
  have nd := sc_l_schema_text.nd
  refine ⟨_, (pss_cons (ps_set (i := 1) nd rfl (.inl rfl) (pe_lst pa_nil))
      (pss_cons (ps_for PassesOwn.never rfl (pi_list (pv 0)) (pg_tup (by rfl) (by exact (pgs_cons (by exact (pg_name (i := 2) nd (by rfl) (by first | exact .inl rfl | exact .inr rfl))) (by exact (pgs_cons (by exact (pg_name (i := 3) nd (by rfl) (by first | exact .inl rfl | exact .inr rfl))) (by exact pgs_nil)))))) (pss_cons (ps_expr (pe_bm PySem.F.plainAttrs_list PySem.F.slot_list_append PySem.F.type_list_append mt_append (pv 1) (pa_cons (pe_op op_addA pe_str (pv 2)) pa_nil)))
      (pss_one (ps_for PassesOwn.never rfl (pi_list (pv 3)) (pg_tup (by rfl) (by exact (pgs_cons (by exact (pg_name (i := 4) nd (by rfl) (by first | exact .inl rfl | exact .inr rfl))) (by exact (pgs_cons (by exact (pg_name (i := 5) nd (by rfl) (by first | exact .inl rfl | exact .inr rfl))) (by exact pgs_nil)))))) (pss_one (ps_expr (pe_bm PySem.F.plainAttrs_list PySem.F.slot_list_append PySem.F.type_list_append mt_append (pv 1) (pa_cons (pe_ifExp (pt_cmpR op_isN' (pv 5) pe_non (nomark _)) (pe_op op_addA pe_str (pv 4)) (pe_op op_addA (pe_op op_addA (pe_op op_addA pe_str (pv 4)) pe_str) (pv 5))) pa_nil))))))))
      (pss_one (ps_ret (pe_join pe_str (pv 1)))))), ?_⟩
  intro rs Pl cs r cs' hp B0 H0 σ Dn st hP hd hn
  obtain ⟨T, rfl, hT, rfl, rfl, rfl, rfl⟩ := hp
  refine st_new (i := 1) st (fun p σ1 H1 hp0 hpn st1 => ?_)
  refine st_for (α := Unit) st1 (wd_lst (ev_var rfl)) (fun _ _ => True) (fun _ _ => [.dat (encTs T), .val (.ref p), .any, .any, .any, .any]) (fun i _ => [(rowsOf (T.take i)).map D.str]) () True.intro ⟨.rfl _, .rfl _, .any _, .any _, .any _, .any _, True.intro⟩ rfl ?_ ?_
  · intro B1 H1' s1 i d z hd' _
    obtain ⟨t, ht, rfl⟩ := map_get hd'
    obtain ⟨hw, hc4, hcs⟩ := hT.2 t (List.mem_of_getElem? ht)
    have hi : i < T.length := (List.getElem?_eq_some_iff.mp ht).1
    have hrl := rows_len hT i
    have h3 := hT.1
    have l1 : ("table " : Str).length = 6 := by decide +kernel
    have hn8 : t.1.length ≤ 8 := hw.2.2.1
    refine ⟨_, _, g_tup (g_cons g_name (g_cons g_name g_nil)), fun σ2 H2 st2 => ?_⟩
    refine st_app (j := 0) (cs1 := [(rowsOf (T.take i)).map D.str]) (ds := (rowsOf (T.take i)).map D.str) (d := .str (rowOf ["table", t.1])) st2 rfl ?_ rfl ⟨_, rfl⟩ rfl (by rw [List.length_map]; omega) (fun H3 st3 => ?_)
    · rw [← row_table, Str.empty_append]
      exact ev_op ev_str (ev_var rfl) (od_addS (by omega))
    refine st_for (α := Unit) st3 (wd_lst (ev_var (i := 3) rfl)) (fun _ _ => True) (fun _ _ => [.dat (encTs T), .val (.ref p), .any, .any, .any, .any]) (fun j _ => [((rowsOf (T.take i)) ++ [rowOf ["table", t.1]] ++ (t.2.take j).map (fun c => rowOf (colWords c))).map D.str]) () True.intro ⟨.rfl _, .rfl _, .any _, .any _, .any _, .any _, True.intro⟩ (by simp) ?_ ?_
    · intro B2 H2' s2 j d z hd2 _
      obtain ⟨⟨n, t'⟩, hm, rfl⟩ := map_get hd2
      have hco := hcs _ (List.mem_of_getElem? hm)
      have hn8' : n.length ≤ 8 := hco.1.2.2.1
      have e1 : ((rowsOf (T.take i)) ++ [rowOf ["table", t.1]] ++ (t.2.take (j + 1)).map (fun c => rowOf (colWords c))).map D.str = ((rowsOf (T.take i)) ++ [rowOf ["table", t.1]] ++ (t.2.take j).map (fun c => rowOf (colWords c))).map D.str ++ [D.str (rowOf (colWords (n, t')))] := by
        rw [List.take_add_one, hm]
        simp
      have lenb : (((rowsOf (T.take i)) ++ [rowOf ["table", t.1]] ++ (t.2.take j).map (fun c => rowOf (colWords c))).map D.str).length ≤ 1000000 := by
        simp only [List.length_append, List.length_map, List.length_cons, List.length_nil, List.length_take]
        omega
      have lp : ("  plain " : Str).length = 8 := by decide +kernel
      have lr : ("  ref " : Str).length = 6 := by decide +kernel
      have ls : (" " : Str).length = 1 := by decide +kernel
      cases t' with
      | none =>
        refine ⟨_, _, g_tup (g_cons g_name (g_cons g_name g_nil)), fun σ4 H4 st4 => ?_⟩
        refine st_app (j := 0) (cs1 := [((rowsOf (T.take i)) ++ [rowOf ["table", t.1]] ++ (t.2.take j).map (fun c => rowOf (colWords c))).map D.str]) (ds := ((rowsOf (T.take i)) ++ [rowOf ["table", t.1]] ++ (t.2.take j).map (fun c => rowOf (colWords c))).map D.str) (d := .str (rowOf (colWords (n, none)))) st4 rfl ?_ rfl ⟨_, rfl⟩ rfl lenb (fun H5 st5 => ⟨(), True.intro, ?_⟩)
        · rw [← row_plain, Str.empty_append]
          exact ev_if (b := true) (et_test (ev_op (ev_var rfl) ev_non od_isN)) (fun _ => ev_op ev_str (ev_var rfl) (od_addS (by omega))) (fun z => by cases z)
        · have st6 : Sta K [p] B2 H2' [.dat (encTs T), .val (.ref p), .any, .any, .any, .any] [((rowsOf (T.take i)) ++ [rowOf ["table", t.1]] ++ (t.2.take j).map (fun c => rowOf (colWords c))).map D.str ++ [D.str (rowOf (colWords (n, none)))]] σ4 H5 := st5.le ⟨.rfl _, .rfl _, .any _, .any _, .any _, .any _, True.intro⟩
          rw [← e1] at st6
          exact st6
      | some t' =>
        have ht8 : t'.length ≤ 8 := (hco.2 _ rfl).2.2.1
        refine ⟨_, _, g_tup (g_cons g_name (g_cons g_name g_nil)), fun σ4 H4 st4 => ?_⟩
        refine st_app (j := 0) (cs1 := [((rowsOf (T.take i)) ++ [rowOf ["table", t.1]] ++ (t.2.take j).map (fun c => rowOf (colWords c))).map D.str]) (ds := ((rowsOf (T.take i)) ++ [rowOf ["table", t.1]] ++ (t.2.take j).map (fun c => rowOf (colWords c))).map D.str) (d := .str (rowOf (colWords (n, some t')))) st4 rfl ?_ rfl ⟨_, rfl⟩ rfl lenb (fun H5 st5 => ⟨(), True.intro, ?_⟩)
        · rw [← row_ref, Str.empty_append]
          exact ev_if (b := false) (et_test (ev_op (ev_var rfl) ev_non od_isN)) (fun z => by cases z) (fun _ => ev_op (ev_op (ev_op ev_str (ev_var rfl) (od_addS (by omega))) ev_str (od_addS (by simp only [len_app]; omega))) (ev_var rfl) (od_addS (by simp only [len_app]; omega)))
        · have st6 : Sta K [p] B2 H2' [.dat (encTs T), .val (.ref p), .any, .any, .any, .any] [((rowsOf (T.take i)) ++ [rowOf ["table", t.1]] ++ (t.2.take j).map (fun c => rowOf (colWords c))).map D.str ++ [D.str (rowOf (colWords (n, some t')))]] σ4 H5 := st5.le ⟨.rfl _, .rfl _, .any _, .any _, .any _, .any _, True.intro⟩
          rw [← e1] at st6
          exact st6
    · intro z σ4 H4 _ st4
      refine ⟨(), True.intro, ?_⟩
      have e2 : ((rowsOf (T.take i)) ++ [rowOf ["table", t.1]] ++ (t.2.take (t.2.map encC).length).map (fun c => rowOf (colWords c))).map D.str = (rowsOf (T.take (i + 1))).map D.str := by
        rw [words_snoc T i t ht, List.length_map, List.take_length]
      rw [e2] at st4
      exact st4
  · intro z σ2 H2 _ st2
    have st3 := Sta.pub (i := 1) st2 hp0 rfl
    rw [List.length_map, List.take_length] at st3
    exact st_ret st3 (ev_join ev_str (ev_var rfl) (text_small hT)) hd
end
end T3
/-! IX: t.index(x), t a tuple that the program has laid and that is known to have no dict. -/
namespace IX
open PySem PySem.Spec PyProof.Rows L2 DV
def rTIndex (K : PySem.W.Frag) : V → List V → Hp → VK → Prop := fun x xs H Q => ∃ p, ∃ ys : List Str, ∃ z j, x = .ref p ∧ xs = [.str z] ∧ SqT K H p (ys.map V.str) ∧ ys[j]? = some z ∧ (∀ m, m < j → ys[m]? ≠ some z) ∧ Q (.int (j : Nat)) H
theorem mt_tidx {X : Cx} : MtR X "tuple.index" (rTIndex X.K) := mt_tup_index
def tTIdx (K : PySem.W.Frag) (to : TE) (t : TA) : TE := fun σ H Q => to σ H fun x H1 => (∃ p o ys, x = .ref p ∧ H1 p = some (.frz o (.tup ys)) ∧ o.dict = none) ∧ t σ H1 fun xs H2 => rTIndex K x xs H2 Q
section
variable {X : Cx} {o e : Expr} {es : List Expr} {to : TE} {t : TA} {apos cpos : Pos}
theorem pe_tidx (ho : PE X o to) (ha : PA X (e :: es) t)
    (hbase : attributeBase o "index" X.env (eval o X.env) = eval o X.env := by rfl)
    (hfew : ((backTo cpos (starEach (e :: es) X.env)).all (fun x => !x.1) && (backToKw cpos (keywordEach [] X.env)).all (fun x => x.1.isSome)
      && decide ((e :: es).length + ([] : List Keyword).length + (if ([] : List Keyword).isEmpty then 0 else 1) < 30)) = true := by rfl)
    (hline : (apos.endLine == cpos.line) = true := by rfl) (hs : starEach (e :: es) X.env = (false, eval e X.env) :: starEach es X.env := by rfl) (hplain : (backTo cpos (starEach es X.env)).any (·.1) = false := by rfl) :
    PE X (.Call (.Attribute o "index" apos) (e :: es) [] cpos) (tTIdx X.K to t) := by
  refine ⟨fun pins s σ H Q I h => ?_⟩
  refine wpAny_Call_method_late hbase hfew hline rfl (thn (ho.run pins s σ H _ I h) fun v s1 ⟨x, H1, I1, r1, ty, q1⟩ => ?_)
  obtain ⟨p, ob, ys, rfl, hp, hd⟩ := ty
  cases r1
  obtain ⟨e1, hz, its, rv, ob', e2, hc, _⟩ := I1.hok p _ hp
  rw [e1] at e2
  cases e2
  refine ⟨"tuple", "tuple.index", PySem.F.plainAttrs_tuple, PySem.F.slot_tuple_index, PySem.F.type_tuple_index, ⟨ob, e1, hc⟩, fun a ea => ?_, ?_⟩
  · cases ea
    exact ⟨ob, e1, hd⟩
  · have hA := ha.run cpos pins s1 σ H1 _ I1 q1
    rw [hs] at hA ⊢
    refine Calls.callWith_builtin (by show (false || (backTo cpos (starEach es X.env)).any (·.1)) = false; rw [hplain] <;> rfl) (Calls.evalArgs_plain ?_)
    exact thn hA fun us s2 ⟨vs, H2, I2, r2, q2⟩ => mt_tidx pins s2 σ H2 (.ref p) vs _ us Q I2 rfl r2 q2
end
/-- the first place of n -/
def idxN (n : Str) : List Str → Nat
  | [] => 0
  | a :: r => if a = n then 0 else idxN n r + 1
theorem idxN_get {n : Str} : ∀ {l : List Str}, n ∈ l → l[idxN n l]? = some n ∧ ∀ m, m < idxN n l → l[m]? ≠ some n
  | [], h => by cases h
  | a :: r, h => by
    by_cases e : a = n
    · have z : idxN n (a :: r) = 0 := if_pos e
      rw [z]
      exact ⟨by simp [e], fun m hm => by omega⟩
    · have z : idxN n (a :: r) = idxN n r + 1 := if_neg e
      have h' : n ∈ r := by
        rcases List.mem_cons.mp h with q | q
        · exact absurd q.symm e
        · exact q
      obtain ⟨h1, h2⟩ := idxN_get h'
      rw [z]
      refine ⟨by simpa using h1, fun m hm => ?_⟩
      cases m with
      | zero => simpa using e
      | succ m => simpa using h2 m (by omega)
section
variable {K : PySem.W.Frag} {P : List Addr} {ss : List Sl} {cs cs1 cs2 : List (List D)} {te : TE} {ta : TA}
theorem rpA_strs {B : Hp} : ∀ {ys : List Str} {vs : List V}, RpA K B vs (ys.map D.str) → vs = ys.map V.str
  | [], _, .nil => rfl
  | y :: ys, _, .cons h r => by
    cases h
    rw [rpA_strs r]; rfl
theorem ev_tidx {ys : List Str} {z : Str} (h : Ev K P ss cs te (.dat (.nt (ys.map D.str))) cs1) (ha : EvA K P ss cs1 ta [.dat (.str z)] cs2) (hz : z ∈ ys) : Ev K P ss cs (tTIdx K te ta) (.dat (.int (idxN z ys : Nat))) cs2 := fun B H σ o Q q =>
  h B H σ o _ fun x B1 H1 s1 o1 v1 => by
    have a' : Rp K B1 x (.nt (ys.map D.str)) := v1
    cases a' with
    | @nt a ob xs _ h5 hd r =>
      refine ⟨⟨a, ob, xs, rfl, o1.ex _ _ h5, hd⟩, ha B1 H1 σ o1 _ fun us B2 H2 s2 o2 r2 => ?_⟩
      obtain ⟨w, rfl, hw⟩ := rs1 r2
      have b' : Rp K B2 w (.str z) := hw
      cases b'
      have e := rpA_strs r
      subst e
      obtain ⟨i1, i2⟩ := idxN_get hz
      exact ⟨a, ys, z, idxN z ys, rfl, rfl, .inl (.inr ⟨_, o2.ex _ _ (s2.ex _ _ h5)⟩), i1, i2, q _ B2 H2 (s1.trans s2) o2 (.int _)⟩
end
end IX
namespace SP
open PySem L2 DV PM IX
def tgtD (c : Col) : D := match c.2 with | none => .non | some n => .str n
def idxD (names : List Str) (c : Col) : D := match c.2 with | none => .non | some n => .int (idxN n names : Nat)
def shapeD (T : List Tab) : D := .lst (T.map fun t => .lst (t.2.map (idxD (T.map (·.1)))))
def tgtsOk (T : List Tab) : Prop := ∀ t ∈ T, ∀ c ∈ t.2, ∀ n, c.2 = some n → n ∈ T.map (·.1)
def preShape (C : Addr) : Pre := fun rs Pl cs r cs' => ∃ T, rs = [.dat (schD C T)] ∧ schOk T ∧ tgtsOk T ∧ Pl = [] ∧ cs = [] ∧ r = .dat (shapeD T) ∧ cs' = []
theorem lookup_nodup : ∀ {T : List Tab} {t : Tab}, (T.map (·.1)).Nodup → t ∈ T → T.lookup t.1 = some t.2
  | [], _, _, h => by cases h
  | a :: r, t, nd, h => by
    obtain ⟨n, c⟩ := a
    rcases List.mem_cons.mp h with rfl | h'
    · simp [List.lookup]
    · have nd' : n ∉ r.map (·.1) ∧ (r.map (·.1)).Nodup := by simpa using nd
      have ne : ¬ t.1 = n := fun z => nd'.1 (z ▸ List.mem_map.mpr ⟨t, h', rfl⟩)
      have e : (t.1 == n) = false := by simpa using ne
      simp only [List.lookup, e]
      exact lookup_nodup nd'.2 h'
end SP
namespace T3
open PySem L2 DV PM SP IX
section
variable {P : Program} {w : World} {K : PySem.W.Frag} {mg : Str → Option Value} {base : Heap} {C : Addr}
end
end T3
namespace SP
open PySem L2 DV PM IX
def NAMES : List (List Str) := [["a", "b", "c"], ["region", "shop", "sale"], ["c", "b", "a"], ["t", "u", "v"]]
def CNT : List Nat := [1, 2, 2, 2, 3, 3]
def FEW : List Nat := [0, 1, 1, 1, 2]
def innerT (found : List Tab) (k : Nat) : Nat → List Col × Fd → List Col × Fd
  | 0, z => z
  | j + 1, z =>
    ((innerT found k j z).1 ++ [((["r", "one"] : List Str).getD j "", some ((found.getD (([k - 1, k - 1, fdI (innerT found k j z).2 k] : List Nat).getD (fdI (fdT (innerT found k j z).2 k) 3) 0) ("", [])).1))], fdT (fdT (innerT found k j z).2 k) 3)
/-- of one table: its columns without targets, how many with, the feed behind that -/
def cols0 (s : Fd) : List Col := ((["p", "size"] : List Str).take (FEW.getD (fdI s 5) 0)).map fun n => (n, none)
def manyOf (k left : Nat) (s : Fd) : Nat := if k = 0 then 0 else min left (FEW.getD (fdI (fdT s 5) 5) 0)
def feed2 (k : Nat) (s : Fd) : Fd := if k = 0 then fdT s 5 else fdT (fdT s 5) 5
def outerT (names : List Str) (s0 : Fd) : Nat → List Tab × Nat × Fd
  | 0 => ([], 3, s0)
  | k + 1 =>
    let y := outerT names s0 k
    let w := innerT y.1 k (manyOf k y.2.1 y.2.2) (cols0 y.2.2, feed2 k y.2.2)
    (y.1 ++ [(names.getD k "", w.1)], y.2.1 - manyOf k y.2.1 y.2.2, w.2)
def namesOf (s : Fd) : List Str := NAMES.getD (fdI s 4) []
def countOf (s : Fd) : Nat := CNT.getD (fdI (fdT s 4) 6) 0
def tablesOf (s : Fd) : List Tab := (outerT (namesOf s) (fdT (fdT s 4) 6) (countOf s)).1
def feedOf (s : Fd) : Fd := (outerT (namesOf s) (fdT (fdT s 4) 6) (countOf s)).2.2
def preTables : Pre := fun rs Pl cs r cs' => ∃ p s, rs = [.val (.ref p)] ∧ Pl = [p] ∧ cs = [fdD s] ∧ r = .dat (encTs (tablesOf s)) ∧ cs' = [fdD (feedOf s)]
theorem pk_get {α : Type} (l : List α) (f : α → D) (a0 : α) (s : Fd) (n : Nat) (hn : l.length = n) (h : 0 < n) : (l.map f)[fdI s n]? = some (f (l.getD (fdI s n) a0)) := by
  have hi : fdI s n < l.length := by rw [hn]; exact fdI_lt h
  rw [List.getElem?_map, List.getElem?_eq_getElem hi, List.getD_eq_getElem?_getD, List.getElem?_eq_getElem hi]
  rfl
theorem outer_len (names : List Str) (s0 : Fd) : ∀ k, (outerT names s0 k).1.length = k
  | 0 => rfl
  | k + 1 => by
    show ((outerT names s0 k).1 ++ [_]).length = k + 1
    rw [List.length_append, outer_len names s0 k]; rfl
theorem inner_len (found : List Tab) (k : Nat) (z : List Col × Fd) : ∀ j, (innerT found k j z).1.length = z.1.length + j
  | 0 => rfl
  | j + 1 => by
    show ((innerT found k j z).1 ++ [_]).length = _
    rw [List.length_append, inner_len found k z j]; rfl
theorem names_len (s : Fd) : (namesOf s).length = 3 := by
  have h := fdI_lt (s := s) (show 0 < 4 by decide)
  unfold namesOf NAMES
  generalize fdI s 4 = i at h
  match i, h with
  | 0, _ => rfl
  | 1, _ => rfl
  | 2, _ => rfl
  | 3, _ => rfl
theorem few_le (i : Nat) : FEW.getD i 0 ≤ 2 := by
  unfold FEW
  match i with
  | 0 => decide
  | 1 => decide
  | 2 => decide
  | 3 => decide
  | 4 => decide
  | n + 5 => simp
theorem cnt_le (i : Nat) : CNT.getD i 0 ≤ 3 := by
  unfold CNT
  match i with
  | 0 => decide
  | 1 => decide
  | 2 => decide
  | 3 => decide
  | 4 => decide
  | 5 => decide
  | n + 6 => simp
theorem many_le (k left : Nat) (s : Fd) : manyOf k left s ≤ 2 ∧ manyOf k left s ≤ left := by
  have := few_le (fdI (fdT s 5) 5)
  unfold manyOf
  split <;> omega
theorem cols0_le (s : Fd) : (cols0 s).length ≤ 2 := by
  unfold cols0
  rw [List.length_map, List.length_take]
  have : (["p", "size"] : List Str).length = 2 := rfl
  omega
theorem cutTake {ds : List D} {n : Nat} (h : n ≤ ds.length) : cutD ds none (some (n : Int)) = ds.take n := by
  unfold cutD
  rw [HT.sIx_none, HT.sIx_nat, List.drop_zero, Nat.sub_zero, Nat.min_eq_left h]
section
variable {K : PySem.W.Frag} {P : List Addr} {B0 H0 H : Hp} {ss : List Sl} {cs : List (List D)} {σ : L2.St} {De : Ends}
theorem Sta.setv {i : Nat} {v : V} {r : Sl} (h : Sta K P B0 H0 ss cs σ H) (hv : ∀ B, RS K B v r) : Sta K P B0 H0 (ss.set i r) cs (σ.set i (some v)) H := by
  obtain ⟨B, s, o⟩ := h
  exact ⟨B, s, o.ex, o.sl.set (hv B), o.mu⟩
theorem st_parNew {i j : Nat} {n : Int} (h : Sta K P B0 H0 ss cs σ H) (k : ∀ p σ' H', H0 p = none → p ∉ P → Sta K (p :: P) B0 H0 ((ss.set i (.val (.ref p))).set j (.dat (.int n))) ([] :: cs) σ' H' → De.nx σ' H') : tPar i j (tCons (tLst tNil) (tCons (tC (.int n)) tNil)) De σ H := by
  have q := st_new (D := { De with nx := fun σ' H' => De.nx (σ'.set j (some (.int n))) H' }) (i := i) h (fun p σ' H' a b c => k p _ _ a b (Sta.setv c fun B => .int n))
  exact ⟨q.1, fun p hp => ⟨_, _, rfl, q.2 p hp⟩⟩
end
end SP
namespace T3
open PySem L2 DV PM SP IX
abbrev s_l_tables : Stmt := topS 26
abbrev N_l_tables : List Str := ["feed", "names", "found", "left", "k", "columns", "many", "place", "target", "name"]
theorem sc_l_tables : FnScope N_l_tables ["feed"] (defScope s_l_tables) := ⟨rfl, rfl, rfl, by decide +kernel, rfl, by decide +kernel, by decide +kernel⟩

section
variable {P : Program} {w : World} {K : PySem.W.Frag} {mg : Str → Option Value} {base : Heap} {C : Addr}
theorem ok_tables {f fP fT : Addr} {fd fdP fdT' : FuncData} (F : Fun K "_law_tables" "_law_tables" s_l_tables f fd) (G_l_pick : Def P w K mg base 2 "_law_pick" fP fdP ["feed", "options"] (spM K prePick)) (G_l_take : Def P w K mg base 1 "_law_take" fT fdT' ["feed", "size"] (spM K preTake)) (b_range : mg "range" = none) (b_min : mg "min" = none) :
    FnOk P w K mg base CX0 3 f fd ["feed"] (spM K preTables) := by
  refine ok_body F sc_l_tables (fun rs Pl cs r cs' h => ?_) (fun X hX hr => ?_)
  · obtain ⟨p, s, rfl, _⟩ := h
    rfl
  obtain ⟨cdv, A, outer, s, H, E, rfl⟩ := hX
  have nd := sc_l_tables.nd
  refine ⟨_, (pss_cons (ps_set (i := 1) nd rfl (.inl rfl) (pe_def G_l_pick hr (by decide) (by rfl) (pa_cons (pv 0) (pa_cons (pe_lst (pa_cons (pe_lst (pa_cons pe_str (pa_cons pe_str (pa_cons pe_str pa_nil)))) (pa_cons (pe_lst (pa_cons pe_str (pa_cons pe_str (pa_cons pe_str pa_nil)))) (pa_cons (pe_lst (pa_cons pe_str (pa_cons pe_str (pa_cons pe_str pa_nil)))) (pa_cons (pe_lst (pa_cons pe_str (pa_cons pe_str (pa_cons pe_str pa_nil)))) pa_nil))))) pa_nil))))
      (pss_cons (ps_par (i := 2) (j := 3) rfl nd rfl rfl (by decide) rfl rfl (pa_cons (pe_lst pa_nil) (pa_cons pe_int pa_nil)) (by rfl))
      (pss_cons (ps_for PassesOwn.never rfl (pi_range1 (by rfl) b_range (pa_cons (pe_def G_l_pick hr (by decide) (by rfl) (pa_cons (pv 0) (pa_cons (pe_lst (pa_cons pe_int (pa_cons pe_int (pa_cons pe_int (pa_cons pe_int (pa_cons pe_int (pa_cons pe_int pa_nil))))))) pa_nil))) pa_nil)) (pg_name (i := 4) nd (by rfl) (by first | exact .inl rfl | exact .inr rfl)) (pss_cons (ps_setLc (i := 5) (own := [("name", 9)]) (g := (gName 9)) (tt := tYes) (te := (tTup (tCons (tVar 9) (tCons (tC .non) tNil)))) rfl nd rfl rfl (sw_true rfl rfl rfl (by decide +kernel)) (pi_list (pe_slice sl_3 (pe_lst (pa_cons pe_str (pa_cons pe_str pa_nil))) po_none (po_some (pe_def G_l_pick hr (by decide) (by rfl) (pa_cons (pv 0) (pa_cons (pe_lst (pa_cons pe_int (pa_cons pe_int (pa_cons pe_int (pa_cons pe_int (pa_cons pe_int pa_nil)))))) pa_nil)))))) (blkOk_by (N := N_l_tables) (sc := defScope s_l_tables) (by decide +kernel)) (by intro _ _ _ _ _; exact (pg_name (i := 9) nd (by rfl) (by first | exact .inl rfl | exact .inr rfl))) (by intro _ _ _ _ _; exact pts_nil) (by intro _ _ _ _ _; exact (pe_tup (pa_cons (pv 9) (pa_cons pe_non pa_nil)))))
      (pss_cons (ps_set (i := 6) nd rfl (.inl rfl) (pe_ifExp (pt_cmpR (op_eqA hr.units) (pv 4) pe_int (nomark _)) pe_int (pe_callB (call_min2' rfl) (by rfl) b_min (by decide +kernel) (pa_cons (pv 3) (pa_cons (pe_def G_l_pick hr (by decide) (by rfl) (pa_cons (pv 0) (pa_cons (pe_lst (pa_cons pe_int (pa_cons pe_int (pa_cons pe_int (pa_cons pe_int (pa_cons pe_int pa_nil)))))) pa_nil))) pa_nil)))))
      (pss_cons (ps_for PassesOwn.never rfl (pi_range1 (by rfl) b_range (pa_cons (pv 6) pa_nil)) (pg_name (i := 7) nd (by rfl) (by first | exact .inl rfl | exact .inr rfl)) (pss_cons (ps_set (i := 8) nd rfl (.inl rfl) (pe_ix ix_seq (pe_ix ix_seq (pv 2) (pe_def G_l_pick hr (by decide) (by rfl) (pa_cons (pv 0) (pa_cons (pe_lst (pa_cons (pe_op op_sub (pv 4) pe_int) (pa_cons (pe_op op_sub (pv 4) pe_int) (pa_cons (pe_def G_l_take hr (by decide) (by rfl) (pa_cons (pv 0) (pa_cons (pv 4) pa_nil))) pa_nil)))) pa_nil))) (fun _ _ => rfl)) pe_int (fun _ _ => rfl)))
      (pss_one (ps_expr (pe_bm PySem.F.plainAttrs_list PySem.F.slot_list_append PySem.F.type_list_append mt_append (pv 5) (pa_cons (pe_tup (pa_cons (pe_ix ix_seq (pe_lst (pa_cons pe_str (pa_cons pe_str pa_nil))) (pv 7) (fun _ _ => rfl)) (pa_cons (pv 8) pa_nil))) pa_nil))))))
      (pss_cons (ps_set (i := 3) nd rfl (.inl rfl) (pe_op op_sub (pv 3) (pv 6)))
      (pss_one (ps_expr (pe_bm PySem.F.plainAttrs_list PySem.F.slot_list_append PySem.F.type_list_append mt_append (pv 2) (pa_cons (pe_tup (pa_cons (pe_ix ix_seq (pv 1) (pv 4) (fun _ _ => rfl)) (pa_cons (pv 5) pa_nil))) pa_nil)))))))))
      (pss_one (ps_ret (pv 2)))))), ?_⟩
  intro rs Pl cs r cs' hp B0 H0 σ Dn st hP hd hn
  obtain ⟨p, s, rfl, rfl, rfl, rfl, rfl⟩ := hp
  refine st_seq (st_asg (i := 1) (r := .dat (.lst ((namesOf s).map D.str))) (cs1 := [fdD (fdT s 4)]) st (ev_call1 (j := 0) (ds := fdD s) (ds' := fdD (fdT s 4)) (ea_cons (r := .val (.ref p)) (ev_var rfl) (ea_cons (ev_lst (ds := NAMES.map fun l => .lst (l.map D.str)) (ea_cons (ev_lst (ds := (["a", "b", "c"] : List Str).map D.str) (ea_cons ev_str (ea_cons ev_str (ea_cons ev_str ea_nil)))) (ea_cons (ev_lst (ds := (["region", "shop", "sale"] : List Str).map D.str) (ea_cons ev_str (ea_cons ev_str (ea_cons ev_str ea_nil)))) (ea_cons (ev_lst (ds := (["c", "b", "a"] : List Str).map D.str) (ea_cons ev_str (ea_cons ev_str (ea_cons ev_str ea_nil)))) (ea_cons (ev_lst (ds := (["t", "u", "v"] : List Str).map D.str) (ea_cons ev_str (ea_cons ev_str (ea_cons ev_str ea_nil)))) ea_nil))))) ea_nil)) rfl rfl
    ⟨p, s, _, _, rfl, rfl, rfl, by decide, by decide, pk_get NAMES (fun l => .lst (l.map D.str)) [] s 4 rfl (by decide), rfl, rfl⟩) (fun σ1 H1 st1 => ?_))
  dsimp only []
  refine st_seq (st_parNew (i := 2) (j := 3) st1 (fun pf σ2 H2 hpf0 hpfn st2 => ?_))
  have hnp : pf ≠ p := fun z => hpfn (z ▸ List.mem_cons_self)
  dsimp only []
  refine st_seq (t := tFor _ _ _) ?_
  generalize hs0 : fdT (fdT s 4) 6 = s0
  generalize hnm : namesOf s = names at st2
  have hst2 : Sta K [pf, p] B0 H0 [.val (.ref p), .dat (.lst (names.map D.str)), .val (.ref pf), .dat (.int 3), .any, .any, .any, .any, .any, .any] [[], fdD (fdT s 4)] σ2 H2 := st2
  have hcn : countOf s ≤ 3 := cnt_le _
  have hnl : names.length = 3 := by
    rw [← hnm]
    exact names_len s
  refine st_for (α := Unit) (cs1 := [[], fdD s0]) hst2 (wd_rng1 (n := ((countOf s : Nat) : Int)) (ea_cons (ev_call1 (j := 1) (cs1 := [[], fdD (fdT s 4)]) (ds := fdD (fdT s 4)) (ds' := fdD s0) (ea_cons (r := .val (.ref p)) (ev_var rfl) (ea_cons (ev_lst (ds := CNT.map fun n => D.int (n : Nat)) (ea_cons ev_int (ea_cons ev_int (ea_cons ev_int (ea_cons ev_int (ea_cons ev_int (ea_cons ev_int ea_nil))))))) ea_nil)) rfl rfl
    ⟨p, fdT s 4, _, _, rfl, rfl, rfl, by decide, by decide, pk_get CNT (fun n => .int (n : Nat)) 0 _ 6 rfl (by decide), rfl, by rw [← hs0]; rfl⟩) ea_nil) (by omega)) (fun _ _ => True)
    (fun k _ => [.val (.ref p), .dat (.lst (names.map D.str)), .val (.ref pf), .dat (.int ((outerT names s0 k).2.1 : Nat)), .any, .any, .any, .any, .any, .any]) (fun k _ => [(outerT names s0 k).1.map encT, fdD (outerT names s0 k).2.2]) () True.intro ⟨.rfl _, .rfl _, .rfl _, .rfl _, .any _, .any _, .any _, .any _, .any _, .any _, True.intro⟩ rfl ?_ ?_
  · intro B1 H1' s1 k d z hd' _
    obtain ⟨hk, rfl⟩ := rangeD_get hd'
    rw [Int.zero_add]
    have hk3 : k < countOf s := by simpa using hk
    have hlen := outer_len names s0 k
    generalize hY : outerT names s0 k = Y at hlen
    obtain ⟨found, left, sk⟩ := Y
    have hfl : found.length = k := hlen
    have hnp2 := few_le (fdI sk 5)
    have hml := many_le k left sk
    have hc0 := cols0_le sk
    refine ⟨_, _, g_name, fun σ3 H3 st3 => ?_⟩
    have st3 : Sta K [pf, p] B1 H1' [.val (.ref p), .dat (.lst (names.map D.str)), .val (.ref pf), .dat (.int (left : Nat)), .dat (.int (k : Nat)), .any, .any, .any, .any, .any] [found.map encT, fdD sk] σ3 H3 := by
      have z := st3
      simp only [hY] at z
      exact z
    have hY1 : outerT names s0 (k + 1) = (found ++ [(names.getD k "", (innerT found k (manyOf k left sk) (cols0 sk, feed2 k sk)).1)], left - manyOf k left sk, (innerT found k (manyOf k left sk) (cols0 sk, feed2 k sk)).2) := by
      show (let y := outerT names s0 k
            let w := innerT y.1 k (manyOf k y.2.1 y.2.2) (cols0 y.2.2, feed2 k y.2.2)
            (y.1 ++ [(names.getD k "", w.1)], y.2.1 - manyOf k y.2.1 y.2.2, w.2)) = _
      rw [hY]
    refine st_asgF (i := 5) (cs1 := [found.map encT, fdD (fdT sk 5)]) (ds := (cols0 sk).map encC) st3 ?_ (fun pc σ4 H4 hpc0 hpcn st4 => ?_)
    · have e1 : (cols0 sk).map encC = ((["p", "size"] : List Str).take (FEW.getD (fdI sk 5) 0)).map fun n => D.tup [.str n, .non] := by
        unfold cols0
        rw [List.map_map]
        rfl
      rw [e1]
      refine ef_mapE (l := (["p", "size"] : List Str).take (FEW.getD (fdI sk 5) 0)) (enc := D.str) (wd_lst ?_) _ (by rw [List.length_take]; omega) (fun p' i' n acc hd2 => ⟨_, _, g_name, by decide, ev_tup (ds := [.str n, .non]) (ea_cons (ev_var rfl) (ea_cons ev_non ea_nil)) (by simp)⟩)
      rw [List.map_take, ← cutTake (ds := (["p", "size"] : List Str).map D.str) hnp2]
      exact ev_sl (ev_lst (ds := (["p", "size"] : List Str).map D.str) (ea_cons ev_str (ea_cons ev_str ea_nil))) eo_none (eo_some (ev_call1 (j := 1) (cs1 := [found.map encT, fdD sk]) (ds := fdD sk) (ds' := fdD (fdT sk 5)) (ea_cons (r := .val (.ref p)) (ev_var rfl) (ea_cons (ev_lst (ds := FEW.map fun n => D.int (n : Nat)) (ea_cons ev_int (ea_cons ev_int (ea_cons ev_int (ea_cons ev_int (ea_cons ev_int ea_nil)))))) ea_nil)) rfl rfl
        ⟨p, sk, _, _, rfl, rfl, rfl, by decide, by decide, pk_get FEW (fun n => .int (n : Nat)) 0 _ 5 rfl (by decide), rfl, rfl⟩)) sd_L
    have st4 : Sta K [pc, pf, p] B1 H1' [.val (.ref p), .dat (.lst (names.map D.str)), .val (.ref pf), .dat (.int (left : Nat)), .dat (.int (k : Nat)), .val (.ref pc), .any, .any, .any, .any] [(cols0 sk).map encC, found.map encT, fdD (fdT sk 5)] σ4 H4 := st4
    dsimp only []
    refine st_seq (st_asg (i := 6) (r := .dat (.int (manyOf k left sk : Nat))) (cs1 := [(cols0 sk).map encC, found.map encT, fdD (feed2 k sk)]) st4 ?_ (fun σ5 H5 st5 => ?_))
    · refine ev_if (b := decide (((k : Nat) : Int) = 0)) (et_test (ev_op (ev_var rfl) ev_int od_eqI)) (fun hb => ?_) (fun hb => ?_)
      · have h0 : k = 0 := by have := of_decide_eq_true hb; omega
        have e1 : manyOf k left sk = 0 := if_pos h0
        have e2 : feed2 k sk = fdT sk 5 := if_pos h0
        rw [e1, e2]
        exact ev_int
      · have h0 : ¬ k = 0 := by have := of_decide_eq_false hb; omega
        have e1 : manyOf k left sk = min left (FEW.getD (fdI (fdT sk 5) 5) 0) := if_neg h0
        have e2 : feed2 k sk = fdT (fdT sk 5) 5 := if_neg h0
        have e3 : ((min left (FEW.getD (fdI (fdT sk 5) 5) 0) : Nat) : Int) = if ((FEW.getD (fdI (fdT sk 5) 5) 0 : Nat) : Int) < (left : Int) then ((FEW.getD (fdI (fdT sk 5) 5) 0 : Nat) : Int) else (left : Int) := by
          split <;> omega
        rw [e1, e2, e3]
        exact ev_cb (ea_cons (ev_var rfl) (ea_cons (ev_call1 (j := 2) (cs1 := [(cols0 sk).map encC, found.map encT, fdD (fdT sk 5)]) (ds := fdD (fdT sk 5)) (ds' := fdD (fdT (fdT sk 5) 5)) (ea_cons (r := .val (.ref p)) (ev_var rfl) (ea_cons (ev_lst (ds := FEW.map fun n => D.int (n : Nat)) (ea_cons ev_int (ea_cons ev_int (ea_cons ev_int (ea_cons ev_int (ea_cons ev_int ea_nil)))))) ea_nil)) rfl rfl
          ⟨p, fdT sk 5, _, _, rfl, rfl, rfl, by decide, by decide, pk_get FEW (fun n => .int (n : Nat)) 0 _ 5 rfl (by decide), rfl, rfl⟩) ea_nil)) cb_min2
    generalize hZ : ((cols0 sk, feed2 k sk) : List Col × Fd) = z0 at hY1
    have hz1 : z0.1 = cols0 sk := by rw [← hZ]
    have hz2 : z0.2 = feed2 k sk := by rw [← hZ]
    rw [← hz1, ← hz2] at st5
    generalize hmm : manyOf k left sk = many at st5 hY1 hml
    have st5 : Sta K [pc, pf, p] B1 H1' [.val (.ref p), .dat (.lst (names.map D.str)), .val (.ref pf), .dat (.int (left : Nat)), .dat (.int (k : Nat)), .val (.ref pc), .dat (.int (many : Nat)), .any, .any, .any] [z0.1.map encC, found.map encT, fdD z0.2] σ5 H5 := st5
    refine st_for (α := Unit) (cs1 := [z0.1.map encC, found.map encT, fdD z0.2]) st5 (wd_rng1 (n := ((many : Nat) : Int)) (ea_cons (ev_var rfl) ea_nil) (by omega)) (fun _ _ => True)
      (fun j _ => [.val (.ref p), .dat (.lst (names.map D.str)), .val (.ref pf), .dat (.int (left : Nat)), .dat (.int (k : Nat)), .val (.ref pc), .dat (.int (many : Nat)), .any, .any, .any]) (fun j _ => [(innerT found k j z0).1.map encC, found.map encT, fdD (innerT found k j z0).2]) () True.intro ⟨.rfl _, .rfl _, .rfl _, .rfl _, .rfl _, .rfl _, .rfl _, .any _, .any _, .any _, True.intro⟩ rfl ?_ ?_
    · intro B2 H2' s2 j d z hd2 _
      obtain ⟨hj, rfl⟩ := rangeD_get hd2
      rw [Int.zero_add]
      have hj' : j < many := by simpa using hj
      have hk0 : 0 < k := by
        by_cases h : k = 0
        · have : manyOf k left sk = 0 := if_pos h
          omega
        · omega
      have hcl := inner_len found k z0 j
      generalize hI : innerT found k j z0 = I at hcl
      obtain ⟨cols, si⟩ := I
      refine ⟨_, _, g_name, fun σ6 H6 st6 => ?_⟩
      have st6 : Sta K [pc, pf, p] B2 H2' [.val (.ref p), .dat (.lst (names.map D.str)), .val (.ref pf), .dat (.int (left : Nat)), .dat (.int (k : Nat)), .val (.ref pc), .dat (.int (many : Nat)), .dat (.int (j : Nat)), .any, .any] [cols.map encC, found.map encT, fdD si] σ6 H6 := by
        have z := st6
        simp only [hI] at z
        exact z
      have hI1 : innerT found k (j + 1) z0 = (cols ++ [((["r", "one"] : List Str).getD j "", some ((found.getD (([k - 1, k - 1, fdI si k] : List Nat).getD (fdI (fdT si k) 3) 0) ("", [])).1))], fdT (fdT si k) 3) := by
        show ((innerT found k j z0).1 ++ [((["r", "one"] : List Str).getD j "", some ((found.getD (([k - 1, k - 1, fdI (innerT found k j z0).2 k] : List Nat).getD (fdI (fdT (innerT found k j z0).2 k) 3) 0) ("", [])).1))], fdT (fdT (innerT found k j z0).2 k) 3) = _
        rw [hI]
      have hfd := fdI_lt (s := si) hk0
      have hix : ([k - 1, k - 1, fdI si k] : List Nat).getD (fdI (fdT si k) 3) 0 < k := by
        have h3 := fdI_lt (s := fdT si k) (show 0 < 3 by decide)
        generalize fdI (fdT si k) 3 = q at h3
        match q, h3 with
        | 0, _ => show k - 1 < k; omega
        | 1, _ => show k - 1 < k; omega
        | 2, _ => exact hfd
      have hk1 : ((k - 1 : Nat) : Int) = (k : Int) - 1 := by omega
      have hpk := pk_get ([k - 1, k - 1, fdI si k] : List Nat) (fun n => D.int (n : Nat)) 0 (fdT si k) 3 rfl (by decide)
      generalize ([k - 1, k - 1, fdI si k] : List Nat).getD (fdI (fdT si k) 3) 0 = ix at hix hI1 hpk
      have hf : found[ix]? = some (found.getD ix ("", [])) := by
        have : ix < found.length := by omega
        rw [List.getD_eq_getElem?_getD, List.getElem?_eq_getElem this]
        rfl
      have hf2 : (found.map encT)[ix]? = some (encT (found.getD ix ("", []))) := by rw [List.getElem?_map, hf]; rfl
      generalize found.getD ix ("", []) = tb at hf2 hI1
      refine st_asg (i := 8) (r := .dat (.str tb.1)) (cs1 := [cols.map encC, found.map encT, fdD (fdT (fdT si k) 3)]) st6 (ev_op (ev_ixM (j := 1) rfl (ev_call1 (j := 2) (cs1 := [cols.map encC, found.map encT, fdD (fdT si k)]) (ds := fdD (fdT si k)) (ds' := fdD (fdT (fdT si k) 3)) (ea_cons (r := .val (.ref p)) (ev_var rfl) (ea_cons (ev_lst (ds := [.int ((k : Int) - 1), .int ((k : Int) - 1), .int (fdI si k : Nat)]) (ea_cons (ev_op (ev_var rfl) ev_int od_subI) (ea_cons (ev_op (ev_var rfl) ev_int od_subI) (ea_cons (ev_call1 (j := 2) (cs1 := [cols.map encC, found.map encT, fdD si]) (ds := fdD si) (ds' := fdD (fdT si k)) (ea_cons (r := .val (.ref p)) (ev_var rfl) (ea_cons (ev_var rfl) ea_nil)) rfl rfl ⟨p, si, k, rfl, rfl, rfl, hk0, by omega, rfl, rfl⟩) ea_nil))) (by simp)) ea_nil)) rfl rfl
          ⟨p, fdT si k, _, .int (ix : Nat), rfl, rfl, rfl, by simp, by simp, ?_, rfl, rfl⟩) rfl rfl (atI_nat hf2)) ev_int (od_ixT (atI_nat (j := 0) rfl))) (fun σ7 H7 st7 => ?_)
      · rw [← hk1]
        exact hpk
      have hj2 : (["r", "one"] : List Str)[j]? = some ((["r", "one"] : List Str).getD j "") := by
        have : j < 2 := by omega
        match j, this with
        | 0, _ => rfl
        | 1, _ => rfl
      refine st_app (i := 5) (j := 0) (cs1 := [cols.map encC, found.map encT, fdD (fdT (fdT si k) 3)]) (ds := cols.map encC) (d := encC ((["r", "one"] : List Str).getD j "", some tb.1)) st7 rfl (ev_tup (ds := [.str ((["r", "one"] : List Str).getD j ""), .str tb.1]) (ea_cons (ev_op (ev_lst (ds := (["r", "one"] : List Str).map D.str) (ea_cons ev_str (ea_cons ev_str ea_nil))) (ev_var rfl) (od_ixL (atI_nat (strs_get hj2)))) (ea_cons (ev_var rfl) ea_nil)) (by simp)) rfl ⟨_, rfl⟩ rfl (by rw [List.length_map]; simp only [] at hcl; rw [hcl, hz1]; omega) (fun H8 st8 => ⟨(), True.intro, ?_⟩)
      show Sta K [pc, pf, p] B2 H2' _ [(innerT found k (j + 1) z0).1.map encC, found.map encT, fdD (innerT found k (j + 1) z0).2] σ7 H8
      rw [hI1, List.map_append]
      exact st8.le ⟨.rfl _, .rfl _, .rfl _, .rfl _, .rfl _, .rfl _, .rfl _, .any _, .any _, .any _, True.intro⟩
    · intro z σ6 H6 _ st6
      have st7 : Sta K [pc, pf, p] B1 H1' [.val (.ref p), .dat (.lst (names.map D.str)), .val (.ref pf), .dat (.int (left : Nat)), .dat (.int (k : Nat)), .val (.ref pc), .dat (.int (many : Nat)), .any, .any, .any] [(innerT found k many z0).1.map encC, found.map encT, fdD (innerT found k many z0).2] σ6 H6 := by
        have z := st6
        rw [show (rangeD 0 ((many : Nat) : Int).toNat).length = many from by rw [rangeD_len, Int.toNat_natCast]] at z
        exact z
      generalize innerT found k many z0 = w at st7 hY1
      have hnk : names[k]? = some (names.getD k "") := by
        have : k < names.length := by omega
        rw [List.getD_eq_getElem?_getD, List.getElem?_eq_getElem this]
        rfl
      dsimp only []
      refine st_seq (st_asg (i := 3) (r := .dat (.int ((left - many : Nat) : Nat))) (cs1 := [w.1.map encC, found.map encT, fdD w.2]) st7 ?_ (fun σ8 H8 st8 => ?_))
      · have e : ((left - many : Nat) : Int) = (left : Int) - (many : Int) := by omega
        rw [e]
        exact ev_op (ev_var rfl) (ev_var rfl) od_subI
      have st9 := Sta.pub (i := 5) st8 hpc0 rfl
      refine st_app (i := 2) (j := 0) (cs1 := [found.map encT, fdD w.2]) (ds := found.map encT) (d := encT (names.getD k "", w.1)) st9 rfl (ev_tup (ds := [.str (names.getD k ""), .lst (w.1.map encC)]) (ea_cons (ev_op (ev_var rfl) (ev_var rfl) (od_ixL (atI_nat (strs_get hnk)))) (ea_cons (ev_var rfl) ea_nil)) (by simp)) rfl ⟨_, rfl⟩ rfl (by rw [List.length_map]; omega) (fun H10 st10 => ⟨(), True.intro, ?_⟩)
      show Sta K [pf, p] B1 H1' [.val (.ref p), .dat (.lst (names.map D.str)), .val (.ref pf), .dat (.int ((outerT names s0 (k + 1)).2.1 : Nat)), .any, .any, .any, .any, .any, .any] [(outerT names s0 (k + 1)).1.map encT, fdD (outerT names s0 (k + 1)).2.2] σ8 H10
      rw [hY1, List.map_append]
      exact st10.le ⟨.rfl _, .rfl _, .rfl _, .rfl _, .any _, .any _, .any _, .any _, .any _, .any _, True.intro⟩
  · intro z σ3 H3 _ st3
    have st4 : Sta K [pf, p] B0 H0 [.val (.ref p), .dat (.lst (names.map D.str)), .val (.ref pf), .dat (.int ((outerT names s0 (countOf s)).2.1 : Nat)), .any, .any, .any, .any, .any, .any] [(outerT names s0 (countOf s)).1.map encT, fdD (outerT names s0 (countOf s)).2.2] σ3 H3 := by
      have z := st3
      rw [show (rangeD 0 ((countOf s : Nat) : Int).toNat).length = countOf s from by rw [rangeD_len, Int.toNat_natCast]] at z
      exact z
    have st5 := Sta.pub (i := 2) st4 hpf0 rfl
    refine st_ret st5 (ev_var rfl) ?_
    unfold tablesOf feedOf at hd
    rw [hs0, hnm] at hd
    exact hd
end
end T3
namespace SP
open PySem L2 DV PM IX
variable {K : PySem.W.Frag}
def rSMul : R2 := fun x y H Q => ∃ a k, x = .str a ∧ y = .int k ∧ MulOk a k ∧ Q (.str (Txt.mul a k)) H
theorem op_smul {X : Cx} : OpR X (binaryOp .Mult) rSMul := by
  intro pins s σ H x y v u Q I rx ry h
  obtain ⟨a, k, rfl, rfl, hok, q⟩ := h
  obtain ⟨t, rfl⟩ := rx
  obtain ⟨t', rfl⟩ := ry
  exact SB.mul hok fun t' n => ⟨.str (Txt.mul a k), H, I.tok n, ⟨t', rfl⟩, q⟩
def XS : List Str := ["x", "xx", "xxx"]
def xs (k : Nat) : Str := XS.getD k ""
theorem od_smulX {k : Nat} (hk : k < 3) : OpD K rSMul (.dat (.str "x")) (.dat (.int ((k : Int) + 1))) (.dat (.str (xs k))) := fun B H x y e h1 h2 Q q => by
  have a' : Rp K B x (.str "x") := h1
  have b' : Rp K B y (.int ((k : Int) + 1)) := h2
  cases a'; cases b'
  have m : MulOk "x" ((k : Int) + 1) ∧ Txt.mul "x" ((k : Int) + 1) = xs k := by
    match k, hk with
    | 0, _ => exact ⟨⟨by decide +kernel, by decide +kernel, by decide +kernel⟩, by decide +kernel⟩
    | 1, _ => exact ⟨⟨by decide +kernel, by decide +kernel, by decide +kernel⟩, by decide +kernel⟩
    | 2, _ => exact ⟨⟨by decide +kernel, by decide +kernel, by decide +kernel⟩, by decide +kernel⟩
  refine ⟨_, _, rfl, rfl, m.1, ?_⟩
  rw [m.2]
  exact q _ B H (Stp.refl _ _ _) e (.str _)
/-! the dict of the new names -/
def dOf : Nat → List Str → List (Key × D)
  | _, [] => []
  | j, a :: r => (Sum.inr a, .str (xs j)) :: dOf (j + 1) r
def vOf : Nat → List Str → List (Key × V)
  | _, [] => []
  | j, a :: r => (Sum.inr a, .str (xs j)) :: vOf (j + 1) r
theorem rpk_of {B : Hp} : ∀ (j : Nat) (l : List Str), RpK K B (vOf j l) (dOf j l)
  | _, [] => .nil
  | j, a :: r => .cons (.str _) (rpk_of (j + 1) r)
theorem vOf_len : ∀ (j : Nat) (l : List Str), (vOf j l).length = l.length
  | _, [] => rfl
  | j, a :: r => by show (vOf (j + 1) r).length + 1 = r.length + 1; rw [vOf_len]
theorem vOf_snoc : ∀ (j : Nat) (l : List Str) (a : Str), vOf j (l ++ [a]) = vOf j l ++ [(Sum.inr a, .str (xs (j + l.length)))]
  | _, [], _ => rfl
  | j, b :: r, a => by
    show (Sum.inr b, V.str (xs j)) :: vOf (j + 1) (r ++ [a]) = _
    rw [vOf_snoc (j + 1) r a, List.length_cons, show j + 1 + r.length = j + (r.length + 1) by omega]
    rfl
theorem vOf_mem : ∀ {j : Nat} {l : List Str} {p : Key × V}, p ∈ vOf j l → ∃ a ∈ l, p.1 = Sum.inr a
  | _, [], _, h => by cases h
  | j, b :: r, p, h => by
    rcases List.mem_cons.mp h with rfl | h
    · exact ⟨b, List.mem_cons_self, rfl⟩
    · obtain ⟨a, h1, h2⟩ := vOf_mem (j := j + 1) (l := r) h
      exact ⟨a, List.mem_cons_of_mem _ h1, h2⟩
theorem valD_dOf {n : Str} : ∀ (j : Nat) {l : List Str}, n ∈ l → valD (dOf j l) (.inr n) = some (.str (xs (j + idxN n l)))
  | _, [], h => by cases h
  | j, b :: r, h => by
    by_cases e : b = n
    · have z : idxN n (b :: r) = 0 := if_pos e
      rw [z]
      unfold valD dOf
      rw [List.find?_cons]
      simp [e]
    · have z : idxN n (b :: r) = idxN n r + 1 := if_neg e
      have h' : n ∈ r := by
        rcases List.mem_cons.mp h with q | q
        · exact absurd q.symm e
        · exact q
      have ih := valD_dOf (j + 1) h'
      rw [z, show j + (idxN n r + 1) = j + 1 + idxN n r by omega, ← ih]
      have ne : ¬ (Sum.inr b : Key) = Sum.inr n := fun q => e (Sum.inr.inj q)
      show ((((Sum.inr b, D.str (xs j)) :: dOf (j + 1) r).find? fun kv => decide (kv.1 = Sum.inr n)).map (·.2)) = _
      rw [List.find?_cons]
      simp only [ne, decide_false]
      rfl
theorem idxN_app {n : Str} : ∀ {l m : List Str}, n ∈ l → idxN n (l ++ m) = idxN n l
  | [], _, h => by cases h
  | b :: r, m, h => by
    by_cases e : b = n
    · show (if b = n then 0 else _) = (if b = n then 0 else _)
      rw [if_pos e, if_pos e]
    · have h' : n ∈ r := by
        rcases List.mem_cons.mp h with q | q
        · exact absurd q.symm e
        · exact q
      show (if b = n then 0 else idxN n (r ++ m) + 1) = (if b = n then 0 else idxN n r + 1)
      rw [if_neg e, if_neg e, idxN_app h']
/-! the renamed tables -/
def namC (names : List Str) (c : Col) : Col := (c.1 ++ "q", c.2.map fun n => xs (idxN n names))
def namT (names : List Str) (k : Nat) (t : Tab) : Tab := (xs k, t.2.map (namC names))
def namedT (T : List Tab) : List Tab := T.mapIdx (namT (T.map (·.1)))
def tgtsEarly (T : List Tab) : Prop := ∀ i t, T[i]? = some t → ∀ c ∈ t.2, ∀ n, c.2 = some n → n ∈ (T.take i).map (·.1)
def preNamed : Pre := fun rs Pl cs r cs' => ∃ T, rs = [.dat (encTs T)] ∧ schOk T ∧ tgtsEarly T ∧ Pl = [] ∧ cs = [] ∧ r = .dat (encTs (namedT T)) ∧ cs' = []
/-! a dict is told no more -/
def rmH (B : Hp) (p : Addr) : Hp := fun b => if b = p then none else B b
theorem rm_ne {B : Hp} {p b : Addr} (h : b ≠ p) : rmH B p b = B b := if_neg h
theorem rm_eq {B : Hp} {p : Addr} : rmH B p p = none := if_pos rfl
mutual
theorem Rp.rm {B : Hp} {p : Addr} {kvs : List (Key × V)} (hb : B p = some (.dK kvs)) : ∀ {v : V} {d : D}, Rp K B v d → d.pl = true → Rp K (rmH B p) v d
  | _, _, .non, _ => .non
  | _, _, .bl b, _ => .bl b
  | _, _, .int i, _ => .int i
  | _, _, .str x, _ => .str x
  | _, _, .lst (a := a) h r, q => .lst (by rw [rm_ne (fun z => by rw [z, hb] at h; cases h)]; exact h) (RpA.rm hb r (by simpa [D.pl] using q))
  | _, _, .tup (a := a) h r, q => .tup (by
      rcases h with h | ⟨o, h⟩
      · exact .inl (by rw [rm_ne (fun z => by rw [z, hb] at h; cases h)]; exact h)
      · exact .inr ⟨o, by rw [rm_ne (fun z => by rw [z, hb] at h; cases h)]; exact h⟩) (RpA.rm hb r (by simpa [D.pl] using q))
  | _, _, .dic _ _, q => by simp [D.pl] at q
  | _, _, .obj _ _, q => by simp [D.pl] at q
  | _, _, .fro _ _, q => by simp [D.pl] at q
  | _, _, .nt _ _ _, q => by simp [D.pl] at q
theorem RpA.rm {B : Hp} {p : Addr} {kvs : List (Key × V)} (hb : B p = some (.dK kvs)) : ∀ {vs : List V} {ds : List D}, RpA K B vs ds → D.plA ds = true → RpA K (rmH B p) vs ds
  | _, _, .nil, _ => .nil
  | _, _, .cons h r, q => .cons (Rp.rm hb h (by simp [D.plA] at q; exact q.1)) (RpA.rm hb r (by simp [D.plA] at q; exact q.2))
end
theorem plA_map {α : Type} {f : α → D} (h : ∀ a, (f a).pl = true) : ∀ l : List α, D.plA (l.map f) = true
  | [] => rfl
  | a :: r => by simp [D.plA, h a, plA_map h r]
theorem encC_pl (c : Col) : (encC c).pl = true := by
  obtain ⟨n, t⟩ := c
  cases t <;> rfl
theorem encT_pl (t : Tab) : (encT t).pl = true := by
  have := plA_map encC_pl t.2
  simp [encT, D.pl, D.plA, this]
theorem encTs_pl (T : List Tab) : (encTs T).pl = true := by
  have := plA_map encT_pl T
  simpa [encTs, D.pl] using this
theorem slots_re {B : Hp} {σ : L2.St} {ss : List Sl} {i : Nat} {w : V} {r : Sl} (h : Slots K B σ ss) (hi : σ[i]? = some (some w)) (hr : RS K B w r) : Slots K B σ (ss.set i r) := by
  have e : σ.set i (some w) = σ := by
    apply List.ext_getElem?
    intro j
    rw [List.getElem?_set]
    by_cases hj : i = j
    · subst hj
      rw [if_pos rfl, if_pos (List.getElem?_eq_some_iff.mp hi).1, hi]
    · rw [if_neg hj]
  have := h.set (i := i) hr
  rw [e] at this
  exact this
theorem slots_rm {B : Hp} {p : Addr} {kvs : List (Key × V)} (hb : B p = some (.dK kvs)) {σ : L2.St} {ss : List Sl} (h : Slots K B σ ss) (hp : ∀ r ∈ ss, ∀ d, r = .dat d → d.pl = true) : Slots K (rmH B p) σ ss :=
  ⟨h.len, fun i r a b => by
    obtain ⟨v, h1, h2⟩ := h.get i r a b
    refine ⟨v, h1, ?_⟩
    cases r with
    | any => exact True.intro
    | val u => exact h2
    | dat d => exact Rp.rm hb h2 (hp _ (List.mem_of_getElem? a) d rfl)⟩
theorem idxN_nodup {a : Str} : ∀ {l : List Str} {i : Nat}, l.Nodup → l[i]? = some a → idxN a l = i
  | [], i, _, h => by simp at h
  | b :: r, 0, _, h => by
    have e : b = a := by simpa using h
    exact if_pos e
  | b :: r, i + 1, nd, h => by
    have h' : r[i]? = some a := by simpa using h
    have nd' : b ∉ r ∧ r.Nodup := by simpa using nd
    have ne : ¬ b = a := fun z => nd'.1 (z ▸ List.mem_of_getElem? h')
    show (if b = a then 0 else idxN a r + 1) = i + 1
    rw [if_neg ne, idxN_nodup nd'.2 h']
end SP
/-! K2: repr of plain data. -/
namespace SP
open PySem L2 DV PM IX
def keyPy : Key → PyData
  | .inl i => .int i
  | .inr x => .str x
mutual
def D.pyR : D → PyData
  | .non => .none
  | .bl b => .bool b
  | .int i => .int i
  | .str x => .str x
  | .lst ds => .list (D.pyRA ds)
  | .tup ds => .tuple (D.pyRA ds)
  | .nt ds => .tuple (D.pyRA ds)
  | .dic ks => .dict (D.pyRK ks)
  | .fro _ => .none
  | .obj _ _ => .none
def D.pyRA : List D → List PyData
  | [] => []
  | d :: ds => D.pyR d :: D.pyRA ds
def D.pyRK : List (Key × D) → List (PyData × PyData)
  | [] => []
  | (k, d) :: ds => (keyPy k, D.pyR d) :: D.pyRK ds
end
mutual
/-- no instance, no script -/
def D.okR : D → Bool
  | .lst ds => D.okRA ds
  | .tup ds => D.okRA ds
  | .nt ds => D.okRA ds
  | .dic ks => D.okRK ks
  | .fro _ => false
  | .obj _ _ => false
  | _ => true
def D.okRA : List D → Bool
  | [] => true
  | d :: ds => D.okR d && D.okRA ds
def D.okRK : List (Key × D) → Bool
  | [] => true
  | (_, d) :: ds => D.okR d && D.okRK ds
end
mutual
/-- no list -/
def D.noL : D → Bool
  | .lst _ => false
  | .tup ds => D.noLA ds
  | .nt ds => D.noLA ds
  | .dic ks => D.noLK ks
  | _ => true
def D.noLA : List D → Bool
  | [] => true
  | d :: ds => D.noL d && D.noLA ds
def D.noLK : List (Key × D) → Bool
  | [] => true
  | (_, d) :: ds => D.noL d && D.noLK ds
end
section
variable {X : Cx} {pins : List (Addr × Obj)} {σ : L2.St} {B H : Hp} {s : Shared}
theorem keys_read {h : Heap} {P : Program} {w : World} : ∀ {es : List DictEntry} {vs : List (Key × Value)} {kvs : List (Key × V)} {ks : List (Key × D)}, PySem.Pairs (mixKind P w) es vs → KV kvs vs → kvs.map (·.1) = ks.map (·.1) → ReadsAll h (es.map (·.key)) ((D.pyRK ks).map (·.1)) []
  | [], _, _, [], .nil, .nil, _ => ReadsAll.nil
  | [], _, _, _ :: _, .nil, .nil, h => by cases h
  | _ :: _, _, _, [], .cons _ _ _, .cons _ _, h => by cases h
  | e :: es, _, _, (k, d) :: ks, .cons h1 h2 h3, .cons q1 q2, hk => by
    rename_i kv' kvs' kv vs'
    have e1 : kv.1 = k := by
      have := (List.cons.inj hk).1
      simpa using this
    have e2 : kv.1 = kv'.1 := q1.1
    have ih := keys_read (h := h) h3 q2 (List.cons.inj hk).2
    rcases keyIs_shape (k := kv'.1) (v := e.key) h1 with ⟨i, t, a, b⟩ | ⟨x, t, a, b⟩
    · have ek : k = Sum.inl i := by rw [← e1, e2]; exact a
      subst ek
      show ReadsAll h (e.key :: es.map (·.key)) (PyData.int i :: _) []
      rw [b]
      exact ReadsAll.cons (Reads.int i t) ih
    · have ek : k = Sum.inr x := by rw [← e1, e2]; exact a
      subst ek
      show ReadsAll h (e.key :: es.map (·.key)) (PyData.str x :: _) []
      rw [b]
      exact ReadsAll.cons (Reads.str x t) ih
theorem RpK.keys {K : PySem.W.Frag} : ∀ {kvs : List (Key × V)} {ks : List (Key × D)}, RpK K B kvs ks → kvs.map (·.1) = ks.map (·.1)
  | _, _, .nil => rfl
  | _, _, .cons _ r => by rw [List.map_cons, List.map_cons, RpK.keys r]
mutual
theorem Rp.reads (I : Inv X pins σ H s) (e : Ex B H) : ∀ {v : V} {d : D} {u : Value}, Rp X.K B v d → D.okR d = true → RelV v u → ∃ as, Reads s.heap u (D.pyR d) as ∧ (D.noL d = true → sysModules ∉ as)
  | _, _, _, .non, _, r => by cases r; exact ⟨_, Reads.none, fun _ => by simp⟩
  | _, _, _, .bl b, _, r => by cases r; exact ⟨_, Reads.bool b, fun _ => by simp⟩
  | _, _, _, .int i, _, r => by obtain ⟨t, rfl⟩ := r; exact ⟨_, Reads.int i t, fun _ => by simp⟩
  | _, _, _, .str x, _, r => by obtain ⟨t, rfl⟩ := r; exact ⟨_, Reads.str x t, fun _ => by simp⟩
  | _, _, _, .lst h ra, ok, r => by
    cases r
    obtain ⟨its, rv, ⟨o, n, ho, hc, _, hd⟩, _⟩ := I.list (.inl (.inl (e _ _ h)))
    obtain ⟨as, hr, _⟩ := RpA.reads I e ra ok rv
    exact ⟨_, Reads.list ho hc hd hr, fun z => by cases z⟩
  | _, _, _, .tup h ra, ok, r => by
    cases r
    obtain ⟨its, rv, ⟨o, ho, hc, n, hd⟩, _⟩ := I.tuple (.inl (RdEx e h))
    obtain ⟨as, hr, hs⟩ := RpA.reads I e ra ok rv
    exact ⟨_, Reads.tuple ho hc hd hr, hs⟩
  | _, _, _, .nt h _ ra, ok, r => by
    cases r
    obtain ⟨its, rv, ⟨o, ho, hc, n, hd⟩, _⟩ := I.tuple (.inl (.inr ⟨_, e _ _ h⟩))
    obtain ⟨as, hr, hs⟩ := RpA.reads I e ra ok rv
    exact ⟨_, Reads.tuple ho hc hd hr, hs⟩
  | _, _, _, .dic (a := a) h rk, ok, r => by
    cases r
    obtain ⟨_, hsm, vs, hkv, o, es, ep, ho, hx, hd, _, hp, _⟩ := I.hok _ _ (e _ _ h)
    obtain ⟨as, hr, hs⟩ := RpK.reads I e rk ok hkv hp
    refine ⟨_, Reads.dict ho hx.1 hd (keys_read hp hkv (RpK.keys rk)) hr, fun z => ?_⟩
    intro m
    rcases List.mem_append.mp m with m | m
    · rcases List.mem_cons.mp m with q | q
      · rw [← q] at hsm
        simp at hsm
      · cases q
    · exact hs z m
  | _, _, _, .fro _ _, ok, _ => by cases ok
  | _, _, _, .obj _ _, ok, _ => by cases ok
theorem RpA.reads (I : Inv X pins σ H s) (e : Ex B H) : ∀ {vs : List V} {ds : List D} {us : List Value}, RpA X.K B vs ds → D.okRA ds = true → Vals vs us → ∃ as, ReadsAll s.heap us (D.pyRA ds) as ∧ (D.noLA ds = true → sysModules ∉ as)
  | _, _, _, .nil, _, r => by cases r; exact ⟨_, ReadsAll.nil, fun _ => by simp⟩
  | _, _, _, .cons h ra, ok, r => by
    have ok' := ok
    simp only [D.okRA, Bool.and_eq_true] at ok'
    cases r with
    | cons r1 r2 =>
      obtain ⟨as, q1, s1⟩ := Rp.reads I e h ok'.1 r1
      obtain ⟨bs, q2, s2⟩ := RpA.reads I e ra ok'.2 r2
      refine ⟨_, ReadsAll.cons q1 q2, fun z => ?_⟩
      simp only [D.noLA, Bool.and_eq_true] at z
      exact fun m => (List.mem_append.mp m).elim (s1 z.1) (s2 z.2)
theorem RpK.reads (I : Inv X pins σ H s) (e : Ex B H) : ∀ {vs : List (Key × V)} {ds : List (Key × D)} {us : List (Key × Value)} {es : List DictEntry}, RpK X.K B vs ds → D.okRK ds = true → KV vs us → PySem.Pairs (mixKind X.prog X.w) es us → ∃ as, ReadsAll s.heap (es.map (·.val)) ((D.pyRK ds).map (·.2)) as ∧ (D.noLK ds = true → sysModules ∉ as)
  | _, _, _, _, .nil, _, r, p => by cases r; cases p; exact ⟨_, ReadsAll.nil, fun _ => by simp⟩
  | _, _, _, _, .cons h ra, ok, r, p => by
    have ok' := ok
    simp only [D.okRK, Bool.and_eq_true] at ok'
    cases r with
    | cons r1 r2 =>
      cases p with
      | cons p1 p2 p3 =>
        obtain ⟨as, q1, s1⟩ := Rp.reads I e h ok'.1 r1.2
        obtain ⟨bs, q2, s2⟩ := RpK.reads I e ra ok'.2 r2 p3
        refine ⟨as ++ bs, ?_, fun z => ?_⟩
        · rw [List.map_cons, p2]
          exact ReadsAll.cons q1 q2
        · simp only [D.noLK, Bool.and_eq_true] at z
          exact fun m => (List.mem_append.mp m).elim (s1 z.1) (s2 z.2)
end
end
/-- what may be shown -/
structure Sho (d : D) : Prop where
  ok : D.okR d = true
  sh : (D.pyR d).showable = true
  dp : (D.pyR d).depth ≤ 60
  dc : (D.pyR d).hasDict = true → D.noL d = true
  ln : (D.pyR d).shown.length ≤ 1000000
def rReprD (K : PySem.W.Frag) : List V → Hp → VK → Prop := fun xs H Q => ∃ x d B, xs = [x] ∧ Ex B H ∧ Rp K B x d ∧ Sho d ∧ Q (.str (D.pyR d).shown) H
open PySem.Spec PyProof.Rows in
theorem call_reprD {X : Cx} {k : Nat} (hr : Room k X.A) (hg : X.A.guards = some []) : CallR X (.builtin "repr") (rReprD X.K) := by
  intro pins s σ H xs us Q I r h
  obtain ⟨x, d, B, rfl, e, hx, hs, q⟩ := h
  obtain ⟨u, rfl, rx⟩ := vals1 r
  have hu := hr.units
  have hln := le_line hs.ln
  have key : ∀ {a : Addr}, u = .ref a → wpAny (model X.prog X.w) X.A (call (.builtin "repr") [u]) (EP X pins σ Q) X.xe s := fun {a} ea => by
    obtain ⟨as, rd, hsm⟩ := Rp.reads I e hx hs.ok rx
    subst ea
    have hdp := hs.dp
    exact repr_of_reads' rd hs.sh (fun z => hsm (hs.dc z)) hg (by omega) (fun _ _ q => q) (fun h' u tk kp => ⟨.str _, H, I.kept (t' := tk) kp, ⟨u, rfl⟩, q⟩) hln
  cases hx with
  | non => cases rx; exact PySem.P.repr_of_none ⟨.str _, H, I.tok _, ⟨_, rfl⟩, q⟩
  | bl b => cases rx; exact PySem.P.repr_of_bool ⟨.str _, H, I.tok _, ⟨_, rfl⟩, q⟩
  | int i => obtain ⟨t, rfl⟩ := rx; exact PySem.P.repr_of_int (of_decide_eq_true hs.sh) ⟨.str _, H, I.tok _, ⟨_, rfl⟩, q⟩
  | str y => obtain ⟨t, rfl⟩ := rx; exact PySem.P.repr_of_str ⟨.str _, H, I.tok _, ⟨_, rfl⟩, q⟩ hln
  | lst _ _ => exact key rx
  | tup _ _ => exact key rx
  | nt _ _ _ => exact key rx
  | dic _ _ => exact key rx
  | obj _ _ => exact key rx
  | fro _ _ => exact key rx
theorem cb_reprD {K : PySem.W.Frag} {d : D} (h : Sho d) : CbD K (rReprD K) [.dat d] (.dat (.str (D.pyR d).shown)) := fun B H vs e hv Q q => by
  obtain ⟨v, rfl, h1⟩ := rs1 hv
  exact ⟨v, d, B, rfl, e, h1, h, q _ B H (Stp.refl _ _ _) e (.str _)⟩
end SP
/-! CG: is_within and is_row for values of any kind. -/
namespace SP
open PySem L2 DV PM
/-- the name of the built-in type -/
def tyN : D → Option String
  | .non => some "NoneType"
  | .bl _ => some "bool"
  | .int _ => some "int"
  | .str _ => some "str"
  | .lst _ => some "list"
  | .tup _ => some "tuple"
  | .nt _ => some "tuple"
  | .dic _ => some "dict"
  | .obj _ _ => none
  | .fro _ => none
def withD (d : D) (lo hi : Int) : Bool := match d with
  | .int v => decide (lo ≤ v) && decide (v ≤ hi)
  | _ => false
def rowG (cols : List Col) (d : D) : Bool := match d with
  | .tup ds => decide (ds.length = 1 + cols.length) && ((List.zip ds (lowsOf cols)).all fun p => withD p.1 p.2 1000000)
  | _ => false
def preWithinG : Pre := fun rs Pl cs r cs' => ∃ d t, ∃ lo hi : Int, rs = [.dat d, .dat (.int lo), .dat (.int hi)] ∧ tyN d = some t ∧ Pl = [] ∧ cs = [] ∧ r = .dat (.bl (withD d lo hi)) ∧ cs' = []
def notNt : D → Bool
  | .nt _ => false
  | _ => true
def preIsRowG (C : Addr) : Pre := fun rs Pl cs r cs' => ∃ T n cols d t, rs = [.dat (schD C T), .dat (.str n), .dat d] ∧ T.lookup n = some cols ∧ cols.length ≤ 1000 ∧ tyN d = some t ∧ notNt d = true ∧
  (∀ ds, d = .tup ds → ds.length ≤ 1000 ∧ ∀ e ∈ ds, ∃ u, tyN e = some u) ∧ Pl = [] ∧ cs = [] ∧ r = .dat (.bl (rowG cols d)) ∧ cs' = []
section
variable {K : PySem.W.Frag}
theorem tyX_of {B H : Hp} {v : V} {d : D} {t : String} (e : Ex B H) (h : Rp K B v d) (ht : tyN d = some t) : TyX K H v (.type t) := by
  cases h with
  | non => cases ht; exact .base .non
  | bl b => cases ht; exact .base (.bl b)
  | int i => cases ht; exact .base (.int i)
  | str x => cases ht; exact .base (.str x)
  | lst h _ => cases ht; exact .base (.lst (e _ _ h))
  | tup h _ =>
    cases ht
    rcases RdEx e h with h | ⟨o, h⟩
    · exact .base (.tup h)
    · exact .fTuple h
  | nt h _ _ => cases ht; exact .fTuple (e _ _ h)
  | dic h _ => cases ht; exact .base (.dK (e _ _ h))
  | obj _ _ => cases ht
  | fro _ _ => cases ht
theorem cb_isG {d : D} {t n : String} {b : Bool} (ht : tyN d = some t) (hk : kitB t n = some b) : CbD K (rIsi K) [.dat d, .val (.ty n)] (.dat (.bl b)) := fun B H vs e h Q q => by
  obtain ⟨v, v', rfl, h1, h2⟩ := rs2 h
  exact ⟨v, v', .type t, .type n, b, rfl, by rw [show v' = V.ty n from h2]; exact .ty _, tyX_of e h1 ht, kit_ty hk, q _ B H (Stp.refl _ _ _) e (.bl _)⟩
def isTy (d : D) (n : String) : Bool := match d, n with
  | .tup _, "tuple" => true
  | .nt _, "tuple" => true
  | .int _, "int" => true
  | .bl _, "int" => true
  | .bl _, "bool" => true
  | _, _ => false
theorem kit_all : ∀ t ∈ ["NoneType", "bool", "int", "str", "list", "tuple", "dict"], kitB t "tuple" = some (t == "tuple") ∧ kitB t "int" = some (t == "int" || t == "bool") ∧ kitB t "bool" = some (t == "bool") := by decide +kernel
theorem tyN_mem {d : D} {t : String} (h : tyN d = some t) : t ∈ ["NoneType", "bool", "int", "str", "list", "tuple", "dict"] := by
  cases d <;> cases h <;> decide
end
end SP
namespace T3
open PySem L2 DV PM SP
section
variable {P : Program} {w : World} {K : PySem.W.Frag} {mg : Str → Option Value} {base : Heap} {C : Addr}
theorem ok_withinG {f : Addr} {fd : FuncData} (F : Fun K "is_within" "is_within" s_is_within f fd) (b_isinstance : mg "isinstance" = none) (b_int : mg "int" = none) (b_bool : mg "bool" = none) : FnOk P w K mg base CX0 1 f fd ["value", "low", "high"] (spM K preWithinG) := by
  refine ok_body F sc_is_within (fun rs Pl cs r cs' h => ?_) (fun X hX hr => ?_)
  · obtain ⟨d, t, lo, hi, rfl, _⟩ := h
    rfl
  obtain ⟨cdv, A, outer, s, H, E, rfl⟩ := hX
  have nd := sc_is_within.nd
  refine ⟨_, (pss_one (ps_ret (pe_and (pe_callB call_isi (by rfl) b_isinstance (by decide +kernel) (pa_cons (pv 0) (pa_cons (pe_bltn (v := .ty "int") (by rfl) b_int (by decide +kernel) rfl) pa_nil))) (pe_and (pe_not (pe_callB call_isi (by rfl) b_isinstance (by decide +kernel) (pa_cons (pv 0) (pa_cons (pe_bltn (v := .ty "bool") (by rfl) b_bool (by decide +kernel) rfl) pa_nil)))) (pe_one (pe_chain op_le op_le (pv 1) (pv 0) (pv 2))))))), ?_⟩
  intro rs Pl cs r cs' hp B0 H0 σ Dn st hP hd hn
  obtain ⟨d, t, lo, hi, rfl, ht, rfl, rfl, rfl, rfl⟩ := hp
  obtain ⟨_, k1, k2⟩ := kit_all t (tyN_mem ht)
  have e : ((t == "int" || t == "bool") && ((!(t == "bool")) && withD d lo hi)) = withD d lo hi := by
    cases d <;> cases ht <;> first | rfl | (unfold withD; simp)
  rw [← e] at hd
  refine st_ret st (ev_andV (ev_cb (ea_cons (ev_var rfl) (ea_cons ev_val ea_nil)) (cb_isG ht k1)) (fun h1 => ev_andV (ev_notV (ev_cb (ea_cons (ev_var rfl) (ea_cons ev_val ea_nil)) (cb_isG ht k2))) (fun h2 => ?_))) hd
  have hi' : ∃ v, d = .int v := by
    cases d <;> cases ht <;> first | exact ⟨_, rfl⟩ | (exfalso; revert h1 h2; decide)
  obtain ⟨v, rfl⟩ := hi'
  exact ev_chain (cs3 := []) (ev_var rfl) (ev_var rfl) (fun _ => ev_var rfl)
theorem ok_is_rowG {f fW fC : Addr} {fd fdW fdC : FuncData} (F : Fun K "is_row" "is_row" s_is_row f fd) (G_is_within : Def P w K mg base 1 "is_within" fW fdW ["value", "low", "high"] (spM K preWithinG)) (cls_S : Cls K C) (M_columns : Meth K C "columns" fC) (G_columns : FnOk P w K mg base CX0 1 fC fdC ["self", "table"] (spM K (preCols C))) (B_columns : Binds K fdC ["self", "table"] [])
    (b_isinstance : mg "isinstance" = none) (b_tuple : mg "tuple" = none) (b_len : mg "len" = none) (b_all : mg "all" = none) (b_zip : mg "zip" = none) (g_LARGEST : ∃ t, mg "LARGEST" = some (.int 1000000 t)) :
    FnOk P w K mg base CX0 2 f fd ["schema", "table", "value"] (spM K (preIsRowG C)) := by
  obtain ⟨tk, g_LARGEST⟩ := g_LARGEST
  refine ok_body F sc_is_row (fun rs Pl cs r cs' h => ?_) (fun X hX hr => ?_)
  · obtain ⟨T, n, cols, d, t, rfl, _⟩ := h
    rfl
  obtain ⟨cdv, A, outer, s, H, E, rfl⟩ := hX
  have nd := sc_is_row.nd
  refine ⟨_, (pss_cons (ps_set (i := 3) nd rfl (.inl rfl) (pe_meth (pv 0) cls_S M_columns G_columns (hr.mono (by decide)) B_columns .nil pass0 (pa_cons (pv 1) pa_nil)))
      (pss_cons (ps_if (PW.pt (pw_or (pt_not (pt_val (pe_callB call_isi (by rfl) b_isinstance (by decide +kernel) (pa_cons (pv 2) (pa_cons (pe_bltn (v := .ty "tuple") (by rfl) b_tuple (by decide +kernel) rfl) pa_nil))))) (pw_or1 (pt_cmpR (op_neA hr.units) (pe_callB call_len1 (by rfl) b_len PySem.boot_len (pa_cons (pv 2) pa_nil)) (pe_op op_addA pe_int (pe_callB call_len1 (by rfl) b_len PySem.boot_len (pa_cons (pv 3) pa_nil))) (nomark _))))) (pss_one (ps_ret pe_bl)) pss_nil)
      (pss_cons (ps_set (i := 4) nd rfl (.inl rfl) (pe_op op_addA (pe_lst (pa_cons pe_int pa_nil)) (pe_lc (own := [("name", 5), ("target", 6)]) (g := (gTup K 2 (gCons (gName 5) (gCons (gName 6) gNil)))) (tt := tYes) (te := (tIf (tTest (tOp rIsN (tVar 6) (tC .non))) (tUn (rU fun i => .int (-i)) (tC (.int 1000000))) (tC (.int 0)))) rfl nd (pi_tup (pv 3)) (blkOk_by (N := N_is_row) (sc := defScope s_is_row) (by decide +kernel)) (by intro _ _ _ _ _; exact (pg_tup (by rfl) (by exact (pgs_cons (by exact (pg_name (i := 5) nd (by rfl) (by first | exact .inl rfl | exact .inr rfl))) (by exact (pgs_cons (by exact (pg_name (i := 6) nd (by rfl) (by first | exact .inl rfl | exact .inr rfl))) (by exact pgs_nil))))))) (by intro _ _ _ _ _; exact pts_nil) (by intro _ _ _ _ _; exact (pe_ifExp (pt_cmpR op_isN' (pv 6) pe_non (nomark _)) (pe_un un_neg (pe_glob (v := .int 1000000) rfl g_LARGEST ⟨_, rfl⟩)) pe_int)))))
      (pss_one (ps_ret (pe_callB (cr_all rfl) (by rfl) b_all (by decide +kernel) (pa_cons (pe_lc (own := [("part", 7), ("low", 8)]) (g := (gTup K 2 (gCons (gName 7) (gCons (gName 8) gNil)))) (tt := tYes) (te := (tCall _ [] E0 (tCons (tVar 7) (tCons (tVar 8) (tCons (tC (.int 1000000)) tNil))))) rfl nd (ZM.pi_zipM (by rfl) b_zip (pa_cons (pv 2) (pa_cons (pv 4) pa_nil))) (blkOk_by (N := N_is_row) (sc := defScope s_is_row) (by decide +kernel)) (by intro _ _ _ _ _; exact (pg_tup (by rfl) (by exact (pgs_cons (by exact (pg_name (i := 7) nd (by rfl) (by first | exact .inl rfl | exact .inr rfl))) (by exact (pgs_cons (by exact (pg_name (i := 8) nd (by rfl) (by first | exact .inl rfl | exact .inr rfl))) (by exact pgs_nil))))))) (by intro _ _ _ _ _; exact pts_nil) (by intro _ _ _ _ _; exact (pe_def G_is_within hr (by decide) (by rfl) (pa_cons (pv 7) (pa_cons (pv 8) (pa_cons (pe_glob (v := .int 1000000) rfl g_LARGEST ⟨_, rfl⟩) pa_nil)))))) pa_nil))))))), ?_⟩
  intro rs Pl cs r cs' hp B0 H0 σ Dn st hP hd hn
  obtain ⟨T, n, cols, d, t, rfl, hT, hc, ht, hnt, hds, rfl, rfl, rfl, rfl⟩ := hp
  obtain ⟨k0, _, _⟩ := kit_all t (tyN_mem ht)
  refine st_seq (st_asg (i := 3) (r := .dat (.tup (cols.map encC))) st (ev_meth1 (ev_var rfl) rfl (ea_cons (ev_var rfl) ea_nil) ⟨T, n, cols, rfl, hT, rfl, rfl, rfl, rfl⟩) (fun σ1 H1 st1 => ?_))
  dsimp only []
  by_cases hty : t = "tuple"
  · obtain ⟨ds, rfl⟩ : ∃ ds, d = .tup ds := by
      subst hty
      cases d <;> first | exact ⟨_, rfl⟩ | (cases hnt; done) | (exfalso; simp [tyN] at ht; done)
    obtain ⟨hl, hel⟩ := hds ds rfl
    refine st_seq (st_if (cs1 := []) (b := (!(t == "tuple") || !decide ((ds.length : Int) = 1 + ((cols.map encC).length : Int)))) st1 (et_or (et_not (et_B (ev_cb (ea_cons (ev_var rfl) (ea_cons ev_val ea_nil)) (cb_isG ht k0)))) (fun _ => et_test (ev_op (ev_cb (ea_cons (ev_var rfl) ea_nil) cb_lenT) (ev_op ev_int (ev_cb (ea_cons (ev_var rfl) ea_nil) cb_lenT) od_addI) od_neI))) (fun hb H2 st2 => ?_) (fun hb H2 st2 => ?_))
    · have e : rowG cols (.tup ds) = false := by
        have h1 : ¬ ds.length = 1 + cols.length := by
          intro z
          rw [List.length_map, z, hty] at hb
          simp at hb
        unfold rowG
        simp only [decide_eq_false h1, Bool.false_and]
      rw [e] at hd
      exact st_ret st2 ev_bl hd
    · have h1 : ds.length = 1 + cols.length := by
        rw [List.length_map, hty] at hb
        simp at hb
        omega
      have e : rowG cols (.tup ds) = (((List.zip ds (lowsOf cols)).map fun p => withD p.1 p.2 1000000).all id) := by
        unfold rowG
        simp only [decide_eq_true h1, Bool.true_and, List.all_map]
        rfl
      rw [e] at hd
      refine st_ns ?_
      refine st_seq (st_asg (cs1 := []) (i := 4) (r := .dat (.lst ((lowsOf cols).map D.int))) st2 ?_ (fun σ3 H3 st3 => ?_))
      · have e2 : (lowsOf cols).map D.int = [D.int 0] ++ cols.map (fun c => D.int (if c.2.isNone then -1000000 else 0)) := by
          unfold lowsOf
          rw [List.map_cons, List.map_map]
          rfl
        rw [e2]
        refine ev_op (ev_lst (ds := [_]) (ea_cons ev_int ea_nil) (by simp)) (EvF.ev (ef_mapE (l := cols) (enc := encC) (wd_tup (ev_var rfl)) (fun c => D.int (if c.2.isNone then -1000000 else 0)) (by omega) (fun p i c acc hd' => ?_))) (od_addL (by simp; omega))
        obtain ⟨n', t⟩ := c
        cases t with
        | none => exact ⟨_, _, g_tup (g_cons g_name (g_cons g_name g_nil)), by decide, ev_if (b := true) (et_test (ev_op (ev_var rfl) ev_non od_isN)) (fun _ => ev_un (r1 := .dat (.int 1000000)) ev_int un_negD) (fun z => by cases z)⟩
        | some t => exact ⟨_, _, g_tup (g_cons g_name (g_cons g_name g_nil)), by decide, ev_if (b := false) (et_test (ev_op (ev_var rfl) ev_non od_isN)) (fun z => by cases z) (fun _ => ev_int)⟩
      · have e3 : zipD ds ((lowsOf cols).map D.int) = (List.zip ds (lowsOf cols)).map fun p => D.tup [p.1, .int p.2] := by
          unfold zipD
          rw [List.zipWith_map_right, List.zip, List.map_zipWith]
        dsimp only []
        refine st_ret st3 (ev_cb (ea_cons (EvF.ev (?_ : EvF _ _ _ _ _ (((List.zip ds (lowsOf cols)).map fun p => withD p.1 p.2 1000000).map D.bl) _)) ea_nil) cb_all) hd
        rw [List.map_map]
        refine ef_mapE (l := List.zip ds (lowsOf cols)) (enc := fun p => D.tup [p.1, .int p.2]) (e3 ▸ wd_zipM (ea_cons (ev_var rfl) (ea_cons (ev_var rfl) ea_nil))) _ (by rw [List.length_zip]; omega) (fun p i x acc hd' => ?_)
        obtain ⟨u, hu⟩ := hel x.1 (List.of_mem_zip (List.mem_of_getElem? hd')).1
        exact ⟨_, _, g_tup (g_cons g_name (g_cons g_name g_nil)), by decide, ev_call0 (ea_cons (ev_var rfl) (ea_cons (ev_var rfl) (ea_cons ev_int ea_nil))) ⟨_, u, _, _, rfl, hu, rfl, rfl, rfl, rfl⟩⟩
  · have eb : (t == "tuple") = false := by simpa using hty
    have e : rowG cols d = false := by
      cases d <;> first | rfl | (exfalso; cases ht; exact hty rfl)
    rw [e] at hd
    rw [eb] at k0
    refine st_seq (st_if (cs1 := []) (b := (!false || true)) st1 (et_or (b := true) (et_not (et_B (ev_cb (ea_cons (ev_var rfl) (ea_cons ev_val ea_nil)) (cb_isG ht k0)))) (fun z => by cases z)) (fun hb H2 st2 => ?_) (fun hb H2 st2 => by cases hb))
    exact st_ret st2 ev_bl hd
end
end T3
/-! ZN: zip of a list and a tuple, by the library's zip over two iterators of any kind. -/
namespace ZN
open PySem PySem.Spec PyProof.Rows L2 RZ
/-- what a turn of zip(list, tuple) gives -/
def ItzN (K : PySem.W.Frag) (a b : Addr) (n m : Nat) : It where
  go i H := ∃ xs ys x y, SqL K H a xs ∧ SqT K H b ys ∧ xs[i]? = some x ∧ ys[i]? = some y ∧ xs.length = n ∧ ys.length = m
  yld i H v H' := ∃ T x y, v = .ref T ∧ H T = none ∧ H' = upd H T (.tup [x, y]) ∧ (∀ xs, SqL K H a xs → xs[i]? = some x) ∧ ∀ ys, SqT K H b ys → ys[i]? = some y
  stop i H := ∃ xs ys, SqL K H a xs ∧ SqT K H b ys ∧ xs.length = n ∧ ys.length = m ∧ min n m ≤ i
/-- the five cells of it between two turns -/
def Cells (z TI TO i1 i2 a b : Addr) (N i : Nat) (h : Heap) : Prop := i ≤ N ∧ IsZip h z TI TO .none ∧ IsPair h TI (.ref i1) (.ref i2) ∧ (∃ x y, IsPair h TO x y) ∧ h.IsListIter i1 a i ∧ h.IsTupleIter i2 b i
theorem sepOf {z TI TO i1 i2 a b : Addr} (D : ZipApart z TI TO i1 i2 a b) : ZipSep2 z TI TO i1 i2 [i1, a] [i2, b] where
  TIz := D.TIz
  TOz := D.TOz
  TITO := D.TITO
  TIi1 := D.TIi1
  mem1 := by simp
  zf1 := by simp [Ne.symm D.i1z, Ne.symm D.l1z]
  Tf1 := by simp [D.TOi1, Ne.symm D.l1TO]
  TIi2 := D.TIi2
  mem2 := by simp
  zf2 := by simp [Ne.symm D.i2z, Ne.symm D.l2z]
  Tf2 := by simp [D.TOi2, Ne.symm D.l2TO]
  sep1_2 := by simp [D.i12, Ne.symm D.l2i1]
  sep2_1 := by simp [Ne.symm D.i12, Ne.symm D.l1i2]
theorem cases5 {c z TI TO i1 i2 : Addr} (h : c ∈ [z, TI, TO, i1, i2]) : c = z ∨ c = TI ∨ c = TO ∨ c = i1 ∨ c = i2 := by simpa using h
theorem cell_obj {z TI TO i1 i2 a b c : Addr} {N i : Nat} {h : Heap} (st : Cells z TI TO i1 i2 a b N i h) (hc : c ∈ [z, TI, TO, i1, i2]) : ∃ o, h.get? c = some o ∧ ∀ v, o.data ≠ .cell v := by
  obtain ⟨_, p1, p2, ⟨_, _, p3⟩, ⟨o4, p4, _, d4⟩, ⟨o5, p5, _, d5⟩⟩ := st
  rcases cases5 hc with rfl | rfl | rfl | rfl | rfl
  · exact ⟨_, p1, nofun⟩
  · exact ⟨_, p2, nofun⟩
  · exact ⟨_, p3, nofun⟩
  · exact ⟨o4, p4, fun v e => by rw [d4] at e; cases e⟩
  · exact ⟨o5, p5, fun v e => by rw [d5] at e; cases e⟩
theorem turnN {P : Program} {w : World} {K : PySem.W.Frag} {elts : List Expr} {kk : Nat} {tpos : Pos} {a b z TI TO i1 i2 : Addr} {n m : Nat} (D : ZipApart z TI TO i1 i2 a b) : Turn P w K (.Tuple elts kk tpos) (ItzN K a b n m) [z, TI, TO, i1, i2] z (Cells z TI TO i1 i2 a b (min n m)) where
  mem := List.mem_cons_self
  obj i h st c hc := cell_obj st hc
  keep i h h' st k := by
    obtain ⟨p0, p1, p2, ⟨x, y, p3⟩, p4, p5⟩ := st
    refine ⟨p0, k _ ?_ _ p1, k _ ?_ _ p2, ⟨x, y, k _ ?_ _ p3⟩, p4.at (k _ ?_), p5.at (k _ ?_)⟩ <;> simp
  item := by
    intro X hP hw hK hc i pins s σ H E I free st go
    subst hP hw hK
    have st0 := st
    obtain ⟨p0, p1, p2, ⟨u0, v0, p3⟩, p4, p5⟩ := st
    obtain ⟨xs, ys, x, y, qa, qb, ex, ey, hn, hm⟩ := go
    have i1n := (List.getElem?_eq_some_iff.mp ex).1
    have i2m := (List.getElem?_eq_some_iff.mp ey).1
    obtain ⟨ua, ra, la0, _⟩ := I.list qa
    obtain ⟨ub, rb, tb, _⟩ := I.tuple qb
    obtain ⟨u, eu, ru⟩ := ra.get ex
    obtain ⟨v, ev, rv⟩ := rb.get ey
    have none1 : X.A.in1.handled = none := I.ok.hd hc
    refine wpAny_pyNext_zipD2_item (sepOf D) (Draws.list none1 i1 a D.l1i1 ua.toArray) (Draws.tuple none1 i2 b D.l2i2 ub.toArray) p1 p2 p3 ⟨p4, la0.isList⟩ ⟨p5, tb⟩
      (by simpa using (List.getElem?_eq_some_iff.mp eu).1) (by simpa using (List.getElem?_eq_some_iff.mp ev).1) fun v1 v2 h1 tk e1 e2 n1 n3 n4 n5 nT nS old => ?_
    have w1 : v1 = u := by simpa [eu] using e1.symm
    have w2 : v2 = v := by simpa [ev] using e2.symm
    subst w1 w2
    have lt : ∀ c ∈ [z, TI, TO, i1, i2], c < s.heap.objs.size := fun c h => (cell_obj st0 h).elim fun o q => Heap.lt_size q.1
    refine ⟨_, rfl, wpAny_letOwnedTupleGo_zip (s := { s with heap := h1, toks := tk }) n1 fun h2 m1 same => ?_⟩
    have at2 : ∀ c o, c ≠ z → h1.get? c = some o → h2.get? c = some o := fun c o n q => (same.2 c n).trans q
    have old2 : ∀ c o, c ∉ [z, TI, TO, i1, i2] → s.heap.get? c = some o → h2.get? c = some o := fun c o n q => by
      simp only [List.mem_cons, List.not_mem_nil, or_false, not_or] at n
      exact at2 c o n.1 (old c o n.1 n.2.2.1 n.2.2.2.1 n.2.2.2.2 q)
    have newT : h2.get? s.heap.objs.size = some { cls := .type "tuple", data := .seq #[v1, v2] } := at2 _ _ (Nat.ne_of_gt (lt z (by simp))) nT
    have I1 : Inv X pins σ (upd H s.heap.objs.size (.tup [x, y])) { s with heap := h2, toks := tk } :=
      I.turnedNew (t' := tk) (ch := [z, TI, TO, i1, i2]) old2 free (Nat.le_refl _) ⟨by show 2 ≤ sizeLine; decide, [v1, v2], .cons ru (.cons rv .nil), _, newT, rfl, _, rfl⟩
    refine ⟨.ref _, _, I1, rfl, ⟨_, x, y, rfl, I.hok.fresh (Nat.le_refl _), rfl, fun l q => I.list_inj q qa ▸ ex, fun l q => I.tuple_inj q qb ▸ ey⟩, ⟨by omega, m1, at2 _ _ D.TIz (old _ _ D.TIz D.TITO D.TIi1 D.TIi2 p2), ⟨v1, v2, at2 _ _ D.TOz n3⟩, n4.1.at fun o q => at2 _ o D.i1z q, n5.1.at fun o q => at2 _ o D.i2z q⟩, fun c h => ?_⟩
    rw [upd_ne (Nat.ne_of_lt (lt c h))]
    exact (free c h).1
  done := by
    intro X hP hw hK hc i pins s σ H E I free st fin
    subst hP hw hK
    obtain ⟨p0, p1, p2, ⟨u0, v0, p3⟩, p4, p5⟩ := st
    obtain ⟨xs, ys, qa, qb, hn, hm, he⟩ := fin
    obtain ⟨ua, ra, la0, _⟩ := I.list qa
    obtain ⟨ub, rb, tb, _⟩ := I.tuple qb
    have la := ra.length
    have lb' := rb.length
    have none1 : X.A.in1.handled = none := I.ok.hd hc
    refine wpAny_pyNext_zipD2_end (i := i) (sepOf D) (Draws.list none1 i1 a D.l1i1 ua.toArray) (Draws.tuple none1 i2 b D.l2i2 ub.toArray) p1 p2 p3 ⟨p4, la0.isList⟩ ⟨p5, tb⟩
      (by rw [List.size_toArray]; omega) (by rw [List.size_toArray]; omega) (by rw [List.size_toArray, List.size_toArray]; omega) fun h1 tk old => ⟨rfl, I.turnedL (t' := tk) (ch := [z, TI, TO, i1, i2]) (fun c o n q => ?_) free⟩
    simp only [List.mem_cons, List.not_mem_nil, or_false, not_or] at n
    exact old c o n.1 n.2.2.1 n.2.2.2.1 n.2.2.2.2 q
  self A i s Q E st h := wpAny_pyIter_zip st.2.1 h
/-- zip(l, t) -/
def iZipN (K : PySem.W.Frag) (ta : TA) : TI := fun σ H R => ta σ H fun vs H1 => ∃ a b xs ys, vs = [.ref a, .ref b] ∧ SqL K H1 a xs ∧ SqT K H1 b ys ∧ R (ItzN K a b xs.length ys.length) H1
theorem pi_zipN {X : Cx} {e1 e2 : Expr} {ta : TA} {np cp tp : Pos} {elts : List Expr} {n : Nat} (hg : Gl X "zip") (hm : X.mg "zip" = none) (ha : PA X [e1, e2] ta)
    (h1 : starEach [e1, e2] X.env = (false, eval e1 X.env) :: starEach [e2] X.env := by rfl) (h2 : (backTo cp (starEach [e2] X.env)).any (·.1) = false := by rfl) : PI X (.Tuple elts n tp) (.Call (.Name "zip" np) [e1, e2] [] cp) (iZipN X.K ta) where
  run pins s σ H R I h := by
    refine Call_ (ld_blt I hg hm PyProof.Rows.boot_zip (PyProof.Rows.callWith_type1 (thn (ha.run cp pins s σ H _ I h) fun us t ⟨vs, G, I1, rv, a, b, xs, ys, ev, qa, qb, q⟩ => ?_) h1 h2))
    subst ev
    obtain ⟨u1, u2, rfl, r1, r2⟩ := vals2 rv
    cases r1
    cases r2
    obtain ⟨ua, ra, la0, _⟩ := I1.list qa
    obtain ⟨ub, rb, tb, _⟩ := I1.tuple qb
    have at' := tb
    obtain ⟨ob, gb, _⟩ := at'
    have far : ∀ k, FpOk X pins G (t.heap.objs.size + k) := fun k => I1.fpOk (Nat.le_add_right _ _) (I1.hok.fresh (Nat.le_add_right _ _))
    refine zip_begins2 (begins_list a ua.toArray) (begins_tuple b ub.toArray) la0.isList tb fun h' z0 z2 z3 c1 c2 _ old => wpAny_pyIter_zip z0 ⟨_, _, _, _, G, rfl, I1.kept (t' := t.toks) old, turnN (PySem.W.ktu_apart t.heap.objs.size a b la0.lt (Heap.lt_size gb)), ⟨Nat.zero_le _, z0, z2, ⟨_, _, z3⟩, ⟨_, c1, rfl, rfl⟩, ⟨_, c2, rfl, rfl⟩⟩, fun c hc => ?_, q⟩
    rcases cases5 hc with rfl | rfl | rfl | rfl | rfl
    · exact far 4
    · exact far 2
    · exact far 3
    · exact far 0
    · exact far 1
end ZN
/-! K3: dict(..) of pairs, {}, xs[::-1], == and != of an instance with a value of another kind, zip of a list and a tuple. -/
namespace SP
open PySem PySem.Spec PyProof.Rows L2
section
variable {X : Cx} {n : Nat} {C f : Addr} {fd : FuncData} {ps : List Str} {sp : Sp}
/-- x == y, x an instance of the class at C with an own __eq__, y of a built-in type -/
def rEqOth (K : PySem.W.Frag) (C : Addr) (sp : Sp) (neg : Bool) : R2 := fun x y H Q => ∃ a dx fs t, x = .ref a ∧ H a = some (.ins C dx fs) ∧ TyX K H y t ∧ PySem.W.notFirst K C t = true ∧ sp [x, y] H (fun z H' => ∃ k, z = .bl k ∧ Q (.bl (if neg then !k else k)) H') E0
theorem op_eqOth (F : FnOk X.prog X.w X.K X.mg X.base CX0 n f fd ps sp) (hb : Binds X.K fd ps []) (hs : PySem.W.findIn X.K (.ref C) "__eq__" = some (some (.ref f))) (hf : PySem.W.isFn X.K (.ref f) = true) (hr : Room n X.A) : OpR X (compareOp .Eq) (rEqOth X.K C sp false) := by
  intro pins s σ H x y v u Q I rx ry hq
  obtain ⟨a, dx, fs, t, rfl, ha, ty, hn, h⟩ := hq
  cases rx
  obtain ⟨mA, J, _⟩ := ins_get I.hok ha
  obtain ⟨od, J, _⟩ := J.look
  obtain ⟨P, Z, p, hx⟩ := kit_of I ry ty
  obtain ⟨m, hF⟩ := I.fr
  show wpAny (model X.prog X.w) X.A (richCompare .Eq (.ref a) u) (EP X pins σ Q) X.xe s
  refine PySem.W.cmp_K (op := .Eq) (tb := t) hr.units0 hF I.ok.mod.kin J (Z.ty _ _ I.kIn p) hn hs hf (wpAny_mono (OWN.run_at ⟨hr, rfl⟩ F hb I (.cons rfl (.cons ry .nil) : Vals [V.ref a, y] [Value.ref a, u]) h) (fun v s' z => ?_) fun _ _ e => e)
  obtain ⟨z, H', I', rz, ⟨k, rfl, q⟩⟩ := z
  cases rz
  exact ⟨.bl k, H', I', rfl, q⟩
theorem op_neOth (F : FnOk X.prog X.w X.K X.mg X.base CX0 n f fd ps sp) (hb : Binds X.K fd ps []) (hs : PySem.W.findIn X.K (.ref C) "__eq__" = some (some (.ref f))) (hf : PySem.W.isFn X.K (.ref f) = true) (hne : PySem.W.findIn X.K (.ref C) "__ne__" = some (some (.builtin "object.__ne__"))) (hm : PySem.W.mroIn X.K C (.type "object") = some true)
    (hr : Room (n + 1) X.A) : OpR X (compareOp .NotEq) (rEqOth X.K C sp true) := by
  intro pins s σ H x y v u Q I rx ry hq
  obtain ⟨a, dx, fs, t, rfl, ha, ty, hn, h⟩ := hq
  cases rx
  obtain ⟨mA, J, _⟩ := ins_get I.hok ha
  obtain ⟨od, J, _⟩ := J.look
  obtain ⟨P, Z, p, hx⟩ := kit_of I ry ty
  have sb : Sub X n X.A.in1 := Sub.in1 ⟨hr, rfl⟩
  have hu : X.A.units + 1 < cLine := sb.room.units0
  show wpAny (model X.prog X.w) X.A (richCompare .NotEq (.ref a) u) (EP X pins σ Q) X.xe s
  refine OWN.ne_K (tb := t) hu I.kIn J (Z.ty _ _ I.kIn p) hn hm hne hs hf (wpAny_mono (OWN.run_at sb F hb I (.cons rfl (.cons ry .nil) : Vals [V.ref a, y] [Value.ref a, u]) h) (fun v s' z => ?_) fun _ _ e => e)
  obtain ⟨z, H', I', rz, ⟨k, rfl, q⟩⟩ := z
  cases rz
  exact ⟨k, rfl, .bl (!k), H', I', rfl, q⟩
end
end SP
namespace SP
open PySem L2 DV PM IX
variable {K : PySem.W.Frag}
section
variable {P : List Addr} {ss : List Sl} {cs cs1 : List (List D)} {te : TE}
theorem ev_dnew : Ev K P ss cs tDNewK (.dat (.dic [])) cs := fun B H σ o Q q => fun p hp => by
  have s2 := stp_new (o := .dK []) o.ex hp
  exact q _ _ _ s2.ofNil (o.step0 s2 o.ex.updB) (Rp.dic upd_same .nil)
theorem ev_rev {ds : List D} (h : Ev K P ss cs te (.dat (.lst ds)) cs1) : Ev K P ss cs (tRevL K te) (.dat (.lst ds.reverse)) cs1 := fun B H σ o Q q =>
  h B H σ o _ fun v B1 H1 s1 o1 v1 => by
    have a' : Rp K B1 v (.lst ds) := v1
    cases a' with
    | @lst a xs _ h5 r =>
      refine ⟨a, xs, rfl, .inl (.inl (o1.ex _ _ h5)), fun p hp => ?_⟩
      have s2 := stp_new (o := .lst xs.reverse) o1.ex hp
      have rv : ∀ {vs : List V} {ds : List D}, RpA K B1 vs ds → RpA K B1 vs.reverse ds.reverse := by
        intro vs ds r
        induction vs generalizing ds with
        | nil => cases r; exact .nil
        | cons v vs ih =>
          cases r with
          | cons h r =>
            rw [List.reverse_cons, List.reverse_cons]
            exact (ih r).append (.cons h .nil)
      exact q _ _ _ (s1.trans s2.ofNil) (o1.step0 s2 o1.ex.updB) (Rp.lst upd_same ((rv r).mono s2.ex))
end
/-! dict(..) of pairs with ints -/
def rDictP (K : PySem.W.Frag) : List V → Hp → VK → Prop := fun xs H Q => ∃ (a : Addr) (ps : List Addr) (kvs : List (Key × V)), xs = [.ref a] ∧ SqL K H a (ps.map V.ref) ∧ Paired (fun p kv => SqT K H p [kV kv.1, kv.2]) ps kvs ∧ ∀ p, H p = none → Q (.ref p) (upd H p (.dK (mergeK [] kvs)))
theorem call_dictP1 {X : Cx} (hc : X.calm = true) : CallR X (.type "dict") (rDictP X.K) := call_dictP hc
theorem merge_nodup : ∀ {more kvs : List (Key × V)}, ((kvs ++ more).map (·.1)).Nodup → mergeK kvs more = kvs ++ more
  | [], kvs, _ => by simp [mergeK]
  | p :: r, kvs, h => by
    have hn : valV kvs p.1 = none := by
      unfold valV
      rw [Option.map_eq_none_iff, List.find?_eq_none]
      intro q hq
      rw [List.map_append] at h
      have := (List.nodup_append.mp h).2.2 q.1 (List.mem_map.mpr ⟨q, hq, rfl⟩) p.1 (by simp)
      simpa using this
    show mergeK (putK kvs p.1 p.2) r = _
    rw [putK_new _ hn, merge_nodup (by rw [List.append_assoc]; exact h), List.append_assoc]
    rfl
theorem cb_dictI {l : List (Int × D)} (nd : (l.map (·.1)).Nodup) : CbD K (rDictP K) [.dat (.lst (l.map fun p => D.tup [.int p.1, p.2]))] (.dat (.dic (l.map fun p => ((Sum.inl p.1 : Key), p.2)))) := fun B H vs e hv Q q => by
  obtain ⟨v, rfl, h1⟩ := rs1 hv
  have a' : Rp K B v (.lst (l.map fun p => D.tup [.int p.1, p.2])) := h1
  cases a' with
  | @lst a xs _ h5 r =>
    have gen : ∀ {xs : List V} {l : List (Int × D)}, RpA K B xs (l.map fun p => D.tup [.int p.1, p.2]) → ∃ (ps : List Addr) (kvs : List (Key × V)), xs = ps.map V.ref ∧ Paired (fun p kv => SqT K H p [kV kv.1, kv.2]) ps kvs ∧ RpK K B kvs (l.map fun p => ((Sum.inl p.1 : Key), p.2)) ∧ kvs.map (·.1) = l.map fun p => (Sum.inl p.1 : Key) := by
      intro xs l
      induction l generalizing xs with
      | nil => intro r; cases r; exact ⟨[], [], rfl, .nil, .nil, rfl⟩
      | cons p l ih =>
        intro r
        cases r with
        | cons h r =>
          obtain ⟨ps, kvs, e1, e2, e3, e4⟩ := ih r
          cases h with
          | @tup t ys _ ht hy =>
            cases hy with
            | cons hk hy =>
              cases hk
              cases hy with
              | cons hd hy =>
                cases hy
                exact ⟨t :: ps, ((Sum.inl p.1 : Key), _) :: kvs, by rw [e1]; rfl, .cons (.inl (RdEx e ht)) e2, .cons hd e3, by rw [List.map_cons, e4]; rfl⟩
    obtain ⟨ps, kvs, rfl, e2, e3, e4⟩ := gen r
    have hm : mergeK [] kvs = kvs := by
      have := merge_nodup (kvs := []) (more := kvs) (by
        rw [List.nil_append, e4]
        have e5 : (l.map fun p => (Sum.inl p.1 : Key)) = (l.map (·.1)).map Sum.inl := by rw [List.map_map]; rfl
        rw [e5]
        exact List.pairwise_map.mpr (nd.imp fun h z => h (Sum.inl.inj z)))
      simpa using this
    refine ⟨a, ps, kvs, rfl, .inl (.inl (e _ _ h5)), e2, fun p hp => ?_⟩
    rw [hm]
    have s := stp_new (o := .dK kvs) e hp
    exact q _ _ _ s e.updB (Rp.dic upd_same (e3.mono s.ex))
/-! zip of a list and a tuple -/
theorem wd_zipN {P : List Addr} {ss : List Sl} {cs cs1 : List (List D)} {ta : TA} {ds es : List D} (h : EvA K P ss cs ta [.dat (.lst ds), .dat (.tup es)] cs1) : WD K P ss cs (ZN.iZipN K ta) (zipD ds es) cs1 := fun B H σ o R q =>
  h B H σ o _ fun vs B1 H1 s1 o1 r1 => by
    obtain ⟨v, v', rfl, h1, h2⟩ := rs2 r1
    have a' : Rp K B1 v (.lst ds) := h1
    have b' : Rp K B1 v' (.tup es) := h2
    cases a' with
    | @lst a xs _ h5 r => cases b' with
      | @tup b ys _ h6 r' =>
        refine ⟨_, _, xs, ys, rfl, .inl (.inl (o1.ex _ _ h5)), .inl (RdEx o1.ex h6), q _ B1 H1 s1 o1 fun i B2 H2 e1 e2 => ?_⟩
        have z : SqL K H2 a xs := .inl (.inl (e2 _ _ (e1 _ _ h5)))
        have z' : SqT K H2 b ys := .inl (RdEx e2 (RdEx e1 h6))
        refine ⟨fun d hd => ?_, fun hl => ⟨xs, ys, z, z', rfl, rfl, ?_⟩⟩
        · obtain ⟨e, e', he, he', rfl⟩ := zipD_get hd
          obtain ⟨v, h1, h2⟩ := r.get he
          obtain ⟨v', h1', h2'⟩ := r'.get he'
          refine ⟨⟨xs, ys, v, v', z, z', h1, h1', rfl, rfl⟩, fun x H' y => ?_⟩
          obtain ⟨T, x', y', rfl, hT, rfl, f, f'⟩ := y
          have q1 := f xs z
          have q2 := f' ys z'
          rw [h1] at q1; rw [h1'] at q2
          cases q1; cases q2
          have s := stp_new (o := .tup [v, v']) e2 hT
          exact ⟨_, s, e2.updB, .tup (.inl upd_same) (.cons (h2.mono (e1.trans s.ex)) (.cons (h2'.mono (e1.trans s.ex)) .nil))⟩
        · rw [r.length, r'.length]
          have e := hl
          unfold zipD at e
          rw [List.length_zipWith] at e
          exact e
end SP
/-! K4: how long a shown value is; rows and values near them. -/
namespace SP
open PySem L2 DV PM IX
theorem slen (a b : Str) : (a ++ b).length = a.length + b.length := Str.length_append a b
theorem textFrom_le : ∀ (ts : List Str) (k : Nat) (acc : Str), (textFrom k acc ts).length ≤ acc.length + piled ts
  | [], k, acc => Nat.le_add_right _ _
  | t :: ts, k, acc => by
    have ih := textFrom_le ts (k + 1) (acc ++ (if k > 0 then ", " else "" : String) ++ t)
    have e : (((if k > 0 then ", " else "" : String) : Str)).length ≤ 2 := by split <;> decide
    rw [slen, slen] at ih
    show (textFrom (k + 1) _ ts).length ≤ _
    rw [piled_cons]
    omega
theorem listText_le (ts : List Str) : (listText ts).length ≤ piled ts + 2 := by
  unfold listText
  have h := textFrom_le ts 0 "["
  have e1 : (("[" : String) : Str).length = 1 := rfl
  have e2 : (("]" : String) : Str).length = 1 := rfl
  rw [slen]
  omega
theorem join_le2 (ts : List Str) : (Str.join ", " ts).length ≤ piled ts := by
  cases ts with
  | nil => exact Nat.le_refl 0
  | cons t ts => have := join_length_add (t :: ts) (by simp); omega
theorem tupleText_le (ts : List Str) : (tupleText ts).length ≤ piled ts + 3 := by
  unfold tupleText
  have h := join_le2 ts
  have e1 : (("(" : String) : Str).length = 1 := rfl
  have e2 : (((if ts.length == 1 then ",)" else ")" : String) : Str)).length ≤ 2 := by split <;> decide
  rw [slen, slen]
  omega
theorem dictText_le (ts : List Str) : (dictText ts).length ≤ piled ts + 2 := by
  unfold dictText
  have h := join_le2 ts
  have e1 : (("{" : String) : Str).length = 1 := rfl
  have e2 : (("}" : String) : Str).length = 1 := rfl
  rw [slen, slen]
  omega
theorem piled_le {ts : List Str} {n : Nat} (h : ∀ t ∈ ts, t.length ≤ n) : piled ts ≤ (n + 2) * ts.length := by
  induction ts with
  | nil => exact Nat.zero_le _
  | cons t ts ih =>
    rw [piled_cons, List.length_cons, Nat.mul_add]
    have := h t (by simp)
    have := ih fun u hu => h u (List.mem_cons_of_mem _ hu)
    omega
/-- small: shown in n signs, k deep -/
structure Sm (n k : Nat) (d : D) : Prop where
  ok : D.okR d = true
  sh : (D.pyR d).showable = true
  dp : (D.pyR d).depth ≤ k
  ln : (D.pyR d).shown.length ≤ n
theorem Sm.le {n n' k k' : Nat} {d : D} (h : Sm n k d) (a : n ≤ n') (b : k ≤ k') : Sm n' k' d := ⟨h.ok, h.sh, Nat.le_trans h.dp b, Nat.le_trans h.ln a⟩
theorem Sm.sho {n k : Nat} {d : D} (h : Sm n k d) (hn : n ≤ 1000000) (hk : k ≤ 60) (hd : (D.pyR d).hasDict = true → D.noL d = true) : Sho d := ⟨h.ok, h.sh, Nat.le_trans h.dp hk, hd, Nat.le_trans h.ln hn⟩
theorem sm_non : Sm 40 0 .non := ⟨rfl, rfl, Nat.le_refl _, by decide +kernel⟩
theorem sm_bl (b : Bool) : Sm 40 0 (.bl b) := ⟨rfl, rfl, Nat.le_refl _, by cases b <;> decide +kernel⟩
theorem sm_int {i : Int} (h : i.natAbs ≤ 10 ^ 30) : Sm 40 0 (.int i) := by
  have h2 : i.natAbs.log2 < 1920 := by
    by_cases hz : i.natAbs = 0
    · rw [hz]; decide
    · refine (Nat.log2_lt hz).mpr ?_
      have : (10 : Nat) ^ 30 < 2 ^ 1920 := by decide
      omega
  refine ⟨rfl, decide_eq_true h2, Nat.le_refl _, ?_⟩
  show ((toString i : String) : Str).length ≤ 40
  have hp : (10 : Nat) ^ 30 < 10 ^ 31 := by decide
  have hp' : (10 : Int) ^ 31 = ((10 ^ 31 : Nat) : Int) := by norm_cast
  by_cases hn : i < 0
  · rw [PyProof.Rows.len_text_neg hn]
    have := PyProof.Rows.toString_length_le (v := 0 - i) (k := 31) (by omega) (by decide) (by rw [hp']; omega)
    omega
  · have := PyProof.Rows.toString_length_le (v := i) (k := 31) (by omega) (by decide) (by rw [hp']; omega)
    omega
theorem sm_all : ∀ {ds : List D} {n k : Nat}, (∀ d ∈ ds, Sm n k d) → D.okRA ds = true ∧ PyData.showableAll (D.pyRA ds) = true ∧ PyData.depthAll (D.pyRA ds) ≤ k ∧ (∀ t ∈ PyData.shownAll (D.pyRA ds), t.length ≤ n) ∧ (PyData.shownAll (D.pyRA ds)).length = ds.length
  | [], _, _, _ => ⟨rfl, rfl, Nat.zero_le _, (fun _ h => by cases h), rfl⟩
  | d :: ds, n, k, h => by
    have h1 := h d (by simp)
    obtain ⟨a, b, c, e, f⟩ := sm_all (ds := ds) fun x hx => h x (List.mem_cons_of_mem _ hx)
    refine ⟨?_, ?_, ?_, ?_, ?_⟩
    · show (D.okR d && D.okRA ds) = true
      rw [h1.ok, a]; rfl
    · show ((D.pyR d).showable && PyData.showableAll (D.pyRA ds)) = true
      rw [h1.sh, b]; rfl
    · show max ((D.pyR d).depth) (PyData.depthAll (D.pyRA ds)) ≤ k
      exact Nat.max_le.mpr ⟨h1.dp, c⟩
    · intro t ht
      rcases List.mem_cons.mp ht with z | z
      · rw [z]; exact h1.ln
      · exact e t z
    · show (PyData.shownAll (D.pyRA ds)).length + 1 = ds.length + 1
      rw [f]
theorem sm_tup {ds : List D} {n k m : Nat} (h : ∀ d ∈ ds, Sm n k d) (hm : ds.length ≤ m) : Sm ((n + 2) * m + 3) (k + 1) (.tup ds) := by
  obtain ⟨a, b, c, e, f⟩ := sm_all h
  refine ⟨a, b, Nat.succ_le_succ c, ?_⟩
  show (tupleText (PyData.shownAll (D.pyRA ds))).length ≤ _
  have h1 := tupleText_le (PyData.shownAll (D.pyRA ds))
  have h2 := piled_le e
  rw [f] at h2
  have h3 : (n + 2) * ds.length ≤ (n + 2) * m := Nat.mul_le_mul_left _ hm
  omega
theorem sm_nt {ds : List D} {n k m : Nat} (h : ∀ d ∈ ds, Sm n k d) (hm : ds.length ≤ m) : Sm ((n + 2) * m + 3) (k + 1) (.nt ds) := by
  obtain ⟨a, b, c, d⟩ := sm_tup h hm
  exact ⟨a, b, c, d⟩
theorem sm_lst {ds : List D} {n k m : Nat} (h : ∀ d ∈ ds, Sm n k d) (hm : ds.length ≤ m) : Sm ((n + 2) * m + 3) (k + 1) (.lst ds) := by
  obtain ⟨a, b, c, e, f⟩ := sm_all h
  refine ⟨a, b, Nat.succ_le_succ c, ?_⟩
  show (listText (PyData.shownAll (D.pyRA ds))).length ≤ _
  have h1 := listText_le (PyData.shownAll (D.pyRA ds))
  have h2 := piled_le e
  rw [f] at h2
  have h3 : (n + 2) * ds.length ≤ (n + 2) * m := Nat.mul_le_mul_left _ hm
  omega
theorem sm_dic {ks : List (Key × D)} {m : Nat} (h : ∀ p ∈ ks, (∃ i : Int, p.1 = Sum.inl i ∧ i.natAbs ≤ 10 ^ 30) ∧ Sm 40 0 p.2) (hm : ks.length ≤ m) : Sm (84 * m + 3) 1 (.dic ks) := by
  have gen : ∀ {ks : List (Key × D)}, (∀ p ∈ ks, (∃ i : Int, p.1 = Sum.inl i ∧ i.natAbs ≤ 10 ^ 30) ∧ Sm 40 0 p.2) → D.okRK ks = true ∧ PyData.showableKv (D.pyRK ks) = true ∧ PyData.depthKv (D.pyRK ks) = 0 ∧ (∀ t ∈ PyData.shownKv (D.pyRK ks), t.length ≤ 82) ∧ (PyData.shownKv (D.pyRK ks)).length = ks.length := by
    intro ks
    induction ks with
    | nil => intro _; exact ⟨rfl, rfl, rfl, (fun _ h => by cases h), rfl⟩
    | cons p ks ih =>
      intro h
      obtain ⟨⟨i, hi, hb⟩, h2⟩ := h p (by simp)
      obtain ⟨a, b, c, e, f⟩ := ih fun x hx => h x (List.mem_cons_of_mem _ hx)
      obtain ⟨q, d⟩ := p
      have hi' : q = Sum.inl i := hi
      subst hi'
      have h1 := sm_int hb
      refine ⟨?_, ?_, ?_, ?_, ?_⟩
      · show (D.okR d && D.okRK ks) = true
        rw [h2.ok, a]; rfl
      · show ((PyData.int i).showable && (D.pyR d).showable && PyData.showableKv (D.pyRK ks)) = true
        rw [show (PyData.int i).showable = true from h1.sh, h2.sh, b]; rfl
      · show max (max (PyData.int i).depth (D.pyR d).depth) (PyData.depthKv (D.pyRK ks)) = 0
        have z1 : (PyData.int i).depth = 0 := rfl
        have z2 : (D.pyR d).depth = 0 := Nat.le_zero.mp h2.dp
        rw [z1, z2, c]; rfl
      · intro t ht
        rcases List.mem_cons.mp ht with z | z
        · rw [z, slen, slen]
          have e1 : (keyPy (Sum.inl i)).shown.length ≤ 40 := h1.ln
          have e2 : (D.pyR d).shown.length ≤ 40 := h2.ln
          have e3 : ((": " : String) : Str).length = 2 := rfl
          omega
        · exact e t z
      · show (PyData.shownKv (D.pyRK ks)).length + 1 = ks.length + 1
        rw [f]
  obtain ⟨a, b, c, e, f⟩ := gen h
  refine ⟨a, b, ?_, ?_⟩
  · show PyData.depthKv (D.pyRK ks) + 1 ≤ 1
    rw [c]; exact Nat.le_refl _
  · show (dictText (PyData.shownKv (D.pyRK ks))).length ≤ _
    have h1 := dictText_le (PyData.shownKv (D.pyRK ks))
    have h2 := piled_le e
    rw [f] at h2
    have h3 : 84 * ks.length ≤ 84 * m := Nat.mul_le_mul_left _ hm
    omega
theorem sm_str {x : Str} (hl : x.length ≤ 8) (ho : PyData.strOk x = true) : Sm 100 0 (.str x) := by
  refine ⟨rfl, rfl, Nat.le_refl _, ?_⟩
  have := StrLaws.reprText_len x fun c hc => by
    unfold PyData.strOk at ho
    rw [all_list, List.all_eq_true] at ho
    have := ho c hc
    simp at this
    have e : (16 : Nat) ^ 8 = 4294967296 := by decide
    omega
  show (reprText x).length ≤ 100
  omega
/-! ### no lists, no dicts -/
theorem hd_all : ∀ {ds : List D}, (∀ d ∈ ds, (D.pyR d).hasDict = false) → PyData.hasDictAll (D.pyRA ds) = false
  | [], _ => rfl
  | d :: ds, h => by
    show ((D.pyR d).hasDict || PyData.hasDictAll (D.pyRA ds)) = false
    rw [h d (by simp), hd_all fun x hx => h x (List.mem_cons_of_mem _ hx)]; rfl
theorem nl_all : ∀ {ds : List D}, (∀ d ∈ ds, D.noL d = true) → D.noLA ds = true
  | [], _ => rfl
  | d :: ds, h => by
    show (D.noL d && D.noLA ds) = true
    rw [h d (by simp), nl_all fun x hx => h x (List.mem_cons_of_mem _ hx)]; rfl
end SP
namespace T3
open PySem L2 DV PM SP IX
section
variable {P : Program} {w : World} {K : PySem.W.Frag} {mg : Str → Option Value} {base : Heap} {C : Addr}
end
end T3
/-! M: what the drawn tables are. -/
namespace SP
open PySem L2 DV PM IX
/-! okTabs and its parts -/
theorem okCols_app : ∀ {T : List Tab} {done a b : List Col}, okCols T done (a ++ b) ↔ okCols T done a ∧ okCols T (done ++ a) b
  | T, done, [], b => by simp [okCols]
  | T, done, c :: a, b => by
    show (okCol T done c ∧ okCols T (done ++ [c]) (a ++ b)) ↔ (okCol T done c ∧ okCols T (done ++ [c]) a) ∧ _
    rw [okCols_app (T := T) (done := done ++ [c]) (a := a) (b := b), List.append_assoc]
    constructor
    · rintro ⟨h1, h2, h3⟩; exact ⟨⟨h1, h2⟩, h3⟩
    · rintro ⟨⟨h1, h2⟩, h3⟩; exact ⟨h1, h2, h3⟩
theorem okTabs_app : ∀ {T a b : List Tab}, okTabs T (a ++ b) ↔ okTabs T a ∧ okTabs (T ++ a) b
  | T, [], b => by simp [okTabs]
  | T, t :: a, b => by
    show (okTab T t ∧ okTabs (T ++ [t]) (a ++ b)) ↔ (okTab T t ∧ okTabs (T ++ [t]) a) ∧ _
    rw [okTabs_app (T := T ++ [t]) (a := a) (b := b), List.append_assoc]
    constructor
    · rintro ⟨h1, h2, h3⟩; exact ⟨⟨h1, h2⟩, h3⟩
    · rintro ⟨⟨h1, h2⟩, h3⟩; exact ⟨h1, h2, h3⟩
theorem okTabs_at {T : List Tab} (h : okTabs [] T) {i : Nat} {t : Tab} (ht : T[i]? = some t) : okTab (T.take i) t := by
  have hi : i < T.length := (List.getElem?_eq_some_iff.mp ht).1
  have e : T = T.take i ++ (t :: T.drop (i + 1)) := by
    rw [← (List.getElem?_eq_some_iff.mp ht).2, ← List.drop_eq_getElem_cons hi, List.take_append_drop]
  rw [e] at h
  have := (okTabs_app.mp h).2.1
  simpa using this
theorem okTabs_take {T : List Tab} (h : okTabs [] T) (i : Nat) : okTabs [] (T.take i) := by
  rw [← List.take_append_drop i T] at h
  exact (okTabs_app.mp h).1
theorem okCols_take {T : List Tab} {cs : List Col} (h : okCols T [] cs) (i : Nat) : okCols T [] (cs.take i) := by
  rw [← List.take_append_drop i cs] at h
  exact (okCols_app.mp h).1
theorem okCols_at {T : List Tab} {cs : List Col} (h : okCols T [] cs) {i : Nat} {c : Col} (ht : cs[i]? = some c) : okCol T (cs.take i) c := by
  have hi : i < cs.length := (List.getElem?_eq_some_iff.mp ht).1
  have e : cs = cs.take i ++ (c :: cs.drop (i + 1)) := by
    rw [← (List.getElem?_eq_some_iff.mp ht).2, ← List.drop_eq_getElem_cons hi, List.take_append_drop]
  rw [e] at h
  have := (okCols_app.mp h).2.1
  simpa using this
theorem ok_len {T : List Tab} (h : okTabs [] T) : T.length ≤ 3 := by
  by_cases z : T.length = 0
  · omega
  · have hi : T.length - 1 < T.length := by omega
    have := (okTabs_at h (List.getElem?_eq_getElem hi)).2.2.1
    rw [List.length_take] at this
    omega
theorem refs_len : ∀ (cs : List Col), refsN cs ≤ cs.length := fun cs => List.length_filter_le _ _
theorem okCols_len {T : List Tab} {cs : List Col} (h : okCols T [] cs) : cs.length ≤ 4 := by
  have key : ∀ i ≤ cs.length, (cs.take i).length ≤ refsN (cs.take i) + 2 ∧ refsN (cs.take i) ≤ 2 := by
    intro i
    induction i with
    | zero => intro _; simp [refsN]
    | succ i ih =>
      intro hi
      obtain ⟨h1, h2⟩ := ih (by omega)
      have ht : cs[i]? = some cs[i] := List.getElem?_eq_getElem (by omega)
      have hc := okCols_at h ht
      generalize cs[i] = c at ht hc
      rw [List.take_add_one, ht]
      show (cs.take i ++ [c]).length ≤ refsN (cs.take i ++ [c]) + 2 ∧ refsN (cs.take i ++ [c]) ≤ 2
      rw [refsN_snoc, List.length_append]
      obtain ⟨n, t⟩ := c
      cases t with
      | none =>
        obtain ⟨a, b, _⟩ := hc
        simp only [Option.isSome, List.length_cons, List.length_nil, if_true, Bool.false_eq_true, if_false]
        omega
      | some t =>
        obtain ⟨a, _⟩ := hc
        simp only [Option.isSome, List.length_cons, List.length_nil, if_true, Bool.false_eq_true, if_false]
        omega
  have := key cs.length (Nat.le_refl _)
  rw [List.take_length] at this
  omega
theorem ok_tabsOk {T : List Tab} (h : okTabs [] T) : tabsOk T := by
  refine ⟨ok_len h, fun t ht => ?_⟩
  obtain ⟨i, hi, e⟩ := List.getElem_of_mem ht
  have ht' : T[i]? = some t := by rw [List.getElem?_eq_getElem hi, e]
  obtain ⟨h1, h2, h3, h4⟩ := okTabs_at h ht'
  refine ⟨wordOk_fine h1, okCols_len h4, fun c hc => ?_⟩
  obtain ⟨j, hj, ec⟩ := List.getElem_of_mem hc
  have hc' := okCols_at h4 (show t.2[j]? = some c by rw [List.getElem?_eq_getElem hj, ec])
  obtain ⟨n, o⟩ := c
  cases o with
  | none => exact ⟨wordOk_fine hc'.2.2.1, fun t e => by cases e⟩
  | some o =>
    refine ⟨wordOk_fine hc'.2.2.1, fun t' e => ?_⟩
    cases e
    obtain ⟨u, hu, eu⟩ := List.mem_map.mp hc'.2.2.2.2
    obtain ⟨k, hk, ek⟩ := List.getElem_of_mem hu
    have hku : (T.take i)[k]? = some u := by rw [List.getElem?_eq_getElem hk, ek]
    have hk2 : T[k]? = some u := by
      have : k < i := by rw [List.length_take] at hk; omega
      rw [List.getElem?_take_of_lt this] at hku
      exact hku
    rw [← eu]
    exact wordOk_fine (okTabs_at h hk2).1
theorem ok_nodup {T : List Tab} (h : okTabs [] T) : (T.map (·.1)).Nodup := by
  refine List.pairwise_iff_getElem.mpr fun i j hi hj hij e => ?_
  rw [List.length_map] at hi hj
  have hj' : T[j]? = some T[j] := List.getElem?_eq_getElem hj
  have := (okTabs_at h hj').2.1
  apply this
  rw [List.getElem_map, List.getElem_map] at e
  rw [← e]
  exact List.mem_map.mpr ⟨T[i], List.mem_iff_getElem?.mpr ⟨i, by rw [List.getElem?_take_of_lt hij, List.getElem?_eq_getElem hi]⟩, rfl⟩
theorem ok_sch {T : List Tab} (h : okTabs [] T) : schOk T := ⟨ok_tabsOk h, ok_nodup h⟩
theorem ok_early {T : List Tab} (h : okTabs [] T) : tgtsEarly T := fun i t ht c hc n hn => by
  obtain ⟨j, hj, ec⟩ := List.getElem_of_mem hc
  have hc' := okCols_at (okTabs_at h ht).2.2.2 (show t.2[j]? = some c by rw [List.getElem?_eq_getElem hj, ec])
  obtain ⟨m, o⟩ := c
  cases (show o = some n from hn)
  exact hc'.2.2.2.2
theorem early_ok {T : List Tab} (h : tgtsEarly T) : tgtsOk T := fun t ht c hc n hn => by
  obtain ⟨i, hi, e⟩ := List.getElem_of_mem ht
  have := h i t (by rw [List.getElem?_eq_getElem hi, e]) c hc n hn
  rw [List.map_take] at this
  exact List.mem_of_mem_take this
/-! the text -/
theorem words_fine {T : List Tab} (h : tabsOk T) : ∀ ws ∈ words T, ws ≠ [] ∧ ∀ w ∈ ws, free 10 w ∧ free 32 w := fun ws hw => by
  obtain ⟨t, ht, hw⟩ := List.mem_flatMap.mp hw
  obtain ⟨h1, _, h2⟩ := h.2 t ht
  rcases List.mem_cons.mp hw with rfl | hw
  · refine ⟨by simp, fun l hl => ?_⟩
    rcases List.mem_cons.mp hl with rfl | hl
    · exact ⟨wordOk_table.1, wordOk_table.2.1⟩
    · rw [List.mem_singleton.mp hl]; exact ⟨h1.1, h1.2.1⟩
  · obtain ⟨c, hc, rfl⟩ := List.mem_map.mp hw
    have hco := h2 c hc
    obtain ⟨n, t⟩ := c
    refine ⟨by cases t <;> simp [colWords], fun l hl => ?_⟩
    cases t with
    | none =>
      have : l = "" ∨ l = "" ∨ l = "plain" ∨ l = n := by simpa [colWords] using hl
      rcases this with rfl | rfl | rfl | rfl
      · exact ⟨wordOk_empty.1, wordOk_empty.2.1⟩
      · exact ⟨wordOk_empty.1, wordOk_empty.2.1⟩
      · exact ⟨wordOk_plain.1, wordOk_plain.2.1⟩
      · exact ⟨hco.1.1, hco.1.2.1⟩
    | some t =>
      have : l = "" ∨ l = "" ∨ l = "ref" ∨ l = n ∨ l = t := by simpa [colWords] using hl
      rcases this with rfl | rfl | rfl | rfl | rfl
      · exact ⟨wordOk_empty.1, wordOk_empty.2.1⟩
      · exact ⟨wordOk_empty.1, wordOk_empty.2.1⟩
      · exact ⟨wordOk_ref.1, wordOk_ref.2.1⟩
      · exact ⟨hco.1.1, hco.1.2.1⟩
      · exact ⟨(hco.2 _ rfl).1, (hco.2 _ rfl).2.1⟩
theorem words_ne {T : List Tab} (h : T ≠ []) : words T ≠ [] := by
  cases T with
  | nil => exact absurd rfl h
  | cons t r => intro z; simp [words, tabWords] at z
theorem split_text {T : List Tab} (h : tabsOk T) (hn : T ≠ []) : Txt.split (textOf T) nl = rowsOf T := by
  unfold textOf rowsOf
  rw [show nl = (⟨#[10]⟩ : Str) from nl_is]
  refine split_join 10 (by simpa using words_ne hn) (fun l hl => ?_)
  obtain ⟨ws, hw, rfl⟩ := List.mem_map.mp hl
  exact free_row fun w hw' => ((words_fine h ws hw).2 w hw').1
theorem read_text {T : List Tab} (h : okTabs [] T) (hn : T ≠ []) : readText (textOf T) = some T := by
  have ht := ok_tabsOk h
  unfold readText wordsText
  rw [split_text ht hn]
  unfold rowsOf
  rw [List.map_map]
  have e : (words T).map ((fun r => Txt.split r sp) ∘ rowOf) = words T := by
    conv => rhs; rw [← List.map_id (words T)]
    apply List.map_congr_left
    intro ws hw
    exact split_row (words_fine ht ws hw).1 fun w hw' => ((words_fine ht ws hw).2 w hw').2
  rw [e]
  exact read_tabs T [] h
/-! the beginnings -/
theorem begin_words : ∀ (T : List Tab) (m : Nat), 1 ≤ m → m ≤ (words T).length → ∃ T1 t T2 j, T = T1 ++ t :: T2 ∧ (words T).take m = words (T1 ++ [(t.1, t.2.take j)]) ∧ j ≤ t.2.length
  | [], m, h1, h2 => by simp [words] at h2; omega
  | t :: r, m, h1, h2 => by
    have e : words (t :: r) = tabWords t ++ words r := rfl
    have hl : (tabWords t).length = t.2.length + 1 := by simp [tabWords]
    by_cases hm : m ≤ t.2.length + 1
    · refine ⟨[], t, r, m - 1, rfl, ?_, by omega⟩
      rw [e, List.take_append_of_le_length (by omega)]
      show (tabWords t).take m = tabWords (t.1, t.2.take (m - 1)) ++ words []
      unfold tabWords
      obtain ⟨m', rfl⟩ : ∃ m', m = m' + 1 := ⟨m - 1, by omega⟩
      simp [words, List.map_take]
    · have h2' : m - (t.2.length + 1) ≤ (words r).length := by
        rw [e, List.length_append, hl] at h2; omega
      obtain ⟨T1, u, T2, j, e1, e2, hj⟩ := begin_words r (m - (t.2.length + 1)) (by omega) h2'
      refine ⟨t :: T1, u, T2, j, by rw [e1]; rfl, ?_, hj⟩
      rw [e, List.take_append, hl, List.take_of_length_le (by omega), e2]
      rfl
theorem begin_ok {T1 T2 : List Tab} {t : Tab} (h : okTabs [] (T1 ++ t :: T2)) (j : Nat) : okTabs [] (T1 ++ [(t.1, t.2.take j)]) := by
  obtain ⟨h1, h2⟩ := okTabs_app.mp h
  exact okTabs_app.mpr ⟨h1, ⟨h2.1.1, h2.1.2.1, h2.1.2.2.1, okCols_take h2.1.2.2.2 j⟩, True.intro⟩
end SP
/-! M2: the drawn tables are right ones, also with other names. -/
namespace SP
open PySem L2 DV PM IX
theorem join_len (y : Str) : ∀ ls : List Str, (Txt.join y ls).length ≤ (ls.map (·.length)).sum + ls.length * y.length
  | [] => by show (Str.empty).length ≤ _; exact Nat.zero_le _
  | [a] => by rw [join_one]; simp
  | a :: b :: r => by
    rw [join_cons, len_app, len_app]
    have := join_len y (b :: r)
    simp only [List.map_cons, List.sum_cons, List.length_cons, Nat.add_mul] at this ⊢
    omega
theorem text_ok {T : List Tab} (h : tabsOk T) (hn : T ≠ []) : (textOf T).length ≤ 100000 ∧ PyData.strOk (textOf T) = true := by
  have h2 := T3.rows_len h T.length
  rw [List.take_length] at h2
  have h3 := h.1
  have h1 := sum_le (ls := rowsOf T) (k := 30) (fun l hl => (row_ok h hl).2)
  have h4 := join_len nl (rowsOf T)
  have h5 : nl.length = 1 := by decide +kernel
  have e : textOf T = Txt.join nl (rowsOf T) := rfl
  rw [h5] at h4
  refine ⟨by rw [e]; omega, ?_⟩
  rw [e]
  exact ok_join (by decide +kernel) (by unfold rowsOf; simpa using words_ne hn) (fun l hl => (row_ok h hl).1)
/-! drawn -/
def CN : List Str := ["p", "size", "r", "one"]
theorem names_ok (s : Fd) : (namesOf s).Nodup ∧ ∀ n ∈ namesOf s, fineB n = true ∧ n ≠ "x" := by
  have h := fdI_lt (s := s) (show 0 < 4 by decide)
  unfold namesOf NAMES
  generalize fdI s 4 = i at h
  match i, h with
  | 0, _ => exact by decide +kernel
  | 1, _ => exact by decide +kernel
  | 2, _ => exact by decide +kernel
  | 3, _ => exact by decide +kernel
theorem refsN_app (a b : List Col) : refsN (a ++ b) = refsN a + refsN b := by unfold refsN; rw [List.filter_append, List.length_append]
theorem cols0_ok (T : List Tab) (s : Fd) : okCols T [] (cols0 s) ∧ refsN (cols0 s) = 0 ∧ (cols0 s).map Prod.fst = (["p", "size"] : List Str).take (FEW.getD (fdI s 5) 0) := by
  have h := few_le (fdI s 5)
  unfold cols0
  generalize FEW.getD (fdI s 5) 0 = n at h
  have f1 : fineB "p" = true := by decide +kernel
  have f2 : fineB "size" = true := by decide +kernel
  have f3 : ("size" : Str) ∉ [("p" : Str)] := by decide +kernel
  match n, h with
  | 0, _ => exact ⟨True.intro, rfl, rfl⟩
  | 1, _ => exact ⟨⟨⟨rfl, by decide, f1, by simp⟩, True.intro⟩, rfl, rfl⟩
  | 2, _ => exact ⟨⟨⟨rfl, by decide, f1, by simp⟩, ⟨rfl, by decide, f2, f3⟩, True.intro⟩, rfl, rfl⟩
theorem new_ref {n j : Nat} (hn : n ≤ 2) (hj : j < 2) : fineB ((["r", "one"] : List Str).getD j "") = true ∧ (["r", "one"] : List Str).getD j "" ∉ (["p", "size"] : List Str).take n ++ (["r", "one"] : List Str).take j := by
  match n, hn, j, hj with
  | 0, _, 0, _ => decide +kernel
  | 0, _, 1, _ => decide +kernel
  | 1, _, 0, _ => decide +kernel
  | 1, _, 1, _ => decide +kernel
  | 2, _, 0, _ => decide +kernel
  | 2, _, 1, _ => decide +kernel
theorem inner_ok {found : List Tab} {k : Nat} {z : List Col × Fd} {n many : Nat} (hk : found.length = k) (hk0 : 0 < many → 0 < k) (hn : n ≤ 2) (hm2 : many ≤ 2) (hs : sumRefs found + many ≤ 3) (h1 : okCols found [] z.1) (h2 : refsN z.1 = 0) (h3 : z.1.map Prod.fst = (["p", "size"] : List Str).take n) :
    ∀ j, j ≤ many → okCols found [] (innerT found k j z).1 ∧ refsN (innerT found k j z).1 = j ∧ (innerT found k j z).1.map Prod.fst = (["p", "size"] : List Str).take n ++ (["r", "one"] : List Str).take j
  | 0, _ => ⟨h1, h2, by rw [List.take_zero, List.append_nil]; exact h3⟩
  | j + 1, hj => by
    obtain ⟨i1, i2, i3⟩ := inner_ok hk hk0 hn hm2 hs h1 h2 h3 j (by omega)
    have kp := hk0 (by omega)
    obtain ⟨f1, f2⟩ := new_ref (n := n) (j := j) hn (by omega)
    rw [← i3] at f2
    have hix : ([k - 1, k - 1, fdI (innerT found k j z).2 k] : List Nat).getD (fdI (fdT (innerT found k j z).2 k) 3) 0 < k := by
      have hfd := fdI_lt (s := (innerT found k j z).2) kp
      have h3 := fdI_lt (s := fdT (innerT found k j z).2 k) (show 0 < 3 by decide)
      generalize fdI (fdT (innerT found k j z).2 k) 3 = q at h3
      match q, h3 with
      | 0, _ => show k - 1 < k; omega
      | 1, _ => show k - 1 < k; omega
      | 2, _ => exact hfd
    show okCols found [] ((innerT found k j z).1 ++ [_]) ∧ refsN ((innerT found k j z).1 ++ [_]) = j + 1 ∧ ((innerT found k j z).1 ++ [_]).map Prod.fst = _
    generalize ([k - 1, k - 1, fdI (innerT found k j z).2 k] : List Nat).getD (fdI (fdT (innerT found k j z).2 k) 3) 0 = ix at hix
    refine ⟨okCols_app.mpr ⟨i1, ⟨?_, True.intro⟩⟩, ?_, ?_⟩
    · rw [List.nil_append]
      refine ⟨by omega, by omega, f1, f2, ?_⟩
      have hi : ix < found.length := by omega
      rw [List.getD_eq_getElem?_getD, List.getElem?_eq_getElem hi]
      exact List.mem_map.mpr ⟨_, List.getElem_mem hi, rfl⟩
    · rw [refsN_snoc, i2]; simp
    · rw [List.map_append, i3, List.append_assoc]
      congr 1
      have : j < 2 := by omega
      match j, this with
      | 0, _ => rfl
      | 1, _ => rfl
theorem outer_ok (s : Fd) (s0 : Fd) : ∀ k, k ≤ 3 → okTabs [] (outerT (namesOf s) s0 k).1 ∧ (outerT (namesOf s) s0 k).1.map Prod.fst = (namesOf s).take k ∧ (outerT (namesOf s) s0 k).2.1 + sumRefs (outerT (namesOf s) s0 k).1 = 3 ∧ ∀ t ∈ (outerT (namesOf s) s0 k).1, ∀ c ∈ t.2, c.1 ∈ CN
  | 0, _ => ⟨True.intro, rfl, rfl, fun t h => by cases h⟩
  | k + 1, hk => by
    obtain ⟨o1, o2, o3, o4⟩ := outer_ok s s0 k (by omega)
    have hlen := outer_len (namesOf s) s0 k
    obtain ⟨n1, n2⟩ := names_ok s
    have n3 := names_len s
    show okTabs [] ((outerT (namesOf s) s0 k).1 ++ [_]) ∧ ((outerT (namesOf s) s0 k).1 ++ [_]).map Prod.fst = _ ∧ _ - _ + sumRefs ((outerT (namesOf s) s0 k).1 ++ [_]) = 3 ∧ ∀ t ∈ (outerT (namesOf s) s0 k).1 ++ [_], ∀ c ∈ t.2, c.1 ∈ CN
    generalize outerT (namesOf s) s0 k = Y at o1 o2 o3 o4 hlen
    obtain ⟨found, left, sk⟩ := Y
    simp only [] at o1 o2 o3 o4 hlen
    obtain ⟨c1, c2, c3⟩ := cols0_ok found sk
    obtain ⟨m1, m2⟩ := many_le k left sk
    have hk0 : 0 < manyOf k left sk → 0 < k := fun h => by
      by_cases z : k = 0
      · have : manyOf k left sk = 0 := if_pos z
        omega
      · omega
    obtain ⟨i1, i2, i3⟩ := inner_ok (z := (cols0 sk, feed2 k sk)) hlen hk0 (few_le (fdI sk 5)) m1 (by omega) c1 c2 c3 (manyOf k left sk) (Nat.le_refl _)
    have hnk : (namesOf s)[k]? = some ((namesOf s).getD k "") := by
      have : k < (namesOf s).length := by omega
      rw [List.getD_eq_getElem?_getD, List.getElem?_eq_getElem this]
      rfl
    have hmem := List.mem_of_getElem? hnk
    have htk : (namesOf s).take (k + 1) = (namesOf s).take k ++ [(namesOf s).getD k ""] := by rw [List.take_add_one, hnk]; rfl
    have hnew : (namesOf s).getD k "" ∉ (namesOf s).take k := fun z => by
      have nd2 : ((namesOf s).take (k + 1)).Nodup := n1.sublist (List.take_sublist _ _)
      rw [htk] at nd2
      exact (List.nodup_append.mp nd2).2.2 _ z _ (by simp) rfl
    refine ⟨okTabs_snoc _ _ _ o1 ⟨(n2 _ hmem).1, ?_, ?_, ?_⟩, ?_, ?_, ?_⟩
    · rw [List.nil_append, o2]; exact hnew
    · rw [List.nil_append]; show found.length < 3; omega
    · rw [List.nil_append]; exact i1
    · rw [List.map_append, o2, htk]; rfl
    · rw [sumRefs_snoc]
      show left - manyOf k left sk + (sumRefs found + refsN (innerT found k (manyOf k left sk) (cols0 sk, feed2 k sk)).1) = 3
      rw [i2]; omega
    · intro t ht c hc
      rcases List.mem_append.mp ht with h | h
      · exact o4 t h c hc
      · rw [List.mem_singleton.mp h] at hc
        have hcn : c.1 ∈ (innerT found k (manyOf k left sk) (cols0 sk, feed2 k sk)).1.map Prod.fst := List.mem_map.mpr ⟨c, hc, rfl⟩
        rw [i3] at hcn
        rcases List.mem_append.mp hcn with q | q
        · have := List.mem_of_mem_take q
          have e : c.1 = "p" ∨ c.1 = "size" := by simpa using this
          rcases e with e | e <;> rw [e] <;> decide +kernel
        · have := List.mem_of_mem_take q
          have e : c.1 = "r" ∨ c.1 = "one" := by simpa using this
          rcases e with e | e <;> rw [e] <;> decide +kernel
theorem cnt_pos (s : Fd) : 1 ≤ countOf s := by
  have h := fdI_lt (s := fdT s 4) (show 0 < 6 by decide)
  unfold countOf CNT
  generalize fdI (fdT s 4) 6 = i at h
  match i, h with
  | 0, _ => decide
  | 1, _ => decide
  | 2, _ => decide
  | 3, _ => decide
  | 4, _ => decide
  | 5, _ => decide
theorem drawn (s : Fd) : okTabs [] (tablesOf s) ∧ tablesOf s ≠ [] ∧ (∀ t ∈ tablesOf s, ∀ c ∈ t.2, c.1 ∈ CN) ∧ ∀ t ∈ tablesOf s, t.1 ≠ "x" := by
  obtain ⟨o1, o2, _, o4⟩ := outer_ok s (fdT (fdT s 4) 6) (countOf s) (cnt_le _)
  have hlen := outer_len (namesOf s) (fdT (fdT s 4) 6) (countOf s)
  refine ⟨o1, fun z => ?_, o4, fun t ht => ?_⟩
  · have := cnt_pos s
    have e : (tablesOf s).length = countOf s := hlen
    rw [z] at e
    simp at e
    omega
  · have : t.1 ∈ (tablesOf s).map Prod.fst := List.mem_map.mpr ⟨t, ht, rfl⟩
    have e : (tablesOf s).map Prod.fst = (namesOf s).take (countOf s) := o2
    rw [e] at this
    exact ((names_ok s).2 _ (List.mem_of_mem_take this)).2
end SP
/-! M3: other names. -/
namespace SP
open PySem L2 DV PM IX
theorem fine_q {n : Str} (h : n ∈ CN) : fineB (n ++ "q") = true := by
  have e : n = "p" ∨ n = "size" ∨ n = "r" ∨ n = "one" := by simpa [CN] using h
  rcases e with rfl | rfl | rfl | rfl <;> decide +kernel
theorem q_inj {a b : Str} (h : a ++ ("q" : Str) = b ++ "q") : a = b := by
  apply lst_eq
  have := congrArg (fun x : Str => x.cps.toList) h
  simp only [app_list] at this
  exact List.append_cancel_right this
theorem xs_ok {i : Nat} (h : i < 3) : fineB (xs i) = true ∧ xs i ∉ (List.range i).map xs := by
  match i, h with
  | 0, _ => decide +kernel
  | 1, _ => decide +kernel
  | 2, _ => decide +kernel
theorem refs_nam (ns : List Str) (cs : List Col) : refsN (cs.map (namC ns)) = refsN cs := by
  unfold refsN
  rw [List.filter_map, List.length_map]
  congr 1
  apply List.filter_congr
  intro c _
  obtain ⟨n, t⟩ := c
  cases t <;> rfl
theorem named_len (T : List Tab) : (namedT T).length = T.length := List.length_mapIdx
theorem named_get {T : List Tab} {i : Nat} {t : Tab} (h : T[i]? = some t) : (namedT T)[i]? = some (namT (T.map (·.1)) i t) := by
  unfold namedT
  rw [List.getElem?_mapIdx, h]; rfl
theorem named_names (T : List Tab) : (namedT T).map (·.1) = (List.range T.length).map xs := by
  apply List.ext_getElem?
  intro i
  rw [List.getElem?_map, List.getElem?_map]
  by_cases h : i < T.length
  · rw [named_get (List.getElem?_eq_getElem h), List.getElem?_range h]; rfl
  · have : (namedT T)[i]? = none := List.getElem?_eq_none (by rw [named_len]; omega)
    have h2 : (List.range T.length)[i]? = none := List.getElem?_eq_none (by rw [List.length_range]; omega)
    rw [this, h2]; rfl
theorem named_take (T : List Tab) (i : Nat) : ((namedT T).take i).map Prod.fst = ((List.range T.length).map xs).take i := by
  rw [List.map_take]
  show (((namedT T).map (·.1)).take i) = _
  rw [named_names]
theorem sum_take {T : List Tab} (i : Nat) : sumRefs ((namedT T).take i) = sumRefs (T.take i) := by
  unfold sumRefs
  congr 1
  apply List.ext_getElem?
  intro j
  rw [List.getElem?_map, List.getElem?_map, List.getElem?_take, List.getElem?_take]
  by_cases hj : j < i
  · rw [if_pos hj, if_pos hj]
    cases h : T[j]? with
    | none =>
      have : (namedT T)[j]? = none := by
        have := List.getElem?_eq_none_iff.mp h
        exact List.getElem?_eq_none (by rw [named_len]; exact this)
      rw [this]
    | some t =>
      rw [named_get h]
      show some (refsN (t.2.map (namC _))) = some (refsN t.2)
      rw [refs_nam]
  · simp only [if_neg hj]
theorem idx_lt {n : Str} {l : List Str} (h : n ∈ l) : idxN n l < l.length := (List.getElem?_eq_some_iff.mp (idxN_get h).1).1
theorem okCols_nam {T0 N0 : List Tab} {ns : List Str} (hs : sumRefs N0 = sumRefs T0) (hm : ∀ e, e ∈ T0.map Prod.fst → xs (idxN e ns) ∈ N0.map Prod.fst) : ∀ (cs done : List Col), (∀ c ∈ cs, c.1 ∈ CN) → okCols T0 done cs → okCols N0 (done.map (namC ns)) (cs.map (namC ns))
  | [], _, _, _ => True.intro
  | c :: r, done, hn, ⟨h1, h2⟩ => by
    have ih := okCols_nam hs hm r (done ++ [c]) (fun c' hc' => hn c' (List.mem_cons_of_mem _ hc')) h2
    rw [List.map_append] at ih
    refine ⟨?_, ih⟩
    have hc := fine_q (hn c List.mem_cons_self)
    have hnew : c.1 ∉ done.map Prod.fst → c.1 ++ "q" ∉ (done.map (namC ns)).map Prod.fst := fun h z => by
      rw [List.map_map] at z
      obtain ⟨d, hd, ed⟩ := List.mem_map.mp z
      exact h (List.mem_map.mpr ⟨d, hd, q_inj ed⟩)
    obtain ⟨n, t⟩ := c
    cases t with
    | none =>
      obtain ⟨a, b, _, d⟩ := h1
      exact ⟨by rw [refs_nam]; exact a, by rw [List.length_map]; exact b, hc, hnew d⟩
    | some t =>
      obtain ⟨a, b, _, d, e⟩ := h1
      exact ⟨by rw [refs_nam]; exact a, by rw [refs_nam, hs]; exact b, hc, hnew d, hm _ e⟩
theorem named_ok {T : List Tab} (h : okTabs [] T) (hn : ∀ t ∈ T, ∀ c ∈ t.2, c.1 ∈ CN) : okTabs [] (namedT T) := by
  have key : ∀ i, i ≤ T.length → okTabs [] ((namedT T).take i) := by
    intro i
    induction i with
    | zero => intro _; exact True.intro
    | succ i ih =>
      intro hi
      have ht : T[i]? = some T[i] := List.getElem?_eq_getElem (by omega)
      generalize T[i] = t at ht
      have h3 := ok_len h
      obtain ⟨x1, x2⟩ := xs_ok (i := i) (by omega)
      obtain ⟨_, _, _, hcs⟩ := okTabs_at h ht
      have e : (namedT T).take (i + 1) = (namedT T).take i ++ [namT (T.map (·.1)) i t] := by rw [List.take_add_one, named_get ht]; rfl
      have er : ((List.range T.length).map xs).take i = (List.range i).map xs := by
        rw [← List.map_take, List.take_range, Nat.min_eq_left (by omega)]
      rw [e]
      refine okTabs_snoc _ _ _ (ih (by omega)) ?_
      rw [List.nil_append]
      refine ⟨x1, by rw [named_take, er]; exact x2, by rw [List.length_take, named_len]; omega, ?_⟩
      refine okCols_nam (T0 := T.take i) (sum_take i) (fun e he => ?_) t.2 [] (hn t (List.mem_of_getElem? ht)) hcs
      rw [named_take, er]
      have he' : e ∈ (T.map (·.1)).take i := by rw [List.map_take] at he; exact he
      have hl := idx_lt he'
      have e2 : idxN e (T.map (·.1)) = idxN e ((T.map (·.1)).take i) := by
        have := idxN_app (m := (T.map (·.1)).drop i) he'
        rw [List.take_append_drop] at this
        exact this
      rw [e2]
      rw [List.length_take, List.length_map] at hl
      exact List.mem_map.mpr ⟨_, List.mem_range.mpr (by omega), rfl⟩
  have := key T.length (Nat.le_refl _)
  rw [← named_len T, List.take_length] at this
  exact this
theorem named_ne {T : List Tab} (h : T ≠ []) : namedT T ≠ [] := fun z => by
  have := named_len T
  rw [z] at this
  exact h (List.length_eq_zero_iff.mp this.symm)
theorem shape_named {T : List Tab} (h : okTabs [] T) (hn : ∀ t ∈ T, ∀ c ∈ t.2, c.1 ∈ CN) : shapeD (namedT T) = shapeD T := by
  have ho := named_ok h hn
  have h3 := ok_len h
  unfold shapeD
  congr 1
  apply List.ext_getElem?
  intro i
  rw [List.getElem?_map, List.getElem?_map]
  cases ht : T[i]? with
  | none =>
    have : (namedT T)[i]? = none := List.getElem?_eq_none (by rw [named_len]; exact List.getElem?_eq_none_iff.mp ht)
    rw [this]; rfl
  | some t =>
    rw [named_get ht]
    show some (D.lst ((t.2.map (namC (T.map (·.1)))).map (idxD ((namedT T).map (·.1))))) = some (D.lst (t.2.map (idxD (T.map (·.1)))))
    congr 2
    rw [List.map_map]
    apply List.map_congr_left
    intro c hc
    obtain ⟨n, o⟩ := c
    cases o with
    | none => rfl
    | some o =>
      have hm := early_ok (ok_early h) t (List.mem_of_getElem? ht) _ hc o rfl
      have hl := idx_lt hm
      rw [List.length_map] at hl
      show D.int (idxN (xs (idxN o (T.map (·.1)))) ((namedT T).map (·.1)) : Nat) = D.int (idxN o (T.map (·.1)) : Nat)
      rw [idxN_nodup (i := idxN o (T.map (·.1))) (ok_nodup ho) (by rw [named_names, List.getElem?_map, List.getElem?_range hl]; rfl)]
theorem rows_head (t : Tab) (r : List Tab) : rowsOf (t :: r) = rowOf ["table", t.1] :: (rowsOf (t :: r)).tail := rfl
theorem named_rows {T : List Tab} (hx : ∀ t ∈ T, t.1 ≠ "x") (hn : T ≠ []) : ¬ rowsOf (namedT T) = rowsOf T := fun z => by
  cases T with
  | nil => exact hn rfl
  | cons t r =>
    have h0 : (namedT (t :: r))[0]? = some (namT ((t :: r).map (·.1)) 0 t) := named_get rfl
    cases hN : namedT (t :: r) with
    | nil => rw [hN] at h0; cases h0
    | cons u q =>
      rw [hN] at h0 z
      have eu : u = namT ((t :: r).map (·.1)) 0 t := Option.some.inj h0
      have z' : rowOf ["table", u.1] :: (rowsOf (u :: q)).tail = rowOf ["table", t.1] :: (rowsOf (t :: r)).tail := z
      have e := (List.cons.inj z').1
      rw [← row_table, ← row_table, Str.empty_append] at e
      have e2 : u.1 = t.1 := by
        apply lst_eq
        have := congrArg (fun x : Str => x.cps.toList) e
        simp only [app_list] at this
        exact List.append_cancel_left this
      have e3 : u.1 = "x" := by rw [eu]; rfl
      exact hx t List.mem_cons_self (e2 ▸ e3)
theorem lows_nam (ns : List Str) (cs : List Col) : lowsOf (cs.map (namC ns)) = lowsOf cs := by
  unfold lowsOf
  rw [List.map_map]
  congr 1
  apply List.map_congr_left
  intro c _
  obtain ⟨n, t⟩ := c
  cases t <;> rfl
theorem row_nam (ns : List Str) (cs : List Col) (vs : List Int) : rowB (cs.map (namC ns)) vs = rowB cs vs := by
  unfold rowB
  rw [lows_nam, List.length_map]
end SP
/-! L0: what the law needs beside. -/
namespace SP
open PySem L2 DV PM IX
variable {K : PySem.W.Frag}
section
variable {P : List Addr} {ss : List Sl} {cs cs1 cs2 : List (List D)} {te : TE} {ta : TA} {B0 H0 H : Hp} {σ : L2.St} {De : Ends}
theorem ef_lst {tA : TA} {ds : List D} (h : EvA K P ss cs tA (ds.map Sl.dat) cs1) (hl : ds.length ≤ 1000000 := by decide) : EvF K P ss cs (tLst tA) ds cs1 := fun B H σ o Q q =>
  h B H σ o _ fun vs B1 H1 s1 o1 r1 => by
    have ra := rsA r1
    refine ⟨le_line (by rw [ra.length]; exact hl), fun p hp => ?_⟩
    have hp0 : H p = none := by
      cases e : H p with
      | none => rfl
      | some u => obtain ⟨u', h'⟩ := s1.dm p u e; rw [hp] at h'; cases h'
    have bp : B1 p = none := o1.ex.free hp
    have hP : p ∉ P := fun z => by
      obtain ⟨u, h1, _⟩ := o1.mu.mem z
      rw [hp] at h1; cases h1
    refine q p vs B1 _ hp0 ⟨s1.ex, fun b u n e => ?_, s1.nb, fun b u e => ?_⟩ ⟨ex_upd o1.ex bp, o1.sl, o1.mu.keep (Ex.refl _) (fun x hx => upd_ne fun z => hP (z ▸ hx)) fun x hx => (o1.mu.mem hx).choose_spec.2⟩ upd_same bp ra
    · rw [upd_ne (ne_of_none e hp0)]; exact s1.fr b u n e
    · rw [upd_ne (ne_of_none e hp0)]; exact s1.dm b u e
/-- a new list, told to nobody -/
def spFeed (K : PySem.W.Frag) : Sp := fun vs H Q _ => ∃ B ns i, RSs K B vs [.dat (.fro (ns.map D.int)), .dat (.int (i : Nat))] ∧ ns.length ≤ 63 ∧ i < 60 ∧ Ex B H ∧
  ∀ p ws B' H', H p = none → Stp [] B H B' H' → Ex B' H' → H' p = some (.lst ws) → B' p = none → RpA K B' ws (fdD (preFeed.feedOf ns i)) → Q (.ref p) H'
theorem ef_feed {ns : List Int} {i : Nat} (h : EvA K P ss cs ta [.dat (.fro (ns.map D.int)), .dat (.int (i : Nat))] cs1) (hl : ns.length ≤ 63) (hi : i < 60) : EvF K P ss cs (tCall (spFeed K) [] E0 ta) (fdD (preFeed.feedOf ns i)) cs1 := fun B H σ o Q q =>
  h B H σ o _ fun vs B1 H1 s1 o1 r1 => by
    show spFeed K (vs ++ []) H1 Q E0
    rw [List.append_nil]
    refine ⟨B1, ns, i, r1, hl, hi, o1.ex, fun p ws B2 H2 hp s2 e2 h2 b2 r2 => ?_⟩
    have hp0 : H p = none := by
      cases e : H p with
      | none => rfl
      | some u => obtain ⟨u', h'⟩ := s1.dm p u e; rw [hp] at h'; cases h'
    exact q p ws B2 H2 hp0 (s1.trans s2.ofNil) (o1.step0 s2 e2) h2 b2 r2
theorem st_par {i j : Nat} {r1 r2 : Sl} (h : Sta K P B0 H0 ss cs σ H) (he : EvA K P ss cs ta [r1, r2] cs1) (k : ∀ σ' H', Sta K P B0 H0 ((ss.set i r1).set j r2) cs1 σ' H' → De.nx σ' H') : tPar i j ta De σ H := by
  obtain ⟨B, s, o⟩ := h
  refine he B H σ o _ fun vs B1 H1 s1 o1 r => ?_
  obtain ⟨v, v', rfl, h1, h2⟩ := rs2 r
  exact ⟨v, v', rfl, k _ _ ⟨B1, s.trans s1, o1.ex, (o1.sl.set h1).set h2, o1.mu⟩⟩
theorem ev_cmeth {C : Addr} {pre : Pre} {rs : List Sl} {r : Sl} (ha : EvA K P ss cs ta rs cs1) (hp : pre (.val (.ref C) :: rs) [] [] r []) : Ev K P ss cs (ClX.tCMeth C (spM K pre) E0 (tC (.ref C)) ta) r cs1 := fun B H σ o Q q => by
  refine ⟨rfl, ha B H σ o _ fun vs B1 H1 s1 o1 r1 => ?_⟩
  exact ⟨B1, _, [], [], r, [], hp, o1.ex, ⟨rfl, r1⟩, True.intro, fun v B2 H2 s2 e2 _ v2 => q v B2 H2 (s1.trans s2.ofNil) (o1.step0 s2 e2) v2⟩
end
theorem cb_strOwn {C : Addr} {T : List Tab} (hT : tabsOk T) : CbD K (OWN.rStrOwn C (spM K (preStr C))) [.dat (schD C T)] (.dat (.str (textOf T))) := fun B H vs e h Q q => by
  obtain ⟨v, rfl, h1⟩ := rs1 h
  have a' : Rp K B v (schD C T) := h1
  obtain ⟨a, rfl⟩ : ∃ a, v = .ref a := by
    unfold schD at a'
    cases a' with
    | @obj a => exact ⟨a, rfl⟩
  obtain ⟨dx, fvs, hH⟩ : ∃ dx fvs, H a = some (.ins C dx fvs) := by
    unfold schD at a'
    cases a' with
    | obj h5 _ => exact ⟨_, _, e _ _ h5⟩
  refine ⟨a, dx, fvs, rfl, hH, B, _, [], [], _, [], ⟨T, rfl, hT, rfl, rfl, rfl, rfl⟩, e, ⟨h1, True.intro⟩, True.intro, fun z B2 H2 s2 e2 _ v2 => ?_⟩
  have b' : Rp K B2 z (.str (textOf T)) := v2
  cases b'
  exact ⟨_, rfl, q _ B2 H2 s2 e2 v2⟩
theorem od_eqOwn {C : Addr} {T U : List Tab} {neg : Bool} (hT : tabsOk T) (hU : tabsOk U) : OpD K (OWN.rEqOwn K C (spM K (preSEq C)) neg) (.dat (schD C T)) (.dat (schD C U)) (.dat (.bl (if neg then !decide (rowsOf T = rowsOf U) else decide (rowsOf T = rowsOf U)))) := fun B H x y e h1 h2 Q q => by
  have isRef : ∀ {v : V} {T : List Tab}, Rp K B v (schD C T) → ∃ a dx fvs, v = .ref a ∧ H a = some (.ins C dx fvs) := fun {v T} a' => by
    unfold schD at a'
    cases a' with
    | @obj a _ dx fvs _ h5 _ => exact ⟨a, dx, fvs, rfl, e _ _ h5⟩
  obtain ⟨a, dx, fs, rfl, ha⟩ := isRef h1
  obtain ⟨b, dy, gs, rfl, hb⟩ := isRef h2
  refine ⟨a, dx, fs, rfl, ha, ⟨b, dy, gs, rfl, hb⟩, B, _, [], [], _, [], ⟨T, U, rfl, hT, hU, rfl, rfl, rfl, rfl⟩, e, ⟨h1, h2, True.intro⟩, True.intro, fun z B2 H2 s2 e2 _ v2 => ?_⟩
  have b' : Rp K B2 z (.bl (decide (rowsOf T = rowsOf U))) := v2
  cases b'
  exact ⟨_, rfl, q _ B2 H2 s2 e2 (.bl _)⟩
end SP
/-! K5: the law's own look at a row, and its values. -/
namespace SP
open PySem L2 DV PM IX
variable {K : PySem.W.Frag}
def preLRight : Pre := fun rs Pl cs r cs' => ∃ (cols : List Col) (d : D) (t : String), rs = [.dat (.lst (cols.map encC)), .dat d] ∧ cols.length ≤ 1000 ∧ tyN d = some t ∧ notNt d = true ∧ (∀ ds, d = .tup ds → ds.length ≤ 1000 ∧ ∀ e ∈ ds, ∃ u, tyN e = some u) ∧ Pl = [] ∧ cs = [] ∧ r = .dat (.bl (rowG cols d)) ∧ cs' = []
def OPT4 : List Int := [0, 1, 7, 10 ^ (6 : Int).toNat]
def rolls4 (z : Fd) : Nat → List Int × Fd
  | 0 => ([], z)
  | j + 1 => ((rolls4 z j).1 ++ [OPT4.getD (fdI (rolls4 z j).2 4) 0], fdT (rolls4 z j).2 4)
theorem rolls4_len (z : Fd) : ∀ j, (rolls4 z j).1.length = j
  | 0 => rfl
  | j + 1 => by
    show ((rolls4 z j).1 ++ [_]).length = j + 1
    rw [List.length_append, rolls4_len z j]; rfl
theorem opt4_small : ∀ i, (OPT4.getD i 0).natAbs ≤ 10 ^ 30 := fun i => by
  unfold OPT4
  match i with
  | 0 => decide
  | 1 => decide
  | 2 => decide
  | 3 => decide
  | n + 4 => simp
theorem rolls4_small (z : Fd) : ∀ j, ∀ i ∈ (rolls4 z j).1, i.natAbs ≤ 10 ^ 30
  | 0, i, h => by cases h
  | j + 1, i, h => by
    rcases List.mem_append.mp (show i ∈ (rolls4 z j).1 ++ [OPT4.getD (fdI (rolls4 z j).2 4) 0] from h) with h | h
    · exact rolls4_small z j i h
    · rw [List.mem_singleton.mp h]; exact opt4_small _
def ONES : List D := [.int (-1), .bl true, .bl false, .non, .str "1", .lst [.int 1], .int (10 ^ (6 : Int).toNat + 1), .int (-(10 ^ (6 : Int).toNat)), .int (-(10 ^ (6 : Int).toNat) - 1), .tup [.int 1], .dic [], .int (10 ^ (30 : Int).toNat)]
def valsA (R : List D) (n : Nat) : List D := [.tup R, .tup (cutD R none (some (-1))), .tup (R ++ [.int 0]), .lst R, .non, .int 7, .str "", .dic [], .tup [], .lst [], .tup [.tup R], .lst [.tup R],
  .dic ((List.range n).map fun (k : Nat) => ((Sum.inl (k : Int) : Key), D.non)), .dic ((List.range n).map fun (k : Nat) => ((Sum.inl ((k : Int) + 5) : Key), D.int (k : Int)))]
def valO (R : List D) (at' : Nat) (one : D) : D := .tup (cutD R none (some (at' : Nat)) ++ [one] ++ cutD R (some ((at' : Nat) + 1)) none)
def valsOf (s : Fd) (n : Nat) : List D := valsA ((rolls4 s n).1.map D.int) n ++ ONES.map (valO ((rolls4 s n).1.map D.int) (fdI (rolls4 s n).2 n))
def preValues : Pre := fun rs Pl cs r cs' => ∃ (p : Addr) (s : Fd) (cols : List Col), rs = [.val (.ref p), .dat (.lst (cols.map encC))] ∧ cols.length ≤ 100 ∧ Pl = [p] ∧ cs = [fdD s] ∧ r = .dat (.lst (valsOf s (cols.length + 1))) ∧ cs' = [fdD (fdT (rolls4 s (cols.length + 1)).2 (cols.length + 1))]
end SP
namespace T3
open PySem L2 DV PM SP IX
abbrev s_l_is_right : Stmt := topS 29
abbrev N_l_is_right : List Str := ["columns", "value", "lows", "low", "one", "name", "target"]
theorem sc_l_is_right : FnScope N_l_is_right ["columns", "value"] (defScope s_l_is_right) := ⟨rfl, rfl, rfl, by decide +kernel, rfl, by decide +kernel, by decide +kernel⟩

abbrev s_l_values : Stmt := topS 30
abbrev N_l_values : List Str := ["feed", "columns", "right", "at", "found", "one", "turn", "k"]
theorem sc_l_values : FnScope N_l_values ["feed", "columns"] (defScope s_l_values) := ⟨rfl, rfl, rfl, by decide +kernel, rfl, by decide +kernel, by decide +kernel⟩

section
variable {P : Program} {w : World} {K : PySem.W.Frag} {mg : Str → Option Value} {base : Heap} {C : Addr}
theorem ok_lright {f : Addr} {fd : FuncData} (F : Fun K "_law_is_right" "_law_is_right" s_l_is_right f fd) (b_isinstance : mg "isinstance" = none) (b_tuple : mg "tuple" = none) (b_int : mg "int" = none) (b_bool : mg "bool" = none) (b_len : mg "len" = none) (b_zip : mg "zip" = none) :
    FnOk P w K mg base CX0 1 f fd ["columns", "value"] (spM K preLRight) := by
  refine ok_body F sc_l_is_right (fun rs Pl cs r cs' h => ?_) (fun X hX hr => ?_)
  · obtain ⟨cols, d, t, rfl, _⟩ := h
    rfl
  obtain ⟨cdv, A, outer, s, H, E, rfl⟩ := hX
  have nd := sc_l_is_right.nd
  refine ⟨_, (pss_cons (ps_if (PW.pt (pw_or (pt_not (pt_val (pe_callB call_isi (by rfl) b_isinstance (by decide +kernel) (pa_cons (pv 1) (pa_cons (pe_bltn (v := .ty "tuple") (by rfl) b_tuple (by decide +kernel) rfl) pa_nil))))) (pw_or1 (pt_cmpR (op_neA hr.units) (pe_callB call_len1 (by rfl) b_len PySem.boot_len (pa_cons (pv 1) pa_nil)) (pe_op op_addA (pe_callB call_len1 (by rfl) b_len PySem.boot_len (pa_cons (pv 0) pa_nil)) pe_int) (nomark _))))) (pss_one (ps_ret pe_bl)) pss_nil)
      (pss_cons (ps_set (i := 2) nd rfl (.inl rfl) (pe_op op_addA (pe_lst (pa_cons pe_int pa_nil)) (pe_lc (own := [("name", 5), ("target", 6)]) (g := (gTup K 2 (gCons (gName 5) (gCons (gName 6) gNil)))) (tt := tYes) (te := (tIf (tTest (tOp rIsN (tVar 6) (tC .non))) (tUn (rU fun i => .int (-i)) (tOp (rI CPow fun i j => .int (i ^ j.toNat)) (tC (.int 10)) (tC (.int 6)))) (tC (.int 0)))) rfl nd (pi_list (pv 0)) (blkOk_by (N := N_l_is_right) (sc := defScope s_l_is_right) (by decide +kernel)) (by intro _ _ _ _ _; exact (pg_tup (by rfl) (by exact (pgs_cons (by exact (pg_name (i := 5) nd (by rfl) (by first | exact .inl rfl | exact .inr rfl))) (by exact (pgs_cons (by exact (pg_name (i := 6) nd (by rfl) (by first | exact .inl rfl | exact .inr rfl))) (by exact pgs_nil))))))) (by intro _ _ _ _ _; exact pts_nil) (by intro _ _ _ _ _; exact (pe_ifExp (pt_cmpR op_isN' (pv 6) pe_non (nomark _)) (pe_un un_neg (pe_op op_pow pe_int pe_int)) pe_int)))))
      (pss_cons (ps_for PassesOwn.never rfl (ZN.pi_zipN (by rfl) b_zip (pa_cons (pv 2) (pa_cons (pv 1) pa_nil))) (pg_tup (by rfl) (by exact (pgs_cons (by exact (pg_name (i := 3) nd (by rfl) (by first | exact .inl rfl | exact .inr rfl))) (by exact (pgs_cons (by exact (pg_name (i := 4) nd (by rfl) (by first | exact .inl rfl | exact .inr rfl))) (by exact pgs_nil)))))) (pss_one (ps_if (PW.pt (pw_or (pt_not (pt_val (pe_callB call_isi (by rfl) b_isinstance (by decide +kernel) (pa_cons (pv 4) (pa_cons (pe_bltn (v := .ty "int") (by rfl) b_int (by decide +kernel) rfl) pa_nil))))) (pw_or (pt_val (pe_callB call_isi (by rfl) b_isinstance (by decide +kernel) (pa_cons (pv 4) (pa_cons (pe_bltn (v := .ty "bool") (by rfl) b_bool (by decide +kernel) rfl) pa_nil)))) (pw_or1 (pt_not (pt_chain op_le op_le (pv 3) (pv 4) (pe_op op_pow pe_int pe_int))))))) (pss_one (ps_ret pe_bl)) pss_nil)))
      (pss_one (ps_ret pe_bl))))), ?_⟩
  intro rs Pl cs r cs' hp B0 H0 σ Dn st hP hd hn
  obtain ⟨cols, d, t, rfl, hcl, ht, hnt, hds, rfl, rfl, rfl, rfl⟩ := hp
  obtain ⟨k0, _, _⟩ := kit_all t (tyN_mem ht)
  by_cases hty : t = "tuple"
  · obtain ⟨ds, rfl⟩ : ∃ ds, d = .tup ds := by
      subst hty
      cases d <;> first | exact ⟨_, rfl⟩ | (cases hnt; done) | (exfalso; simp [tyN] at ht; done)
    obtain ⟨hl, hel⟩ := hds ds rfl
    have st : Sta K [] B0 H0 [.dat (.lst (cols.map encC)), .dat (.tup ds), .any, .any, .any, .any, .any] [] σ H0 := st
    refine st_seq (st_if (cs1 := []) (b := (!(t == "tuple") || !decide ((ds.length : Int) = ((cols.map encC).length : Int) + 1))) st (et_or (et_not (et_B (ev_cb (ea_cons (ev_var (i := 1) rfl) (ea_cons ev_val ea_nil)) (cb_isG ht k0)))) (fun _ => et_test (ev_op (ev_cb (ea_cons (ev_var (i := 1) rfl) ea_nil) cb_lenT) (ev_op (ev_cb (ea_cons (ev_var (i := 0) rfl) ea_nil) cb_lenL) ev_int od_addI) od_neI))) (fun hb H2 st2 => ?_) (fun hb H2 st2 => ?_))
    · have e : rowG cols (.tup ds) = false := by
        have h1 : ¬ ds.length = 1 + cols.length := by
          intro z
          rw [List.length_map, z, hty] at hb
          simp at hb
          omega
        unfold rowG
        simp only [decide_eq_false h1, Bool.false_and]
      rw [e] at hd
      exact st_ret (cs1 := []) st2 ev_bl hd
    · have h1 : ds.length = 1 + cols.length := by
        rw [List.length_map, hty] at hb
        simp at hb
        omega
      have e : rowG cols (.tup ds) = ((List.zip ds (lowsOf cols)).all fun p => withD p.1 p.2 1000000) := by
        unfold rowG
        simp only [decide_eq_true h1, Bool.true_and]
      rw [e] at hd
      refine st_ns ?_
      refine st_seq (st_asg (cs1 := []) (i := 2) (r := .dat (.lst ((lowsOf cols).map D.int))) st2 ?_ (fun σ3 H3 st3 => ?_))
      · have e2 : (lowsOf cols).map D.int = [D.int 0] ++ cols.map (fun c => D.int (if c.2.isNone then -1000000 else 0)) := by
          unfold lowsOf
          rw [List.map_cons, List.map_map]
          rfl
        rw [e2]
        refine ev_op (ev_lst (ds := [_]) (ea_cons ev_int ea_nil) (by simp)) (EvF.ev (ef_mapE (l := cols) (enc := encC) (wd_lst (ev_var rfl)) (fun c => D.int (if c.2.isNone then -1000000 else 0)) (by omega) (fun p i c acc hd' => ?_))) (od_addL (by simp; omega))
        obtain ⟨n', t⟩ := c
        cases t with
        | none => exact ⟨_, _, g_tup (g_cons g_name (g_cons g_name g_nil)), by decide, ev_if (b := true) (et_test (ev_op (ev_var rfl) ev_non od_isN)) (fun _ => ev_un (r1 := .dat (.int 1000000)) (ev_op ev_int ev_int (od_I (d := .int _) ⟨by decide, by decide, by decide⟩ fun _ => .int _)) un_negD) (fun z => by cases z)⟩
        | some t => exact ⟨_, _, g_tup (g_cons g_name (g_cons g_name g_nil)), by decide, ev_if (b := false) (et_test (ev_op (ev_var rfl) ev_non od_isN)) (fun z => by cases z) (fun _ => ev_int)⟩
      · have e3 : zipD ((lowsOf cols).map D.int) ds = (List.zip ds (lowsOf cols)).map fun p => D.tup [.int p.2, p.1] := by
          unfold zipD
          rw [List.zipWith_map_left, List.zip, List.map_zipWith, List.zipWith_comm]
        dsimp only []
        refine st_seq (t := tFor _ _ _) ?_
        have st3 : Sta K [] B0 H0 [.dat (.lst (cols.map encC)), .dat (.tup ds), .dat (.lst ((lowsOf cols).map D.int)), .any, .any, .any, .any] [] σ3 H3 := st3
        refine st_for (α := Unit) (cs1 := []) st3 (e3 ▸ wd_zipN (ea_cons (ev_var (i := 2) rfl) (ea_cons (ev_var (i := 1) rfl) ea_nil))) (fun i _ => ((List.zip ds (lowsOf cols)).take i).all (fun p => withD p.1 p.2 1000000) = true) (fun _ _ => [.dat (.lst (cols.map encC)), .dat (.tup ds), .dat (.lst ((lowsOf cols).map D.int)), .any, .any, .any, .any]) (fun _ _ => []) () rfl ⟨.rfl _, .rfl _, .rfl _, .any _, .any _, .any _, .any _, True.intro⟩ rfl ?_ ?_
        · intro B1 H1' s1 i d z hd' hJ
          rw [List.getElem?_map] at hd'
          cases hp : (List.zip ds (lowsOf cols))[i]? with
          | none => rw [hp] at hd'; cases hd'
          | some q =>
            rw [hp] at hd'
            cases hd'
            obtain ⟨one, low⟩ := q
            have hmem := List.mem_of_getElem? hp
            obtain ⟨u, hu⟩ := hel one (List.of_mem_zip hmem).1
            obtain ⟨_, k1, k2⟩ := kit_all u (tyN_mem hu)
            refine ⟨_, _, g_tup (g_cons g_name (g_cons g_name g_nil)), fun σ4 H4 st4 => ?_⟩
            have eb : (!(u == "int" || u == "bool") || ((u == "bool") || !withD one low 1000000)) = !withD one low 1000000 := by
              cases one <;> cases hu <;> first | rfl | (unfold withD; simp; done)
            refine st_if (cs1 := []) (b := !withD one low 1000000) st4 ((et_or (et_not (et_B (ev_cb (ea_cons (ev_var (i := 4) rfl) (ea_cons ev_val ea_nil)) (cb_isG hu k1)))) (fun h1 => et_or (et_B (ev_cb (ea_cons (ev_var (i := 4) rfl) (ea_cons ev_val ea_nil)) (cb_isG hu k2))) (fun h2 => et_not (et_test ?_)))).eq eb) (fun hb H5 st5 => ?_) (fun hb H5 st5 => ?_)
            · have hi' : ∃ v, one = .int v := by
                cases one <;> cases hu <;> first | exact ⟨_, rfl⟩ | (exfalso; revert h1 h2; decide)
              obtain ⟨v, rfl⟩ := hi'
              exact ev_chain (cs3 := []) (ev_var (i := 3) rfl) (ev_var (i := 4) rfl) (fun _ => ev_op ev_int ev_int (od_I (d := .int 1000000) ⟨by decide, by decide, by decide⟩ fun _ => .int _))
            · have ef : ((List.zip ds (lowsOf cols)).all fun p => withD p.1 p.2 1000000) = false := by
                rw [List.all_eq_false]
                exact ⟨_, hmem, by simpa using hb⟩
              rw [ef] at hd
              exact st_ret (cs1 := []) (st5.base s1) ev_bl hd
            · refine ⟨(), ?_, st5.le ⟨.rfl _, .rfl _, .rfl _, .any _, .any _, .any _, .any _, True.intro⟩⟩
              have hJ' : ((List.zip ds (lowsOf cols)).take i).all (fun p => withD p.1 p.2 1000000) = true := hJ
              show ((List.zip ds (lowsOf cols)).take (i + 1)).all (fun p => withD p.1 p.2 1000000) = true
              rw [List.take_add_one, hp, List.all_append, hJ']
              have : withD one low 1000000 = true := by simpa using hb
              simp [this]
        · intro z σ4 H4 hJ st4
          rw [List.length_map, List.take_length] at hJ
          rw [hJ] at hd
          exact st_ret (cs1 := []) st4 ev_bl hd
  · have eb : (t == "tuple") = false := by simpa using hty
    have e : rowG cols d = false := by
      cases d <;> first | rfl | (exfalso; cases ht; exact hty rfl)
    rw [e] at hd
    rw [eb] at k0
    refine st_seq (st_if (cs1 := []) (b := (!false || true)) st (et_or (b := true) (et_not (et_B (ev_cb (ea_cons (ev_var rfl) (ea_cons ev_val ea_nil)) (cb_isG ht k0)))) (fun z => by cases z)) (fun hb H2 st2 => ?_) (fun hb H2 st2 => by cases hb))
    exact st_ret (cs1 := []) st2 ev_bl hd
end
end T3
/-! K6: the law's values. -/
namespace SP
open PySem L2 DV PM IX T3
variable {K : PySem.W.Frag}
section
variable {P : List Addr} {ss : List Sl} {cs cs1 cs2 cs3 : List (List D)} {te : TE} {p : Addr} {s : Fd} {i j n : Nat} {E : XK}
theorem ev_takeN (h0 : 0 < n) (h1 : n ≤ 100000) (hi : ss[i]? = some (.val (.ref p))) (he : Ev K P ss cs te (.dat (.int (n : Nat))) cs1) (hP : P[j]? = some p) (hc : cs1[j]? = some (fdD s)) :
    Ev K P ss cs (tCall (spM K preTake) [] E (tCons (tVar i) (tCons te tNil))) (.dat (.int (fdI s n : Nat))) (cs1.set j (fdD (fdT s n))) :=
  ev_call1 (j := j) (ds := fdD s) (ds' := fdD (fdT s n)) (ea_cons (r := .val (.ref p)) (ev_var hi) (ea_cons he ea_nil)) hP hc ⟨p, s, n, rfl, rfl, rfl, h0, h1, rfl, rfl⟩
theorem rangeD0 (n : Nat) : rangeD 0 n = (List.range n).map fun (k : Nat) => D.int (k : Int) := by
  unfold rangeD
  exact List.map_congr_left fun k _ => by rw [Int.zero_add]
end
theorem nodup_range (f : Nat → Int) (hf : ∀ a b, f a = f b → a = b) (g : Nat → D) (n : Nat) : (((List.range n).map fun (k : Nat) => (f k, g k)).map (·.1)).Nodup := by
  rw [List.map_map]
  exact List.pairwise_map.mpr (List.nodup_range.imp fun h z => h (hf _ _ z))
end SP
namespace T3
open PySem L2 DV PM SP IX
section
variable {P : Program} {w : World} {K : PySem.W.Frag} {mg : Str → Option Value} {base : Heap} {C : Addr}
theorem ok_values {f fP fT : Addr} {fd fdP fdTk : FuncData} (F : Fun K "_law_values" "_law_values" s_l_values f fd) (G_l_pick : Def P w K mg base 2 "_law_pick" fP fdP ["feed", "options"] (spM K prePick)) (G_l_take : Def P w K mg base 1 "_law_take" fT fdTk ["feed", "size"] (spM K preTake))
    (b_tuple : mg "tuple" = none) (b_list : mg "list" = none) (b_dict : mg "dict" = none) (b_len : mg "len" = none) (b_range : mg "range" = none) :
    FnOk P w K mg base CX0 3 f fd ["feed", "columns"] (spM K preValues) := by
  refine ok_body F sc_l_values (fun rs Pl cs r cs' h => ?_) (fun X hX hr => ?_)
  · obtain ⟨p, s, cols, rfl, _⟩ := h
    rfl
  obtain ⟨cdv, A, outer, s', H, E, rfl⟩ := hX
  have nd := sc_l_values.nd
  refine ⟨_, (pss_cons (ps_set (i := 2) nd rfl (.inl rfl) (pe_callTy call_tuple1 (by rfl) b_tuple (by decide +kernel) (pa_cons (pe_lc (own := [("turn", 6)]) (g := (gName 6)) (tt := tYes) (te := (tCall _ [] E0 (tCons (tVar 0) (tCons (tLst (tCons (tC (.int 0)) (tCons (tC (.int 1)) (tCons (tC (.int 7)) (tCons (tOp (rI CPow fun i j => .int (i ^ j.toNat)) (tC (.int 10)) (tC (.int 6))) tNil))))) tNil)))) rfl nd (pi_range1 (by rfl) b_range (pa_cons (pe_op op_addA (pe_callB call_len1 (by rfl) b_len PySem.boot_len (pa_cons (pv 1) pa_nil)) pe_int) pa_nil)) (blkOk_by (N := N_l_values) (sc := defScope s_l_values) (by decide +kernel)) (by intro _ _ _ _ _; exact (pg_name (i := 6) nd (by rfl) (by first | exact .inl rfl | exact .inr rfl))) (by intro _ _ _ _ _; exact pts_nil) (by intro _ _ _ _ _; exact (pe_def G_l_pick hr (by decide) (by rfl) (pa_cons (pv 0) (pa_cons (pe_lst (pa_cons pe_int (pa_cons pe_int (pa_cons pe_int (pa_cons (pe_op op_pow pe_int pe_int) pa_nil))))) pa_nil))))) pa_nil)))
      (pss_cons (ps_set (i := 3) nd rfl (.inl rfl) (pe_def G_l_take hr (by decide) (by rfl) (pa_cons (pv 0) (pa_cons (pe_callB call_len1 (by rfl) b_len PySem.boot_len (pa_cons (pv 2) pa_nil)) pa_nil))))
      (pss_cons (ps_set (i := 4) nd rfl (.inl rfl) (pe_lst (pa_cons (pv 2) (pa_cons (pe_slice sl_3 (pv 2) po_none (po_some (pe_un un_neg pe_int))) (pa_cons (pe_op op_addA (pv 2) (pe_tup (pa_cons pe_int pa_nil))) (pa_cons (pe_callTy call_list1 (by rfl) b_list (by decide +kernel) (pa_cons (pv 2) pa_nil)) (pa_cons pe_non (pa_cons pe_int (pa_cons pe_str (pa_cons pe_dnewK (pa_cons (pe_tup pa_nil) (pa_cons (pe_lst pa_nil) (pa_cons (pe_tup (pa_cons (pv 2) pa_nil)) (pa_cons (pe_lst (pa_cons (pv 2) pa_nil)) pa_nil))))))))))))))
      (pss_cons (ps_expr (pe_bm PySem.F.plainAttrs_list PySem.F.slot_list_append PySem.F.type_list_append mt_append (pv 4) (pa_cons (pe_callTy (call_dictP1 rfl) (by rfl) b_dict (by decide +kernel) (pa_cons (pe_lc (own := [("k", 7)]) (g := (gName 7)) (tt := tYes) (te := (tTup (tCons (tVar 7) (tCons (tC .non) tNil)))) rfl nd (pi_range1 (by rfl) b_range (pa_cons (pe_callB call_len1 (by rfl) b_len PySem.boot_len (pa_cons (pv 2) pa_nil)) pa_nil)) (blkOk_by (N := N_l_values) (sc := defScope s_l_values) (by decide +kernel)) (by intro _ _ _ _ _; exact (pg_name (i := 7) nd (by rfl) (by first | exact .inl rfl | exact .inr rfl))) (by intro _ _ _ _ _; exact pts_nil) (by intro _ _ _ _ _; exact (pe_tup (pa_cons (pv 7) (pa_cons pe_non pa_nil))))) pa_nil)) pa_nil)))
      (pss_cons (ps_expr (pe_bm PySem.F.plainAttrs_list PySem.F.slot_list_append PySem.F.type_list_append mt_append (pv 4) (pa_cons (pe_callTy (call_dictP1 rfl) (by rfl) b_dict (by decide +kernel) (pa_cons (pe_lc (own := [("k", 7)]) (g := (gName 7)) (tt := tYes) (te := (tTup (tCons (tOp (addA K) (tVar 7) (tC (.int 5))) (tCons (tVar 7) tNil)))) rfl nd (pi_range1 (by rfl) b_range (pa_cons (pe_callB call_len1 (by rfl) b_len PySem.boot_len (pa_cons (pv 2) pa_nil)) pa_nil)) (blkOk_by (N := N_l_values) (sc := defScope s_l_values) (by decide +kernel)) (by intro _ _ _ _ _; exact (pg_name (i := 7) nd (by rfl) (by first | exact .inl rfl | exact .inr rfl))) (by intro _ _ _ _ _; exact pts_nil) (by intro _ _ _ _ _; exact (pe_tup (pa_cons (pe_op op_addA (pv 7) pe_int) (pa_cons (pv 7) pa_nil))))) pa_nil)) pa_nil)))
      (pss_cons (ps_for PassesOwn.never rfl (pi_tup (pe_tup (pa_cons (pe_un un_neg pe_int) (pa_cons pe_bl (pa_cons pe_bl (pa_cons pe_non (pa_cons pe_str (pa_cons (pe_lst (pa_cons pe_int pa_nil)) (pa_cons (pe_op op_addA (pe_op op_pow pe_int pe_int) pe_int) (pa_cons (pe_un un_neg (pe_op op_pow pe_int pe_int)) (pa_cons (pe_op op_sub (pe_un un_neg (pe_op op_pow pe_int pe_int)) pe_int) (pa_cons (pe_tup (pa_cons pe_int pa_nil)) (pa_cons pe_dnewK (pa_cons (pe_op op_pow pe_int pe_int) pa_nil)))))))))))))) (pg_name (i := 5) nd (by rfl) (by first | exact .inl rfl | exact .inr rfl)) (pss_one (ps_expr (pe_bm PySem.F.plainAttrs_list PySem.F.slot_list_append PySem.F.type_list_append mt_append (pv 4) (pa_cons (pe_op op_addA (pe_op op_addA (pe_slice sl_3 (pv 2) po_none (po_some (pv 3))) (pe_tup (pa_cons (pv 5) pa_nil))) (pe_slice sl_3 (pv 2) (po_some (pe_op op_addA (pv 3) pe_int)) po_none)) pa_nil)))))
      (pss_one (ps_ret (pv 4))))))))), ?_⟩
  intro rs Pl cs r cs' hp B0 H0 σ Dn st hP hd hn
  obtain ⟨p, s, cols, rfl, hcl, rfl, rfl, rfl, rfl⟩ := hp
  have st : Sta K [p] B0 H0 [.val (.ref p), .dat (.lst (cols.map encC)), .any, .any, .any, .any, .any, .any] [fdD s] σ H0 := st
  have hrl := rolls4_len s
  generalize hN : cols.length + 1 = n at hd
  have hn0 : 0 < n := by omega
  have hrm : (rangeD 0 ((n : Nat) : Int).toNat).length = n := by rw [rangeD_len, Int.toNat_natCast]
  refine st_seq (st_asg (i := 2) (r := .dat (.tup ((rolls4 s n).1.map D.int))) (cs1 := [fdD (rolls4 s n).2]) st (ev_cb (ea_cons (EvF.ev ?_) ea_nil) cb_tupleL) (fun σ1 H1 st1 => ?_))
  · have q := ef_lc (K := K) (P := [p]) (ss := [.val (.ref p), .dat (.lst (cols.map encC)), .any, .any, .any, .any, .any, .any]) (cs := [fdD s]) (cs1 := [fdD s]) (tt := tYes) (g := gName 6) (vs := [6]) (te := tCall (spM K prePick) [] E0 (tCons (tVar 0) (tCons (tLst (tCons (tC (.int 0)) (tCons (tC (.int 1)) (tCons (tC (.int 7)) (tCons (tOp (rI CPow fun i j => .int (i ^ j.toNat)) (tC (.int 10)) (tC (.int 6))) tNil))))) tNil)))
      (wd_rng1 (n := ((n : Nat) : Int)) (ea_cons ((ev_op (ev_cb (ea_cons (ev_var (i := 1) rfl) ea_nil) cb_lenL) (ev_int (i := 1)) od_addI).eq (by rw [List.length_map, ← hN]; rfl)) ea_nil) (by omega)) (fun i => (rolls4 s i).1.map D.int) (fun i => [fdD (rolls4 s i).2]) rfl rfl (by rw [hrm]; omega) (fun p' i d hp hd => ?_)
    · rw [hrm] at q
      exact q
    · have hpk := pk_get OPT4 D.int 0 (rolls4 s i).2 4 rfl (by decide)
      have hrl2 := hrl i
      refine ⟨by rw [List.length_map, hrl2]; exact Nat.le_refl _, _, _, true, g_name, by decide, fun B H σ o Q q => q B H (Stp.refl _ _ _) o, fun _ => ⟨.int (OPT4.getD (fdI (rolls4 s i).2 4) 0), ?_, ?_⟩, fun z => by cases z⟩
      · exact ev_call1 (j := 1) (cs1 := [(rolls4 s i).1.map D.int, fdD (rolls4 s i).2]) (ds := fdD (rolls4 s i).2) (ds' := fdD (fdT (rolls4 s i).2 4)) (ea_cons (r := .val (.ref p)) (ev_var rfl) (ea_cons (ev_lst (ds := OPT4.map D.int) (ea_cons ev_int (ea_cons ev_int (ea_cons ev_int (ea_cons (ev_op ev_int ev_int (od_I (d := .int _) ⟨by decide, by decide, by decide⟩ fun _ => .int _)) ea_nil))))) ea_nil)) rfl rfl ⟨p, _, _, _, rfl, rfl, rfl, by decide, by decide, hpk, rfl, rfl⟩
      · show (rolls4 s (i + 1)).1.map D.int = _
        show ((rolls4 s i).1 ++ [_]).map D.int = _
        rw [List.map_append]; rfl
  unfold valsOf at hd
  have hvl := hrl n
  generalize hR : (rolls4 s n).1.map D.int = R at *
  have hRl : R.length = n := by rw [← hR, List.length_map, hvl]
  generalize (rolls4 s n).2 = s1 at *
  dsimp only []
  refine st_seq (st_asg (i := 3) (r := .dat (.int (fdI s1 n : Nat))) (cs1 := [fdD (fdT s1 n)]) st1 (ev_takeN (j := 0) (cs1 := [fdD s1]) hn0 (by omega) rfl ((ev_cb (ea_cons (ev_var (i := 2) rfl) ea_nil) cb_lenT).eq (by rw [hRl])) rfl rfl) (fun σ2 H2 st2 => ?_))
  generalize fdI s1 n = at' at *
  generalize fdT s1 n = s2 at *
  have hcut : ∀ lo hi, (cutD R lo hi).length ≤ R.length := fun lo hi => by
    unfold cutD
    rw [List.length_take, List.length_drop]
    omega
  have st2 : Sta K [p] B0 H0 [.val (.ref p), .dat (.lst (cols.map encC)), .dat (.tup R), .dat (.int (at' : Nat)), .any, .any, .any, .any] [fdD s2] σ2 H2 := st2
  dsimp only []
  refine st_seq ?_
  refine st_asgF (i := 4) (cs1 := [fdD s2]) st2 (ef_lst (ds := [.tup R, .tup (cutD R none (some (-1))), .tup (R ++ [.int 0]), .lst R, .non, .int 7, .str "", .dic [], .tup [], .lst [], .tup [.tup R], .lst [.tup R]])
    (ea_cons (ev_var (i := 2) rfl) (ea_cons (ev_sl (ev_var (i := 2) rfl) eo_none (eo_some ev_neg1) sd_T) (ea_cons (ev_op (ev_var (i := 2) rfl) (ev_tup (ds := [.int 0]) (ea_cons ev_int ea_nil)) (od_addT (by simp; omega))) (ea_cons (ev_cb (ea_cons (ev_var (i := 2) rfl) ea_nil) cb_listT) (ea_cons ev_non (ea_cons ev_int (ea_cons ev_str (ea_cons ev_dnew (ea_cons (ev_tup (ds := []) ea_nil) (ea_cons (ev_lst (ds := []) ea_nil)
      (ea_cons (ev_tup (ds := [.tup R]) (ea_cons (ev_var (i := 2) rfl) ea_nil) (by simp)) (ea_cons (ev_lst (ds := [.tup R]) (ea_cons (ev_var (i := 2) rfl) ea_nil) (by simp)) ea_nil)))))))))))) (by simp)) (fun pf σ3 H3 hpf0 hpfn st3 => ?_)
  have elen : ∀ {P : List Addr} {ss : List Sl} {cs : List (List D)}, ss[2]? = some (.dat (.tup R)) → Ev K P ss cs (tCB (rLen1 K) (tCons (tVar 2) tNil)) (.dat (.int ((n : Nat) : Int))) cs := fun h => (ev_cb (ea_cons (ev_var h) ea_nil) cb_lenT).eq (by rw [hRl])
  have st3 : Sta K [pf, p] B0 H0 [.val (.ref p), .dat (.lst (cols.map encC)), .dat (.tup R), .dat (.int (at' : Nat)), .val (.ref pf), .any, .any, .any] [[.tup R, .tup (cutD R none (some (-1))), .tup (R ++ [.int 0]), .lst R, .non, .int 7, .str "", .dic [], .tup [], .lst [], .tup [.tup R], .lst [.tup R]], fdD s2] σ3 H3 := st3
  dsimp only []
  refine st_seq (st_app (i := 4) (j := 0) (cs1 := [_, fdD s2]) (d := .dic ((List.range n).map fun (k : Nat) => ((Sum.inl (k : Int) : Key), D.non))) st3 rfl ((ev_cb (ea_cons ((EvF.ev (ef_mapE (l := List.range n) (enc := fun (k : Nat) => D.int (k : Int)) (rangeD0 n ▸ wd_rng1 (n := ((n : Nat) : Int)) (ea_cons (elen rfl) ea_nil) (by omega)) (fun (k : Nat) => D.tup [.int (k : Int), .non]) (by rw [List.length_range]; omega) (fun p' i k acc hd2 => ⟨_, _, g_name, by decide, ev_tup (ds := [.int (k : Int), .non]) (ea_cons (ev_var rfl) (ea_cons ev_non ea_nil)) (by simp)⟩))).eq (d' := .lst (((List.range n).map fun (k : Nat) => ((k : Int), D.non)).map fun p => D.tup [.int p.1, p.2])) (by rw [List.map_map]; rfl)) ea_nil) (cb_dictI (nodup_range (fun k => (k : Int)) (fun a b h => by omega) (fun _ => D.non) n))).eq (by rw [List.map_map]; rfl)) rfl ⟨_, rfl⟩ rfl (by simp) (fun H4 st4 => ?_))
  dsimp only []
  refine st_seq (st_app (i := 4) (j := 0) (cs1 := [_, fdD s2]) (d := .dic ((List.range n).map fun (k : Nat) => ((Sum.inl ((k : Int) + 5) : Key), D.int (k : Int)))) st4 rfl ((ev_cb (ea_cons ((EvF.ev (ef_mapE (l := List.range n) (enc := fun (k : Nat) => D.int (k : Int)) (rangeD0 n ▸ wd_rng1 (n := ((n : Nat) : Int)) (ea_cons (elen rfl) ea_nil) (by omega)) (fun (k : Nat) => D.tup [.int ((k : Int) + 5), .int (k : Int)]) (by rw [List.length_range]; omega) (fun p' i k acc hd2 => ⟨_, _, g_name, by decide, ev_tup (ds := [.int ((k : Int) + 5), .int (k : Int)]) (ea_cons (ev_op (ev_var rfl) ev_int od_addI) (ea_cons (ev_var rfl) ea_nil)) (by simp)⟩))).eq (d' := .lst (((List.range n).map fun (k : Nat) => ((k : Int) + 5, D.int (k : Int))).map fun p => D.tup [.int p.1, p.2])) (by rw [List.map_map]; rfl)) ea_nil) (cb_dictI (nodup_range (fun k => (k : Int) + 5) (fun a b h => by omega) (fun k => D.int (k : Int)) n))).eq (by rw [List.map_map]; rfl)) rfl ⟨_, rfl⟩ rfl (by simp) (fun H5 st5 => ?_))
  have st5 : Sta K [pf, p] B0 H0 [.val (.ref p), .dat (.lst (cols.map encC)), .dat (.tup R), .dat (.int (at' : Nat)), .val (.ref pf), .any, .any, .any] [valsA R n, fdD s2] σ3 H5 := st5
  dsimp only []
  refine st_seq (t := tFor _ _ _) ?_
  refine st_for (α := Unit) (cs1 := [valsA R n, fdD s2]) st5 (wd_tup (ev_tup (ds := ONES) (ea_cons (ev_un (r1 := .dat (.int 1)) ev_int un_negD) (ea_cons ev_bl (ea_cons ev_bl (ea_cons ev_non (ea_cons ev_str (ea_cons (ev_lst (ds := [.int 1]) (ea_cons ev_int ea_nil)) (ea_cons (ev_op (ev_op ev_int ev_int (od_I (d := .int _) ⟨by decide, by decide, by decide⟩ fun _ => .int _)) ev_int od_addI)
      (ea_cons (ev_un (r1 := .dat (.int (10 ^ (6 : Int).toNat))) (ev_op ev_int ev_int (od_I (d := .int _) ⟨by decide, by decide, by decide⟩ fun _ => .int _)) un_negD) (ea_cons (ev_op (ev_un (r1 := .dat (.int (10 ^ (6 : Int).toNat))) (ev_op ev_int ev_int (od_I (d := .int _) ⟨by decide, by decide, by decide⟩ fun _ => .int _)) un_negD) ev_int od_subI) (ea_cons (ev_tup (ds := [.int 1]) (ea_cons ev_int ea_nil)) (ea_cons ev_dnew (ea_cons (ev_op ev_int ev_int (od_I (d := .int _) ⟨by decide, by decide, by decide⟩ fun _ => .int _)) ea_nil)))))))))))) (by decide)))
    (fun _ _ => True) (fun _ _ => [.val (.ref p), .dat (.lst (cols.map encC)), .dat (.tup R), .dat (.int (at' : Nat)), .val (.ref pf), .any, .any, .any]) (fun i _ => [valsA R n ++ (ONES.take i).map (valO R at'), fdD s2]) () True.intro ⟨.rfl _, .rfl _, .rfl _, .rfl _, .rfl _, .any _, .any _, .any _, True.intro⟩ (by simp) ?_ ?_
  · intro B1 H1' s1' i one z hone _
    have hi12 : i < ONES.length := (List.getElem?_eq_some_iff.mp hone).1
    have h12 : ONES.length = 12 := rfl
    refine ⟨_, _, g_name, fun σ6 H6 st6 => ?_⟩
    refine st_app (i := 4) (j := 0) (cs1 := [_, fdD s2]) (d := valO R at' one) st6 rfl (ev_op (ev_op (ev_sl (ev_var (i := 2) rfl) eo_none (eo_some (ev_var (i := 3) rfl)) sd_T) (ev_tup (ds := [one]) (ea_cons (ev_var (i := 5) rfl) ea_nil) (by simp)) (od_addT ?_)) (ev_sl (ev_var (i := 2) rfl) (eo_some (ev_op (ev_var (i := 3) rfl) ev_int od_addI)) eo_none sd_T) (od_addT ?_)) rfl ⟨_, rfl⟩ rfl ?_ (fun H7 st7 => ⟨(), True.intro, ?_⟩)
    · have := hcut none (some (at' : Nat)); simp; omega
    · rw [List.length_append]; have := hcut none (some (at' : Nat)); have := hcut (some ((at' : Nat) + 1)) none; simp only [List.length_cons, List.length_nil]; omega
    · rw [List.length_append, List.length_map, List.length_take]
      have : (valsA R n).length = 14 := rfl
      omega
    · have e : valsA R n ++ (ONES.take (i + 1)).map (valO R at') = (valsA R n ++ (ONES.take i).map (valO R at')) ++ [valO R at' one] := by
        rw [List.take_add_one, hone, List.map_append, List.append_assoc]; rfl
      show Sta K [pf, p] B1 H1' _ [valsA R n ++ (ONES.take (i + 1)).map (valO R at'), fdD s2] σ6 H7
      rw [e]
      exact st7.le ⟨.rfl _, .rfl _, .rfl _, .rfl _, .rfl _, .any _, .any _, .any _, True.intro⟩
  · intro z σ6 H6 _ st6
    have st7 := Sta.pub (i := 4) st6 hpf0 rfl
    rw [List.take_length] at st7
    exact st_ret (cs1 := [fdD s2]) st7 (ev_var (i := 4) rfl) hd
end
end T3
namespace SP
open PySem L2 DV PM IX
variable {K : PySem.W.Frag}
theorem cutInit {l : List D} {a : D} : cutD (l ++ [a]) none (some (-1)) = l := by
  unfold cutD
  rw [HT.sIx_none]
  have e : HT.sIx (l ++ [a]).length (l ++ [a]).length (some (-1)) = l.length := by
    show (if (-1 : Int) < 0 then ((-1 : Int) + ((l ++ [a]).length : Int)).toNat else min (-1 : Int).toNat (l ++ [a]).length) = l.length
    rw [if_pos (by decide)]
    simp
    omega
  rw [e]
  simp
theorem sh_names {T : List Tab} (h : tabsOk T) : D.sh 1 (.tup (T.map fun t => .str t.1)) = true := D.shA_all fun d hd => by
  obtain ⟨t, ht, rfl⟩ := List.mem_map.mp hd
  exact (h.2 t ht).1.2.2.2
theorem nb_names (T : List Tab) : D.nb (.tup (T.map fun t => .str t.1)) = true := D.nbA_all fun d hd => by
  obtain ⟨t, ht, rfl⟩ := List.mem_map.mp hd
  rfl
theorem sh_cols {cs : List Col} (h : ∀ c ∈ cs, colOk c) : D.sh 2 (.tup (cs.map encC)) = true := D.shA_all fun d hd => by
  obtain ⟨c, hc, rfl⟩ := List.mem_map.mp hd
  have hco := h c hc
  obtain ⟨n, t⟩ := c
  cases t with
  | none => simp [encC, D.sh, D.shA, hco.1.2.2.2]
  | some t => simp [encC, D.sh, D.shA, hco.1.2.2.2, (hco.2 t rfl).2.2.2]
theorem nb_cols (cs : List Col) : D.nb (.tup (cs.map encC)) = true := D.nbA_all fun d hd => by
  obtain ⟨c, hc, rfl⟩ := List.mem_map.mp hd
  obtain ⟨n, t⟩ := c
  cases t <;> rfl
theorem sh_shape (T : List Tab) : D.sh 2 (shapeD T) = true := D.shA_all fun d hd => by
  obtain ⟨t, ht, rfl⟩ := List.mem_map.mp hd
  refine D.shA_all fun d hd => ?_
  obtain ⟨c, hc, rfl⟩ := List.mem_map.mp hd
  obtain ⟨n, o⟩ := c
  cases o <;> rfl
theorem nb_shape (T : List Tab) : D.nb (shapeD T) = true := D.nbA_all fun d hd => by
  obtain ⟨t, ht, rfl⟩ := List.mem_map.mp hd
  refine D.nbA_all fun d hd => ?_
  obtain ⟨c, hc, rfl⟩ := List.mem_map.mp hd
  obtain ⟨n, o⟩ := c
  cases o <;> rfl
/-- two that are the same -/
theorem od_same {d : D} (n : Nat) (hs : D.sh n d = true) (hn : d.nb = true) (h : n ≤ 64 := by decide) : OpD K (neA K) (.dat d) (.dat d) (.dat (.bl (!true))) := od_r (od_ne n n hs hs hn hn (by simp) h h)
end SP
/-! K7: what is said of each value; tables whose columns are turned. -/
namespace SP
open PySem L2 DV PM IX T3
structure OKV (d : D) : Prop where
  sho : Sho d
  ty : ∃ t, tyN d = some t
  nt : notNt d = true
  el : ∀ ds, d = .tup ds → ds.length ≤ 1000 ∧ ∀ e ∈ ds, ∃ u, tyN e = some u
/-- an item of a row, or near it -/
structure Itm (d : D) : Prop where
  sm : Sm 100 1 d
  fl : D.noL d = true ∨ (D.pyR d).hasDict = false
  ty : ∃ u, tyN d = some u
theorem itm_int {i : Int} (h : i.natAbs ≤ 10 ^ 30) : Itm (.int i) := ⟨(sm_int h).le (by decide) (by decide), .inl rfl, _, rfl⟩
theorem ones_all : ∀ one ∈ ONES, (D.okR one && ((D.pyR one).showable && (decide ((D.pyR one).depth ≤ 1) && (decide ((D.pyR one).shown.length ≤ 100) && ((D.noL one || !(D.pyR one).hasDict) && (tyN one).isSome))))) = true := by decide +kernel
theorem ones_itm {one : D} (h : one ∈ ONES) : Itm one := by
  have := ones_all one h
  simp only [Bool.and_eq_true, Bool.or_eq_true, Bool.not_eq_true', decide_eq_true_eq] at this
  obtain ⟨a, b, c, d, e, f⟩ := this
  exact ⟨⟨a, b, c, d⟩, e, Option.isSome_iff_exists.mp f⟩
/-- a tuple of ints and perhaps one thing more -/
theorem okv_tup {ds : List D} (h : ∀ d ∈ ds, Itm d) (hl : ds.length ≤ 110) (hf : (∀ d ∈ ds, D.noL d = true) ∨ (∀ d ∈ ds, (D.pyR d).hasDict = false)) : OKV (.tup ds) := by
  refine ⟨(sm_tup (fun d hd => (h d hd).sm) hl).sho (by decide) (by decide) (fun z => ?_), ⟨_, rfl⟩, rfl, fun es e => ?_⟩
  · rcases hf with hf | hf
    · exact nl_all hf
    · have := hd_all hf
      rw [show (D.pyR (.tup ds)).hasDict = PyData.hasDictAll (D.pyRA ds) from rfl, this] at z
      cases z
  · cases e
    exact ⟨by omega, fun e he => (h e he).ty⟩
theorem okv_flat {n k : Nat} {d : D} (s : Sm n k d) (hn : n ≤ 1000000) (hk : k ≤ 60) (hd : (D.pyR d).hasDict = true → D.noL d = true) (ht : ∃ t, tyN d = some t) (nt : notNt d = true) (no : ∀ ds, d ≠ .tup ds) : OKV d := ⟨s.sho hn hk hd, ht, nt, fun ds e => absurd e (no ds)⟩
theorem nlk_all : ∀ {ks : List (Key × D)}, (∀ p ∈ ks, D.noL p.2 = true) → D.noLK ks = true
  | [], _ => rfl
  | (k, d) :: ks, h => by
    show (D.noL d && D.noLK ks) = true
    rw [show D.noL d = true from h (k, d) (by simp), nlk_all fun x hx => h x (List.mem_cons_of_mem _ hx)]; rfl
theorem cut_mem {R : List D} {lo hi : Option Int} {d : D} (h : d ∈ cutD R lo hi) : d ∈ R := List.mem_of_mem_drop (List.mem_of_mem_take h)
theorem cut_len {R : List D} {lo hi : Option Int} : (cutD R lo hi).length ≤ R.length := by
  unfold cutD
  rw [List.length_take, List.length_drop]
  omega
theorem okv_vals {R : List D} {n at' : Nat} (hi : ∀ d ∈ R, ∃ i : Int, d = .int i ∧ i.natAbs ≤ 10 ^ 30) (hR : R.length ≤ 101) (hn : n ≤ 101) : ∀ d ∈ valsA R n ++ ONES.map (valO R at'), OKV d := by
  have itm : ∀ d ∈ R, Itm d := fun d hd => by obtain ⟨i, rfl, h⟩ := hi d hd; exact itm_int h
  have noL : ∀ d ∈ R, D.noL d = true := fun d hd => by obtain ⟨i, rfl, h⟩ := hi d hd; rfl
  have noD : ∀ d ∈ R, (D.pyR d).hasDict = false := fun d hd => by obtain ⟨i, rfl, h⟩ := hi d hd; rfl
  have smR : Sm (102 * 101 + 3) 2 (.tup R) := sm_tup (fun d hd => (itm d hd).sm) hR
  have hdR : (D.pyR (.tup R)).hasDict = false := hd_all noD
  intro d hd
  rcases List.mem_append.mp hd with hd | hd
  · unfold valsA at hd
    simp only [List.mem_cons, List.not_mem_nil, or_false] at hd
    rcases hd with rfl | rfl | rfl | rfl | rfl | rfl | rfl | rfl | rfl | rfl | rfl | rfl | rfl | rfl
    · exact okv_tup itm (by omega) (.inl noL)
    · exact okv_tup (fun d hd => itm d (cut_mem hd)) (Nat.le_trans cut_len (by omega)) (.inl fun d hd => noL d (cut_mem hd))
    · refine okv_tup (fun d hd => ?_) (by simp; omega) (.inl fun d hd => ?_)
      · rcases List.mem_append.mp hd with hd | hd
        · exact itm d hd
        · rw [List.mem_singleton.mp hd]; exact itm_int (by decide)
      · rcases List.mem_append.mp hd with hd | hd
        · exact noL d hd
        · rw [List.mem_singleton.mp hd]; rfl
    · exact okv_flat (sm_lst (fun d hd => (itm d hd).sm) hR) (by decide) (by decide) (fun z => by rw [show (D.pyR (.lst R)).hasDict = (D.pyR (.tup R)).hasDict from rfl, hdR] at z; cases z) ⟨_, rfl⟩ rfl (fun _ z => by cases z)
    · exact okv_flat sm_non (by decide) (by decide) (fun z => by cases z) ⟨_, rfl⟩ rfl (fun _ z => by cases z)
    · exact okv_flat (sm_int (by decide)) (by decide) (by decide) (fun z => by cases z) ⟨_, rfl⟩ rfl (fun _ z => by cases z)
    · exact okv_flat (sm_str (by decide +kernel) (by decide +kernel)) (by decide) (by decide) (fun z => by cases z) ⟨_, rfl⟩ rfl (fun _ z => by cases z)
    · exact okv_flat (sm_dic (m := 0) (fun p hp => by cases hp) (Nat.le_refl _)) (by decide) (by decide) (fun _ => rfl) ⟨_, rfl⟩ rfl (fun _ z => by cases z)
    · exact okv_tup (fun d hd => by cases hd) (by decide) (.inl fun d hd => by cases hd)
    · exact okv_flat (sm_lst (n := 0) (k := 0) (m := 0) (fun d hd => by cases hd) (Nat.le_refl _)) (by decide) (by decide) (fun z => by cases z) ⟨_, rfl⟩ rfl (fun _ z => by cases z)
    · refine ⟨(sm_tup (ds := [.tup R]) (n := 102 * 101 + 3) (k := 2) (m := 1) (fun d hd => by rw [List.mem_singleton.mp hd]; exact smR) (Nat.le_refl _)).sho (by decide) (by decide) (fun z => ?_), ⟨_, rfl⟩, rfl, fun es e => ?_⟩
      · show (D.noL (.tup R) && true) = true
        rw [show D.noL (.tup R) = D.noLA R from rfl, nl_all noL]; rfl
      · cases e
        exact ⟨by simp, fun e he => by rw [List.mem_singleton.mp he]; exact ⟨_, rfl⟩⟩
    · refine okv_flat (sm_lst (ds := [.tup R]) (n := 102 * 101 + 3) (k := 2) (m := 1) (fun d hd => by rw [List.mem_singleton.mp hd]; exact smR) (Nat.le_refl _)) (by decide) (by decide) (fun z => ?_) ⟨_, rfl⟩ rfl (fun _ z => by cases z)
      have e : (D.pyR (.lst [.tup R])).hasDict = ((D.pyR (.tup R)).hasDict || false) := rfl
      rw [e, hdR] at z
      cases z
    · refine okv_flat (sm_dic (m := 101) (fun p hp => ?_) (by rw [List.length_map, List.length_range]; exact hn)) (by decide) (by decide) (fun _ => nlk_all fun p hp => ?_) ⟨_, rfl⟩ rfl (fun _ z => by cases z)
      · obtain ⟨k, hk, rfl⟩ := List.mem_map.mp hp
        have := List.mem_range.mp hk
        have hb : (10 : Nat) ^ 30 ≥ 1000 := by decide
        exact ⟨⟨_, rfl, by omega⟩, sm_non⟩
      · obtain ⟨k, hk, rfl⟩ := List.mem_map.mp hp
        rfl
    · refine okv_flat (sm_dic (m := 101) (fun p hp => ?_) (by rw [List.length_map, List.length_range]; exact hn)) (by decide) (by decide) (fun _ => nlk_all fun p hp => ?_) ⟨_, rfl⟩ rfl (fun _ z => by cases z)
      · obtain ⟨k, hk, rfl⟩ := List.mem_map.mp hp
        have := List.mem_range.mp hk
        have hb : (10 : Nat) ^ 30 ≥ 1000 := by decide
        exact ⟨⟨_, rfl, by omega⟩, sm_int (by omega)⟩
      · obtain ⟨k, hk, rfl⟩ := List.mem_map.mp hp
        rfl
  · obtain ⟨one, ho, rfl⟩ := List.mem_map.mp hd
    have io := ones_itm ho
    unfold valO
    have mem : ∀ {d : D}, d ∈ cutD R none (some (at' : Nat)) ++ [one] ++ cutD R (some ((at' : Nat) + 1)) none → d ∈ R ∨ d = one := fun {d} h => by
      rcases List.mem_append.mp h with h | h
      · rcases List.mem_append.mp h with h | h
        · exact .inl (cut_mem h)
        · exact .inr (List.mem_singleton.mp h)
      · exact .inl (cut_mem h)
    refine okv_tup (fun d hd => ?_) ?_ ?_
    · rcases mem hd with h | h
      · exact itm d h
      · rw [h]; exact io
    · rw [List.length_append, List.length_append]
      have h1 := cut_len (R := R) (lo := none) (hi := some (at' : Nat))
      have h2 : (cutD R none (some (at' : Nat))).length ≤ at' := by
        unfold cutD
        rw [List.length_take, HT.sIx_none, HT.sIx_nat]
        omega
      have h3 : (cutD R (some ((at' : Nat) + 1)) none).length ≤ R.length - at' := by
        unfold cutD
        rw [List.length_take, List.length_drop, show ((at' : Int) + 1) = ((at' + 1 : Nat) : Int) by omega, HT.sIx_nat]
        omega
      simp only [List.length_cons, List.length_nil]
      omega
    · rcases io.fl with h | h
      · exact .inl fun d hd => by
          rcases mem hd with q | q
          · exact noL d q
          · rw [q]; exact h
      · exact .inr fun d hd => by
          rcases mem hd with q | q
          · exact noD d q
          · rw [q]; exact h
def deepD : Nat → D
  | 0 => .lst []
  | k + 1 => .lst [deepD k]
theorem sm_deep : ∀ k, Sm (5 * k + 3) (k + 1) (deepD k)
  | 0 => sm_lst (n := 0) (k := 0) (m := 0) (fun d hd => by cases hd) (Nat.le_refl _)
  | k + 1 => by
    have := sm_lst (ds := [deepD k]) (m := 1) (fun d hd => by rw [List.mem_singleton.mp hd]; exact sm_deep k) (Nat.le_refl _)
    exact this.le (by omega) (Nat.le_refl _)
theorem hd_deep : ∀ k, (D.pyR (deepD k)).hasDict = false
  | 0 => rfl
  | k + 1 => by
    show ((D.pyR (deepD k)).hasDict || false) = false
    rw [hd_deep k]; rfl
theorem ty_deep : ∀ k, tyN (deepD k) = some "list"
  | 0 => rfl
  | _ + 1 => rfl
theorem okv_deep : ∀ d ∈ [deepD 45, D.tup [deepD 45], D.tup [D.int 0, deepD 45]], OKV d := by
  have h := sm_deep 45
  have hd := hd_deep 45
  have ht := ty_deep 45
  have hl : ∀ ds, deepD 45 ≠ .tup ds := fun ds z => by cases (show D.lst [deepD 44] = .tup ds from z)
  intro d hm
  simp only [List.mem_cons, List.not_mem_nil, or_false] at hm
  rcases hm with rfl | rfl | rfl
  · exact okv_flat h (by decide) (by decide) (fun z => by rw [hd] at z; cases z) ⟨_, ht⟩ rfl hl
  · refine ⟨(sm_tup (ds := [deepD 45]) (m := 1) (fun d hd => by rw [List.mem_singleton.mp hd]; exact h) (Nat.le_refl _)).sho (by decide) (by decide) (fun z => ?_), ⟨_, rfl⟩, rfl, fun es e => ?_⟩
    · have e : (D.pyR (.tup [deepD 45])).hasDict = ((D.pyR (deepD 45)).hasDict || false) := rfl
      rw [e, hd] at z; cases z
    · cases e
      exact ⟨by decide, fun e he => by rw [List.mem_singleton.mp he]; exact ⟨_, ht⟩⟩
  · refine ⟨(sm_tup (ds := [.int 0, deepD 45]) (n := 5 * 45 + 3) (k := 46) (m := 2) (fun d hd => ?_) (Nat.le_refl _)).sho (by decide) (by decide) (fun z => ?_), ⟨_, rfl⟩, rfl, fun es e => ?_⟩
    · simp only [List.mem_cons, List.not_mem_nil, or_false] at hd
      rcases hd with rfl | rfl
      · exact (sm_int (by decide)).le (by decide) (by decide)
      · exact h
    · have e : (D.pyR (.tup [.int 0, deepD 45])).hasDict = (false || ((D.pyR (deepD 45)).hasDict || false)) := rfl
      rw [e, hd] at z; cases z
    · cases e
      refine ⟨by decide, fun e he => ?_⟩
      simp only [List.mem_cons, List.not_mem_nil, or_false] at he
      rcases he with rfl | rfl
      · exact ⟨_, rfl⟩
      · exact ⟨_, ht⟩
/-! what else is shown -/
theorem sho_bl (b : Bool) : Sho (.bl b) := (sm_bl b).sho (by decide) (by decide) (fun z => by cases z)
theorem sho_names {T : List Tab} (h : tabsOk T) : Sho (.tup (T.map fun t => D.str t.1)) := by
  refine (sm_tup (n := 100) (k := 0) (m := 3) (fun d hd => ?_) (by rw [List.length_map]; exact h.1)).sho (by decide) (by decide) (fun z => nl_all fun d hd => ?_)
  · obtain ⟨t, ht, rfl⟩ := List.mem_map.mp hd
    have := (h.2 t ht).1
    exact sm_str this.2.2.1 this.2.2.2
  · obtain ⟨t, ht, rfl⟩ := List.mem_map.mp hd
    rfl
theorem sho_nt {T : List Tab} (h : tabsOk T) : Sho (.nt (T.map fun t => D.str t.1)) := by
  obtain ⟨a, b, c, d, e⟩ := sho_names h
  exact ⟨a, b, c, d, e⟩
theorem sho_cols {cs : List Col} (h : ∀ c ∈ cs, colOk c) (hl : cs.length ≤ 4) : Sho (.tup (cs.map encC)) := by
  refine (sm_tup (n := 207) (k := 1) (m := 4) (fun d hd => ?_) (by rw [List.length_map]; exact hl)).sho (by decide) (by decide) (fun z => nl_all fun d hd => ?_)
  · obtain ⟨⟨n, t⟩, ht, rfl⟩ := List.mem_map.mp hd
    obtain ⟨h1, h2⟩ := h _ ht
    have s1 : Sm 100 0 (.str n) := sm_str h1.2.2.1 h1.2.2.2
    cases t with
    | none =>
      refine sm_tup (ds := [.str n, .non]) (n := 100) (k := 0) (m := 2) (fun d hd => ?_) (Nat.le_refl _)
      simp only [List.mem_cons, List.not_mem_nil, or_false] at hd
      rcases hd with rfl | rfl
      · exact s1
      · exact sm_non.le (by decide) (by decide)
    | some t =>
      have h3 := h2 t rfl
      refine sm_tup (ds := [.str n, .str t]) (n := 100) (k := 0) (m := 2) (fun d hd => ?_) (Nat.le_refl _)
      simp only [List.mem_cons, List.not_mem_nil, or_false] at hd
      rcases hd with rfl | rfl
      · exact s1
      · exact sm_str h3.2.2.1 h3.2.2.2
  · obtain ⟨⟨n, t⟩, ht, rfl⟩ := List.mem_map.mp hd
    cases t <;> rfl
/-! ### the columns turned -/
def turnC (cs : List Col) : List Col := (cs.filter fun c => c.2.isNone).reverse ++ (cs.filter fun c => !c.2.isNone).reverse
def turnT (T : List Tab) : List Tab := match T.getLast? with
  | some t => T.dropLast ++ [(t.1, turnC t.2)]
  | none => T
theorem turnT_snoc (T : List Tab) (t : Tab) : turnT (T ++ [t]) = T ++ [(t.1, turnC t.2)] := by
  unfold turnT
  rw [last_snoc, drop_snoc]
theorem cols_plain {T : List Tab} : ∀ {p done : List Col}, refsN done = 0 → (done ++ p).length ≤ 2 → ((done ++ p).map Prod.fst).Nodup → (∀ c ∈ p, c.2 = none ∧ fineB c.1 = true) → okCols T done p
  | [], _, _, _, _, _ => True.intro
  | (n, o) :: p, done, h1, h2, h3, h4 => by
    obtain ⟨e, hf⟩ := h4 (n, o) (by simp)
    have e' : o = none := e
    subst e'
    rw [show done ++ (n, none) :: p = (done ++ [(n, none)]) ++ p by simp] at h2 h3
    refine ⟨⟨h1, ?_, hf, ?_⟩, cols_plain (by rw [refsN_snoc, h1]; rfl) h2 h3 fun c hc => h4 c (List.mem_cons_of_mem _ hc)⟩
    · rw [List.length_append, List.length_append] at h2
      simp only [List.length_cons, List.length_nil] at h2
      omega
    · rw [List.map_append, List.map_append] at h3
      have := (List.nodup_append.mp (List.nodup_append.mp h3).1).2.2
      intro z
      exact this n z n (by simp) rfl
theorem cols_refs {T : List Tab} : ∀ {p done : List Col}, refsN (done ++ p) ≤ 2 → sumRefs T + refsN (done ++ p) ≤ 3 → ((done ++ p).map Prod.fst).Nodup → (∀ c ∈ p, fineB c.1 = true ∧ ∃ e, c.2 = some e ∧ e ∈ T.map Prod.fst) → okCols T done p
  | [], _, _, _, _, _ => True.intro
  | (n, o) :: p, done, h1, h2, h3, h4 => by
    obtain ⟨hf, e, he, hm⟩ := h4 (n, o) (by simp)
    have e' : o = some e := he
    subst e'
    rw [show done ++ (n, some e) :: p = (done ++ [(n, some e)]) ++ p by simp] at h1 h2 h3
    have hr : refsN ((done ++ [(n, some e)]) ++ p) = refsN done + 1 + refsN p := by rw [refsN_app, refsN_snoc]; rfl
    refine ⟨⟨by omega, by omega, hf, ?_, hm⟩, cols_refs h1 h2 h3 fun c hc => h4 c (List.mem_cons_of_mem _ hc)⟩
    rw [List.map_append, List.map_append] at h3
    have := (List.nodup_append.mp (List.nodup_append.mp h3).1).2.2
    intro z
    exact this n z n (by simp) rfl
/-- what right columns are -/
theorem cols_facts {T : List Tab} : ∀ {p done : List Col}, okCols T done p → (done.map Prod.fst).Nodup → ((done ++ p).map Prod.fst).Nodup ∧ (∀ c ∈ p, fineB c.1 = true ∧ ∀ e, c.2 = some e → e ∈ T.map Prod.fst) ∧ (refsN done ≤ 2 → refsN (done ++ p) ≤ 2) ∧ (sumRefs T + refsN done ≤ 3 → sumRefs T + refsN (done ++ p) ≤ 3) ∧ (done.length ≤ refsN done + 2 → (done ++ p).length ≤ refsN (done ++ p) + 2)
  | [], done, _, h => by
    rw [List.append_nil]
    exact ⟨h, (fun c hc => by cases hc), id, id, id⟩
  | (n, o) :: p, done, hk, hn => by
    obtain ⟨h1, h2⟩ := hk
    have hnew : n ∉ done.map Prod.fst := by cases o with
      | none => exact h1.2.2.2
      | some e => exact h1.2.2.2.1
    have hfine : fineB n = true := by cases o with
      | none => exact h1.2.2.1
      | some e => exact h1.2.2.1
    obtain ⟨a, b, c, d, e⟩ := cols_facts h2 (by
      rw [List.map_append]
      refine List.nodup_append.mpr ⟨hn, by simp, fun x hx y hy z => ?_⟩
      rw [List.mem_singleton.mp hy] at z
      have z' : x = n := z
      exact hnew (z' ▸ hx))
    have hl : done ++ (n, o) :: p = (done ++ [(n, o)]) ++ p := by simp
    rw [hl]
    refine ⟨a, ?_, fun hr => c ?_, fun hr => d ?_, fun hr => e ?_⟩
    · intro x hx
      rcases List.mem_cons.mp hx with z | z
      · rw [z]
        refine ⟨hfine, fun e he => ?_⟩
        have he' : o = some e := he
        subst he'
        exact h1.2.2.2.2
      · exact b x z
    · rw [refsN_snoc]
      cases o with
      | none => simpa using hr
      | some e => have := h1.1; simp only [Option.isSome, if_true]; omega
    · rw [refsN_snoc]
      cases o with
      | none => simpa using hr
      | some e => have := h1.2.1; simp only [Option.isSome, if_true]; omega
    · rw [List.length_append, refsN_snoc]
      cases o with
      | none => have := h1.2.1; have := h1.1; simp only [List.length_cons, List.length_nil]; omega
      | some e => simp only [Option.isSome, if_true, List.length_cons, List.length_nil]; omega
theorem sumRefs_ok : ∀ {r T : List Tab}, okTabs T r → sumRefs T ≤ 3 → sumRefs (T ++ r) ≤ 3
  | [], T, _, h => by rw [List.append_nil]; exact h
  | t :: r, T, h, hs => by
    obtain ⟨h1, h2⟩ := h
    obtain ⟨_, _, _, d, _⟩ := cols_facts h1.2.2.2 (by simp)
    have d := d (by simpa [refsN] using hs)
    rw [List.nil_append] at d
    have e : T ++ t :: r = (T ++ [t]) ++ r := by simp
    rw [e]
    exact sumRefs_ok h2 (by rw [show T ++ [t] = T ++ [(t.1, t.2)] from rfl, sumRefs_snoc]; exact d)
theorem refsN_filter (cs : List Col) : refsN (cs.filter fun c => c.2.isNone) = 0 := by
  unfold refsN
  rw [List.filter_filter]
  rw [List.length_eq_zero_iff, List.filter_eq_nil_iff]
  intro c _
  cases c.2 <;> simp
theorem refsN_rev (cs : List Col) : refsN cs.reverse = refsN cs := by unfold refsN; rw [List.filter_reverse, List.length_reverse]
theorem refsN_keep (cs : List Col) : refsN (cs.filter fun c => !c.2.isNone) = refsN cs := by
  unfold refsN
  rw [List.filter_filter]
  congr 1
  apply List.filter_congr
  intro c _
  cases c.2 <;> simp
theorem turn_ok {T0 : List Tab} {t : Tab} (h : okTabs [] (T0 ++ [t])) : okTabs [] (turnT (T0 ++ [t])) := by
  rw [turnT_snoc]
  obtain ⟨h1, h2, _⟩ := okTabs_app.mp h
  refine okTabs_app.mpr ⟨h1, ⟨h2.1, h2.2.1, h2.2.2.1, ?_⟩, True.intro⟩
  rw [List.nil_append] at h2 ⊢
  obtain ⟨a, b, c, d, e⟩ := cols_facts h2.2.2.2 (by simp)
  rw [List.nil_append] at a c d e
  have hs3 : sumRefs T0 ≤ 3 := by
    have := sumRefs_ok h1 (by simp [sumRefs])
    simpa using this
  have c := c (by decide)
  have d := d (by simpa [refsN] using hs3)
  have e := e (by decide)
  have perm : (turnC t.2).Perm t.2 := by
    unfold turnC
    refine (List.Perm.append (List.reverse_perm _) (List.reverse_perm _)).trans ?_
    exact List.filter_append_perm _ _
  have nd : ((turnC t.2).map Prod.fst).Nodup := (perm.map Prod.fst).nodup_iff.mpr a
  have rn : refsN (turnC t.2) = refsN t.2 := by
    unfold turnC
    rw [refsN_app, refsN_rev, refsN_rev, refsN_filter, refsN_keep, Nat.zero_add]
  have pl : (t.2.filter fun c => c.2.isNone).length + refsN t.2 = t.2.length := by
    have := perm.length_eq
    unfold turnC at this
    rw [List.length_append, List.length_reverse, List.length_reverse] at this
    have e2 : (t.2.filter fun c => !c.2.isNone).length = refsN t.2 := by
      unfold refsN
      congr 1
      apply List.filter_congr
      intro c _
      cases c.2 <;> simp
    omega
  unfold turnC at nd rn ⊢
  refine okCols_app.mpr ⟨cols_plain rfl ?_ ?_ ?_, cols_refs ?_ ?_ ?_ ?_⟩
  · rw [List.nil_append, List.length_reverse]; omega
  · rw [List.nil_append]
    rw [List.map_append] at nd
    exact (List.nodup_append.mp nd).1
  · intro c hc
    obtain ⟨hc1, hc2⟩ := List.mem_filter.mp (List.mem_reverse.mp hc)
    refine ⟨?_, (b c hc1).1⟩
    cases hq : c.2 with
    | none => rfl
    | some q => rw [hq] at hc2; cases hc2
  · rw [List.nil_append, rn]; exact c
  · rw [List.nil_append, rn]; exact d
  · rw [List.nil_append]; exact nd
  · intro c hc
    obtain ⟨hc1, hc2⟩ := List.mem_filter.mp (List.mem_reverse.mp hc)
    refine ⟨(b c hc1).1, ?_⟩
    cases hq : c.2 with
    | none => rw [hq] at hc2; cases hc2
    | some q => exact ⟨q, rfl, (b c hc1).2 q hq⟩
end SP
/-! K1: the law's def, called by nobody: no repr is under way there. -/
namespace LG
open PySem PySem.Spec PyProof.Rows L2

/-- what the law's def promises, at the caller's place alone -/
def LawAt (P : Program) (w : World) (K : PySem.W.Frag) (mg : Str → Option Value) (base : Heap) (f : Addr) (fd : FuncData) (x : Str) (sp : Sp) : Prop :=
  ∀ (s : Shared) (H : Hp) (a : Addr) (Q : VK), Env0 P w K mg base callerA [] s H → BindsTo s fd ⟨[.ref a], []⟩ [(x, .ref a)] → sp [.ref a] H Q E0 →
    codeAny (model P w) callerA (.call (.ref f) ⟨[.ref a], []⟩) (CR CX0 [] P w H s Q E0) s

theorem LawAt.body {P : Program} {w : World} {K : PySem.W.Frag} {mg : Str → Option Value} {base : Heap} {k : Nat} {f : Addr} {x y qual : Str} {st : Stmt} {fd : FuncData} {N : List Str} {sp : Sp}
    (F : Fun K y qual st f fd) (S : FnScope N [x] (defScope st)) (room : Room (k + 1) callerA)
    (hb : ∀ (cdv : Value) (s : Shared) (H : Hp) (a : Addr) (Q : VK), Room k (callerA.deeper (envOfC qual (defScope st) s.heap.objs.size f cdv)) → (callerA.deeper (envOfC qual (defScope st) s.heap.objs.size f cdv)).guards = some [] → sp [.ref a] H Q E0 →
      ∃ t, PSs (cxOf CX0 P w K mg base N qual (defScope st) f cdv callerA [] s H E0).nox (defBody st) t ∧ t { nx := fun _ H' => Q .non H', rt := Q } (start N [.ref a]) H) :
    LawAt P w K mg base f fd x sp := by
  obtain ⟨oc, od, kV, doc, pm, an, cdv, ct, osl, rfl, lk, hcd⟩ := F.ex
  intro s H a Q env bind hsp
  have inK : K.In s.heap := env.mod.kin.keeps fun b o q => (env.bs b o q).1
  have one : ∀ z ∈ ([(x, Value.ref a)] : List (Str × Value)), (defScope st).names.lookup z.1 = some .local ∨ ((defScope st).names.lookup z.1 = some .cell ∧ ((cellsFrom (s.heap.objs.size + 1) (defScope st).names []).lookup z.1).isSome = true) := by
    intro z hz
    have e : z = (x, Value.ref a) := by simpa using hz
    rw [e]
    rcases S.par x (by simp) with q | q
    · exact Or.inl q
    · exact Or.inr ⟨q, PySem.W.cellsFrom_some _ _ _ (Or.inl q)⟩
  obtain ⟨t, good, reads⟩ := hb cdv s H a Q (room.deeper _) rfl hsp
  apply codeAny_call_function (Room.depth room) (inK _ _ lk) rfl S.co S.gen rfl (PySem.W.codeRec_of inK hcd)
  apply bind
  apply wpAny_newFunctionEnv_cells S.kind one
  intro env1 eenv s1 entered
  subst eenv
  refine ⟨(env.mod.nolimit.keeps fun b o q => (env.bs b o q).1).keeps entered.toInCall.keep, codeAny_func ?_⟩
  have inv := inv_start (CX := CX0) (N := N) (ps := [x]) (E := E0) (vs := [V.ref a]) (us := [Value.ref a]) S room.hd env rfl (.cons rfl .nil) entered
  have ran := (good.nox).run [] s1 (start N [.ref a]) H _ inv reads
  refine wpAny_mono ran ?_ ?_
  · intro flow s2 got
    match flow, got with
    | .ret u, ⟨v, _, H2, J, rel, q⟩ => exact ⟨v, H2, J.os, J.bare, J.base, J.hok, rel, q⟩
    | .next, ⟨_, H2, J, q⟩ => exact ⟨V.non, H2, J.os, J.bare, J.base, J.hok, rfl, q⟩
    | .brk, ⟨_, _, _, q⟩ => exact q.elim
    | .cont, ⟨_, _, _, q⟩ => exact q.elim
  · intro _ _ got
    exact got

/-- the script alone is known, as an object that stays -/
def scriptH (K : PySem.W.Frag) (a : Addr) (vs : List Value) (ns : List Int) : Hp := fun b =>
  if b = a ∧ (K.lookup a).isNone = true then some (.frz { cls := .type "list", data := .seq vs.toArray } (.lst (ns.map V.int))) else none
section
variable {K : PySem.W.Frag} {a b : Addr} {vs : List Value} {ns : List Int}
theorem scriptH_not (h : b ≠ a) : scriptH K a vs ns b = none := if_neg fun z => h z.1
theorem scriptH_is {u : HO} (h : scriptH K a vs ns b = some u) : b = a ∧ K.lookup a = none ∧ u = .frz { cls := .type "list", data := .seq vs.toArray } (.lst (ns.map V.int)) := by
  unfold scriptH at h
  split at h
  · rename_i c
    exact ⟨c.1, Option.isNone_iff_eq_none.mp c.2, (Option.some.inj h).symm⟩
  · cases h
theorem scriptH_only : Only (scriptH K a vs ns) := fun b => by
  cases e : scriptH K a vs ns b with
  | none => exact Or.inl rfl
  | some u => exact Or.inr ⟨_, _, congrArg some (scriptH_is e).2.2⟩
end

theorem top_runs {P : Program} {w : World} {K : PySem.W.Frag} {mg mb : Str → Option Value} {fa a : Addr} {fd : FuncData} {x : Str} {sp : Sp} {s : Shared} {vs : List Value} {ns : List Int}
    (inK : K.In s.heap) (glob : s.heap.Ns mainGlobals mg) (blt : s.heap.Ns builtinsNs mb) (boot : ∀ y : Str, y ≠ "__name__" → mb y = bootBuiltins y) (lim : s.heap.NoLimit) (gens : s.gens = #[])
    (script : s.heap.get? a = some { cls := .type "list", data := .seq vs.toArray }) (nums : IntsAre vs ns) (short : ns.length ≤ sizeLine)
    (law : ∀ base : Heap, K.In base → base.Ns mainGlobals mg → LawAt P w K mg base fa fd x sp) (bind : ∀ (s : Shared) (u : Value), BindsTo s fd ⟨[u], []⟩ [(x, u)])
    (asked : ∀ H : Hp, Only H → SqL K H a (ns.map V.int) → sp [.ref a] H (fun v _ => v = .bl true) E0) :
    codeAny (model P w) callerA (.call (.ref fa) ⟨[.ref a], []⟩) (fun r s' => r = .ok (.ret (.bool true)) ∧ OldK s.heap s'.heap ∧ s'.os = s.os ∧ AllBare s'.gens) s := by
  have rel := vals_ints nums
  have size := nums.length
  have notDict : ∀ {b : Addr} {o : Obj} {es : Array DictEntry} {ep : Nat}, s.heap.get? b = some o → o.data = .dict es ep → scriptH K a vs ns b = none := by
    intro b o es ep ho hd
    refine scriptH_not fun e => ?_
    subst e
    cases ho.symm.trans script
    cases (hd : Data.seq vs.toArray _ = Data.dict es ep)
  have stays : ∀ {b : Addr} {o : Obj}, s.heap.get? b = some o → scriptH K a vs ns b = none → (hidT s.heap (scriptH K a vs ns)).get? b = some o := fun p q => hidT_get p q
  have names : ∀ {b : Addr} {m : Str → Option Value}, s.heap.Ns b m → (hidT s.heap (scriptH K a vs ns)).Ns b m := by
    rintro b m ⟨o, es, ep, p, d, r⟩
    exact ⟨o, es, ep, stays p (notDict p d), d, r⟩
  have inBase : K.In (hidT s.heap (scriptH K a vs ns)) := by
    intro b o p
    refine stays (inK b o p) ?_
    cases e : scriptH K a vs ns b with
    | none => rfl
    | some u =>
      obtain ⟨e1, e2, _⟩ := scriptH_is e
      rw [e1, e2] at p
      cases p
  have known : SqL K (scriptH K a vs ns) a (ns.map V.int) := by
    cases own : K.lookup a with
    | none => exact Or.inl (Or.inr ⟨_, if_pos ⟨rfl, by rw [own]; rfl⟩⟩)
    | some o =>
      cases (inK a o own).symm.trans script
      exact Or.inr ⟨_, vs.toArray, _, own, rfl, rfl, rfl, by rw [List.size_toArray, size]; exact short, by simpa using rel⟩
  have held : HOk P w (scriptH K a vs ns) s.heap := by
    intro b u e
    obtain ⟨e1, _, e3⟩ := scriptH_is e
    subst e1
    subst e3
    exact ⟨script, by rw [List.length_map]; exact short, vs, _, rel, script⟩
  obtain ⟨mc, l1, l2⟩ := lim
  have env : Env0 P w K mg (hidT s.heap (scriptH K a vs ns)) callerA [] s (scriptH K a vs ns) :=
    { frames := rfl, mod := ⟨inBase, names glob, ⟨mb, names blt, boot⟩, ⟨mc, names l1, l2⟩⟩, bs := fun _ _ p => of_hidT p, bsz := Nat.le_of_eq (hidT_size _ _), funs := True.intro, frf := (fun b z => List.not_mem_nil (show b ∈ ([] : List Addr) from z) |>.elim), hok := held, bare := .of_eq gens }
  have run := law _ inBase (names glob) s (scriptH K a vs ns) a _ env (bind s (.ref a)) (asked _ scriptH_only known)
  refine codeAny_mono run fun r s2 got => ?_
  match r, got with
  | .error _, got => exact (got : False).elim
  | .ok .next, got => exact (got : False).elim
  | .ok .brk, got => exact (got : False).elim
  | .ok .cont, got => exact (got : False).elim
  | .ok (.ret u), ⟨v, H2, os, bare, un, ok2, same, truth⟩ =>
    cases (truth : v = .bl true)
    cases (same : u = Value.bool true)
    refine ⟨rfl, OldK.of_keep ?_, os, bare⟩
    intro b o p
    cases e : scriptH K a vs ns b with
    | none => exact un.keep b o p e (fun z => List.not_mem_nil (show b ∈ ([] : List Addr) from z) |>.elim) (List.not_mem_nil)
    | some v2 =>
      obtain ⟨_, _, e3⟩ := scriptH_is e
      subst e3
      have before := (held b _ e).1
      have after := (ok2 b _ (un.frzs b _ _ e)).1
      cases p.symm.trans before
      exact after

/-- the whole row, by the law's promise at the caller's place -/
theorem walkAt {l : PySem.W.OpenLaw} {n : Nat} {q : Program} {loose : List Str} {XP : (Str → Option Value) → Heap → Prop} {YP : World → Heap → Prop} {d : DefRec} {K : Params → PySem.W.Frag} {sp : PySem.W.Frag → Sp} {x : Str}
    (most : l.most = some n) (short : n ≤ sizeLine) (plain : d.params.defaults = [])
    (written : ∀ (w : World) (h : Heap), YP w h → (K w.params).In h)
    (law : ∀ (w : World) (mg : Str → Option Value) (fa : Addr) (h : Heap), (K w.params).In h → h.Ns mainGlobals mg → mg d.name = some (.ref fa) →
      ∃ fd : FuncData, (∀ (s : Shared) (u : Value), BindsTo s fd ⟨[u], []⟩ [(x, u)]) ∧ ∀ base : Heap, (K w.params).In base → base.Ns mainGlobals mg → LawAt l.prog w (K w.params) mg base fa fd x (sp (K w.params)))
    (asked : ∀ (K : PySem.W.Frag) (H : Hp) (a : Addr) (ns : List Int), ns.length ≤ n → Only H → SqL K H a (ns.map V.int) → sp K [.ref a] H (fun v _ => v = .bl true) E0) :
    PySem.W.WalkO q loose XP YP l.row.toRowW d [] (fun f vs => PySem.call f vs) := by
  apply Att.attach_call most plain
  intro w s₀ s₁ mg mb fa o pm cd doc a vs ns G Y _ _ _ hmg script nums len gens
  obtain ⟨fd, bind, prom⟩ := law w mg fa _ (written w _ Y) G.T.g hmg
  exact top_runs (written w _ Y) G.T.g G.T.b G.T.builtins G.T.nolimit gens script nums (Nat.le_trans len short) prom bind fun H => asked _ H a ns len
end LG
namespace T3
open PySem L2 DV PM SP IX
section
variable {P : Program} {w : World} {K : PySem.W.Frag} {mg : Str → Option Value} {base : Heap} {C : Addr}
theorem ok_feedF {f : Addr} {fd : FuncData} (F : Fun K "_law_feed" "_law_feed" s_l_feed f fd) (b_len : mg "len" = none) (b_abs : mg "abs" = none) (b_max : mg "max" = none) (b_int : mg "int" = none) :
    FnOk P w K mg base CX0 1 f fd ["script", "index"] (spFeed K) := by
  refine F.ok sc_l_feed (fun vs H Q E h => ?_) (fun cdv A outer s H vs Q E hr h => ?_)
  · obtain ⟨B, ns, i, hr, _⟩ := h
    exact hr.length
  have nd := sc_l_feed.nd
  refine ⟨_, (pss_cons (ps_set (i := 2) nd rfl (.inl rfl) (pe_ifExp (pt_cmpR op_lt (pv 1) (pe_callB call_len1 (by rfl) b_len PySem.boot_len (pa_cons (pv 0) pa_nil)) (nomark _)) (pe_ix ix_seq (pv 0) (pv 1) (fun _ _ => rfl)) (pe_op op_addA (pe_op op_mul pe_int (pv 1)) pe_int)))
      (pss_cons (ps_set (i := 3) nd rfl (.inl rfl) (pe_op op_sub (pe_callB call_abs1 (by rfl) b_abs (by decide +kernel) (pa_cons (pv 2) pa_nil)) (pe_op op_pow pe_int pe_int)))
      (pss_cons (ps_set (i := 4) nd rfl (.inl rfl) (pe_op op_modN (pe_callTy call_int1' (by rfl) b_int (by decide +kernel) (pa_cons (pe_op op_addA (pe_op op_mul (pv 2) pe_int) (pe_op op_mul pe_int (pe_op op_addA (pv 1) pe_int))) pa_nil)) pe_int))
      (pss_one (ps_ret (pe_lst (pa_cons (pe_callB (call_max2' rfl) (by rfl) b_max (by decide +kernel) (pa_cons pe_int (pa_cons (pv 3) pa_nil))) (pa_cons (pv 4) pa_nil)))))))), ?_⟩
  obtain ⟨B, ns, i, hrs, hl, hi, e, q⟩ := h
  have st := sta_start (N := N_l_feed) (K := K) (P := []) (cs := []) e hrs True.intro
  generalize L2.start N_l_feed vs = σ0 at st ⊢
  unfold preFeed.feedOf at q
  generalize hcell : (if i < ns.length then ns.getD i 0 else 59 * (i : Int) + 23) = cell at q
  refine st_asg (i := 2) (cs1 := []) (r := .dat (.int cell)) st (ev_if (b := decide ((i : Int) < ((ns.map D.int).length : Int))) (et_test (ev_op (ev_var rfl) (ev_cb (ea_cons (ev_var rfl) ea_nil) cb_lenF) (od_I0 fun _ => .bl _))) (fun hb => ?_) (fun hb => ?_)) (fun σ1 H1 st1 => ?_)
  · have hlt : i < ns.length := by
      have := of_decide_eq_true hb
      rw [List.length_map] at this
      omega
    rw [if_pos hlt] at hcell
    refine ev_op (ev_var rfl) (ev_var rfl) (od_ixF (atI_nat ?_))
    rw [List.getElem?_map, List.getElem?_eq_getElem hlt, ← hcell, List.getD_eq_getElem?_getD, List.getElem?_eq_getElem hlt]
    rfl
  · have hlt : ¬ i < ns.length := by
      have := of_decide_eq_false hb
      rw [List.length_map] at this
      omega
    rw [if_neg hlt] at hcell
    exact hcell ▸ ev_op (ev_op ev_int (ev_var rfl) (od_mulI (.inl (by decide)))) ev_int od_addI
  refine st_asg (i := 3) st1 (ev_op (ev_cb (ea_cons (ev_var rfl) ea_nil) cb_abs) (ev_op ev_int ev_int (od_I (d := .int _) ⟨by decide, by decide, by decide⟩ fun _ => .int _)) od_subI) (fun σ2 H2 st2 => ?_)
  refine st_asg (i := 4) st2 (ev_op (ev_cb (ea_cons (ev_op (ev_op (ev_var rfl) ev_int (od_mulI (.inr (by decide)))) (ev_op ev_int (ev_op (ev_var rfl) ev_int od_addI) (od_mulI (.inl (by decide)))) od_addI) ea_nil) cb_int) ev_int (od_I (d := .int _) (by decide) fun _ => .int _)) (fun σ3 H3 st3 => ?_)
  obtain ⟨B3, s3, o3⟩ := st3
  refine ef_lst (ds := [_, _]) (ea_cons (ev_cb (ea_cons ev_int (ea_cons (ev_var rfl) ea_nil)) cb_max2) (ea_cons (ev_var rfl) ea_nil)) (by simp) B3 H3 σ3 o3 _ fun p ws B4 H4 hp s4 o4 h4 b4 r4 => ?_
  have hp0 : H p = none := free0 s3 hp
  exact q p ws B4 H4 hp0 (s3.trans s4) o4.ex h4 b4 r4
end
end T3
/-! K8: the law of schemas and rows. -/
namespace SP
open PySem L2 DV PM IX T3
variable {K : PySem.W.Frag}
def preLaw1 : Pre := fun rs Pl cs r cs' => ∃ ns : List Int, rs = [.dat (.fro (ns.map D.int))] ∧ ns.length ≤ 63 ∧ Pl = [] ∧ cs = [] ∧ r = .dat (.bl true) ∧ cs' = []
def preSEqO (C : Addr) : Pre := fun rs Pl cs r cs' => ∃ (T : List Tab) (d : D) (t : String), rs = [.dat (schD C T), .dat d] ∧ tyN d = some t ∧ Pl = [] ∧ cs = [] ∧ r = .dat (.bl false) ∧ cs' = []
/-- the class is none of the built-in types -/
def Apart (K : PySem.W.Frag) (C : Addr) : Prop := ∀ t ∈ ["NoneType", "bool", "int", "str", "list", "tuple", "dict"], PySem.W.kitOne K (.type t) (.ref C) = some false ∧ PySem.W.notFirst K C (.type t) = true
theorem cb_isO {C : Addr} (ap : Apart K C) {d : D} {t : String} (ht : tyN d = some t) : CbD K (rIsi K) [.dat d, .val (.ref C)] (.dat (.bl false)) := fun B H vs e h Q q => by
  obtain ⟨v, v', rfl, h1, h2⟩ := rs2 h
  exact ⟨v, v', .type t, .ref C, false, rfl, by rw [show v' = V.ref C from h2]; exact .own _, tyX_of e h1 ht, (ap t (tyN_mem ht)).1, q _ B H (Stp.refl _ _ _) e (.bl _)⟩
theorem od_eqOth {C : Addr} (ap : Apart K C) {T : List Tab} {d : D} {t : String} {neg : Bool} (ht : tyN d = some t) : OpD K (rEqOth K C (spM K (preSEqO C)) neg) (.dat (schD C T)) (.dat d) (.dat (.bl (if neg then !false else false))) := fun B H x y e h1 h2 Q q => by
  have a' : Rp K B x (schD C T) := h1
  obtain ⟨a, dx, fvs, rfl, ha⟩ : ∃ a dx fvs, x = .ref a ∧ H a = some (.ins C dx fvs) := by
    unfold schD at a'
    cases a' with
    | @obj a _ dx fvs _ h5 _ => exact ⟨a, dx, fvs, rfl, e _ _ h5⟩
  refine ⟨a, dx, fvs, .type t, rfl, ha, tyX_of e h2 ht, (ap t (tyN_mem ht)).2, B, _, [], [], _, [], ⟨T, d, t, rfl, ht, rfl, rfl, rfl, rfl⟩, e, ⟨h1, h2, True.intro⟩, True.intro, fun z B2 H2 s2 e2 _ v2 => ?_⟩
  have b' : Rp K B2 z (.bl false) := v2
  cases b'
  exact ⟨false, rfl, q _ B2 H2 s2 e2 (.bl _)⟩
theorem st_asgT {P : List Addr} {B0 H0 H : Hp} {ss ss' : List Sl} {cs cs1 : List (List D)} {σ : L2.St} {De : Ends} {te : TE} {g : TG} {d : D} {W : List Nat} (h : Sta K P B0 H0 ss cs σ H) (he : Ev K P ss cs te (.dat d) cs1) (hg : GR K ss g d ss' W) (k : ∀ σ' H', Sta K P B0 H0 ss' cs1 σ' H' → De.nx σ' H') : tAsg te g De σ H := by
  obtain ⟨B, s, o⟩ := h
  refine he B H σ o _ fun v B1 H1 s1 o1 v1 => ?_
  exact hg B1 H1 σ v o1.ex o1.sl v1 _ fun σ' sl' _ => k σ' H1 ⟨B1, s.trans s1, o1.ex, sl', o1.mu⟩
theorem text_inj {T U : List Tab} (hT : tabsOk T) (hU : tabsOk U) (nT : T ≠ []) (nU : U ≠ []) : rowsOf T = rowsOf U ↔ textOf U = textOf T := by
  constructor
  · intro h
    show Txt.join nl (rowsOf U) = Txt.join nl (rowsOf T)
    rw [h]
  · intro h
    rw [← split_text hT nT, ← split_text hU nU, h]
end SP
namespace T3
open PySem L2 DV PM SP IX
abbrev s_law : Stmt := topS 31
abbrev N_law : List Str := ["script", "deep", "turn", "index", "feed", "tables", "other", "text", "second", "made", "table", "columns", "names", "value", "shown", "due", "plain", "refs", "turned", "some", "again", "thing", "one"]
theorem sc_law : FnScope N_law ["script"] (defScope s_law) := ⟨rfl, rfl, rfl, by decide +kernel, rfl, by decide +kernel, by decide +kernel⟩

section
variable {P : Program} {w : World} {K : PySem.W.Frag} {mg : Str → Option Value} {base : Heap} {C : Addr}
theorem ok_eqO {f : Addr} {fd : FuncData} (F : Fun K "__eq__" "Schema.__eq__" s_Schema_eq_ f fd) (ap : Apart K C) (g_Schema : mg "Schema" = some (.ref C)) (b_isinstance : mg "isinstance" = none) (sc : SchCls K C) : FnOk P w K mg base CX0 1 f fd ["self", "other"] (spM K (preSEqO C)) := by
  refine ok_body F sc_Schema_eq_ (fun rs Pl cs r cs' h => ?_) (fun X hX hr => ?_)
  · obtain ⟨T, d, t, rfl, _⟩ := h
    rfl
  obtain ⟨cdv, A, outer, s, H, E, rfl⟩ := hX
  have nd := sc_Schema_eq_.nd
  refine ⟨_, (pss_one (ps_ret (pe_and (pe_callB call_isi (by rfl) b_isinstance (by decide +kernel) (pa_cons (pv 1) (pa_cons (pe_glob (v := .ref C) rfl g_Schema rfl) pa_nil))) (pe_one (pe_cmpR (op_eqA hr.units) (pe_fld (pv 0) rfl) (pe_fld (pv 1) rfl) (nomark _)))))), ?_⟩
  intro rs Pl cs r cs' hp B0 H0 σ Dn st hP hd hn
  obtain ⟨T, d, t, rfl, ht, rfl, rfl, rfl, rfl⟩ := hp
  exact st_ret (cs1 := []) st (ev_andV (a := false) (b := true) (ev_cb (ea_cons (ev_var (i := 1) rfl) (ea_cons ev_val ea_nil)) (cb_isO ap ht)) (fun z => by cases z)) hd
theorem ok_law1 {f fF fT fX fR fV fI fPa pC fC fS fE : Addr} {fd fdF fdT' fdX fdR fdV fdIr fdC fdS fdE : FuncData} {mc : Value} (F : Fun K "law" "law" s_law f fd)
    (G_l_feed : Def P w K mg base 1 "_law_feed" fF fdF ["script", "index"] (spFeed K)) (G_l_tables : Def P w K mg base 3 "_law_tables" fT fdT' ["feed"] (spM K preTables)) (G_l_schema_text : Def P w K mg base 1 "_law_schema_text" fX fdX ["tables"] (spM K preLText))
    (G_l_is_right : Def P w K mg base 1 "_law_is_right" fR fdR ["columns", "value"] (spM K preLRight)) (G_l_values : Def P w K mg base 3 "_law_values" fV fdV ["feed", "columns"] (spM K preValues)) (G_is_row : Def P w K mg base 2 "is_row" fI fdIr ["schema", "table", "value"] (spM K (preIsRowG C)))
    (g_Schema : mg "Schema" = some (.ref C)) (R_S : ClX.CRead K C mc) (M_parse : ClX.CMet K C mc "parse" pC fPa) (F_parse : L2.FnR P w K mg base CX0 5 fPa (spM K (preParse C)))
    (sc : SchCls K C) (ap : Apart K C) (M_columns : Meth K C "columns" fC) (G_columns : FnOk P w K mg base CX0 1 fC fdC ["self", "table"] (spM K (preCols C))) (B_columns : Binds K fdC ["self", "table"] [])
    (G_str : FnOk P w K mg base CX0 1 fS fdS ["self"] (spM K (preStr C))) (B_str : Binds K fdS ["self"] []) (S_str : PySem.W.findIn K (.ref C) "__str__" = some (some (.ref fS))) (Fn_str : PySem.W.isFn K (.ref fS) = true)
    (G_eq : FnOk P w K mg base CX0 1 fE fdE ["self", "other"] (spM K (preSEq C))) (G_eqO : FnOk P w K mg base CX0 1 fE fdE ["self", "other"] (spM K (preSEqO C))) (B_eq : Binds K fdE ["self", "other"] []) (S_eq : PySem.W.findIn K (.ref C) "__eq__" = some (some (.ref fE))) (Fn_eq : PySem.W.isFn K (.ref fE) = true)
    (S_ne : PySem.W.findIn K (.ref C) "__ne__" = some (some (.builtin "object.__ne__"))) (M_obj : PySem.W.mroIn K C (.type "object") = some true)
    (b_range : mg "range" = none) (b_max : mg "max" = none) (b_min : mg "min" = none) (b_len : mg "len" = none) (b_str : mg "str" = none) (b_tuple : mg "tuple" = none) (b_repr : mg "repr" = none) :
    LG.LawAt P w K mg base f fd "script" (spM K preLaw1) := by
  have cls_S := sc.cl
  refine LG.LawAt.body (k := 6) F sc_law ⟨rfl, by decide, by decide⟩ (fun cdv s H a Q hr hG hsp => ?_)
  have hr : Room 6 (cxOf CX0 P w K mg base N_law "law" (defScope s_law) f cdv callerA [] s H E0).nox.A := hr
  have hG : (cxOf CX0 P w K mg base N_law "law" (defScope s_law) f cdv callerA [] s H E0).nox.A.guards = some [] := hG
  have nd := sc_law.nd
  refine ⟨_, (pss_cons (ps_set (i := 1) nd rfl (.inl rfl) (pe_lst pa_nil))
      (pss_cons (ps_for PassesOwn.never rfl (pi_range1 (by rfl) b_range (pa_cons pe_int pa_nil)) (pg_name (i := 2) nd (by rfl) (by first | exact .inl rfl | exact .inr rfl)) (pss_one (ps_set (i := 1) nd rfl (.inl rfl) (pe_lst (pa_cons (pv 1) pa_nil)))))
      (pss_cons (ps_for PassesOwn.never rfl (pi_range1 (by rfl) b_range (pa_cons (pe_callB (call_max2' rfl) (by rfl) b_max (by decide +kernel) (pa_cons pe_int (pa_cons (pe_callB (call_min2' rfl) (by rfl) b_min (by decide +kernel) (pa_cons pe_int (pa_cons (pe_callB call_len1 (by rfl) b_len PySem.boot_len (pa_cons (pv 0) pa_nil)) pa_nil))) pa_nil))) pa_nil)) (pg_name (i := 3) nd (by rfl) (by first | exact .inl rfl | exact .inr rfl)) (pss_cons (ps_set (i := 4) nd rfl (.inl rfl) (pe_def G_l_feed hr (by decide) (by rfl) (pa_cons (pv 0) (pa_cons (pv 3) pa_nil))))
      (pss_cons (ps_par (i := 5) (j := 6) rfl nd rfl rfl (by decide) rfl rfl (pa_cons (pe_def G_l_tables hr (by decide) (by rfl) (pa_cons (pv 4) pa_nil)) (pa_cons (pe_def G_l_tables hr (by decide) (by rfl) (pa_cons (pv 4) pa_nil)) pa_nil)) (by rfl))
      (pss_cons (ps_par (i := 7) (j := 8) rfl nd rfl rfl (by decide) rfl rfl (pa_cons (pe_def G_l_schema_text hr (by decide) (by rfl) (pa_cons (pv 5) pa_nil)) (pa_cons (pe_def G_l_schema_text hr (by decide) (by rfl) (pa_cons (pv 6) pa_nil)) pa_nil)) (by rfl))
      (pss_cons (ps_set (i := 9) nd rfl (.inl rfl) (ClX.pe_cmeth (pe_glob (v := .ref C) rfl g_Schema rfl) R_S M_parse F_parse (hr.mono (by decide)) pass0 (pa_cons (pv 7) pa_nil)))
      (pss_cons (ps_set (i := 12) nd rfl (.inl rfl) (pe_callTy call_tuple1 (by rfl) b_tuple (by decide +kernel) (pa_cons (pe_lc (own := [("table", 10), ("columns", 11)]) (g := (gTup K 2 (gCons (gName 10) (gCons (gName 11) gNil)))) (tt := tYes) (te := (tVar 10)) rfl nd (pi_list (pv 5)) (blkOk_by (N := N_law) (sc := defScope s_law) (by decide +kernel)) (by intro _ _ _ _ _; exact (pg_tup (by rfl) (by exact (pgs_cons (by exact (pg_name (i := 10) nd (by rfl) (by first | exact .inl rfl | exact .inr rfl))) (by exact (pgs_cons (by exact (pg_name (i := 11) nd (by rfl) (by first | exact .inl rfl | exact .inr rfl))) (by exact pgs_nil))))))) (by intro _ _ _ _ _; exact pts_nil) (by intro _ _ _ _ _; exact (pv 10))) pa_nil)))
      (pss_cons (ps_if (PW.pt (pw_or (pt_cmpR (op_neA hr.units) (pe_callTy (OWN.call_strOwn G_str B_str S_str Fn_str (hr.mono (by decide))) (by rfl) b_str (by decide +kernel) (pa_cons (pv 9) pa_nil)) (pv 7) (nomark _)) (pw_or1 (pt_cmpR (op_neA hr.units) (pe_callB (call_reprD hr hG) (by rfl) b_repr (by decide +kernel) (pa_cons (pe_fld (pv 9) rfl) pa_nil)) (pe_callB (call_reprD hr hG) (by rfl) b_repr (by decide +kernel) (pa_cons (pv 12) pa_nil)) (nomark _))))) (pss_one (ps_ret pe_bl)) pss_nil)
      (pss_cons (ps_for PassesOwn.never rfl (pi_list (pv 5)) (pg_tup (by rfl) (by exact (pgs_cons (by exact (pg_name (i := 10) nd (by rfl) (by first | exact .inl rfl | exact .inr rfl))) (by exact (pgs_cons (by exact (pg_name (i := 11) nd (by rfl) (by first | exact .inl rfl | exact .inr rfl))) (by exact pgs_nil)))))) (pss_cons (ps_if (pt_cmpR (op_neA hr.units) (pe_callB (call_reprD hr hG) (by rfl) b_repr (by decide +kernel) (pa_cons (pe_meth (pv 9) cls_S M_columns G_columns (hr.mono (by decide)) B_columns .nil pass0 (pa_cons (pv 10) pa_nil)) pa_nil)) (pe_callB (call_reprD hr hG) (by rfl) b_repr (by decide +kernel) (pa_cons (pe_callTy call_tuple1 (by rfl) b_tuple (by decide +kernel) (pa_cons (pv 11) pa_nil)) pa_nil)) (nomark _)) (pss_one (ps_ret pe_bl)) pss_nil)
      (pss_one (ps_for PassesOwn.never rfl (pi_list (pe_op op_addA (pe_def G_l_values hr (by decide) (by rfl) (pa_cons (pv 4) (pa_cons (pv 11) pa_nil))) (pe_lst (pa_cons (pv 1) (pa_cons (pe_tup (pa_cons (pv 1) pa_nil)) (pa_cons (pe_tup (pa_cons pe_int (pa_cons (pv 1) pa_nil))) pa_nil)))))) (pg_name (i := 13) nd (by rfl) (by first | exact .inl rfl | exact .inr rfl)) (pss_cons (ps_set (i := 14) nd rfl (.inl rfl) (pe_callB (call_reprD hr hG) (by rfl) b_repr (by decide +kernel) (pa_cons (pv 13) pa_nil)))
      (pss_cons (ps_set (i := 15) nd rfl (.inl rfl) (pe_callB (call_reprD hr hG) (by rfl) b_repr (by decide +kernel) (pa_cons (pe_def G_l_is_right hr (by decide) (by rfl) (pa_cons (pv 11) (pa_cons (pv 13) pa_nil))) pa_nil)))
      (pss_cons (ps_if (pt_cmpR (op_neA hr.units) (pe_callB (call_reprD hr hG) (by rfl) b_repr (by decide +kernel) (pa_cons (pe_def G_is_row hr (by decide) (by rfl) (pa_cons (pv 9) (pa_cons (pv 10) (pa_cons (pv 13) pa_nil)))) pa_nil)) (pv 15) (nomark _)) (pss_one (ps_ret pe_bl)) pss_nil)
      (pss_one (ps_if (pt_cmpR (op_neA hr.units) (pe_callB (call_reprD hr hG) (by rfl) b_repr (by decide +kernel) (pa_cons (pv 13) pa_nil)) (pv 14) (nomark _)) (pss_one (ps_ret pe_bl)) pss_nil)))))))))
      (pss_cons (ps_asg (pe_ix ix_seq (pv 5) (pe_un un_neg pe_int) (fun _ _ => rfl)) (pg_tup (by rfl) (by exact (pgs_cons (by exact (pg_name (i := 10) nd (by rfl) (by first | exact .inl rfl | exact .inr rfl))) (by exact (pgs_cons (by exact (pg_name (i := 11) nd (by rfl) (by first | exact .inl rfl | exact .inr rfl))) (by exact pgs_nil)))))))
      (pss_cons (ps_set (i := 16) nd rfl (.inl rfl) (pe_revL (pe_lc (own := [("one", 22)]) (g := (gName 22)) (tt := (tTest (tOp rIsN (tOp (rIx K) (tVar 22) (tC (.int 1))) (tC .non)))) (te := (tVar 22)) rfl nd (pi_list (pv 11)) (blkOk_by (N := N_law) (sc := defScope s_law) (by decide +kernel)) (by intro _ _ _ _ _; exact (pg_name (i := 22) nd (by rfl) (by first | exact .inl rfl | exact .inr rfl))) (by intro _ _ _ _ _; exact (pts_one (pt_cmpR op_isN' (pe_ix ix_seq (pv 22) pe_int (fun _ _ => rfl)) pe_non (nomark _)))) (by intro _ _ _ _ _; exact (pv 22)))))
      (pss_cons (ps_set (i := 17) nd rfl (.inl rfl) (pe_revL (pe_lc (own := [("one", 22)]) (g := (gName 22)) (tt := (tTest (tOp rNotN (tOp (rIx K) (tVar 22) (tC (.int 1))) (tC .non)))) (te := (tVar 22)) rfl nd (pi_list (pv 11)) (blkOk_by (N := N_law) (sc := defScope s_law) (by decide +kernel)) (by intro _ _ _ _ _; exact (pg_name (i := 22) nd (by rfl) (by first | exact .inl rfl | exact .inr rfl))) (by intro _ _ _ _ _; exact (pts_one (pt_cmpR op_notN' (pe_ix ix_seq (pv 22) pe_int (fun _ _ => rfl)) pe_non (nomark _)))) (by intro _ _ _ _ _; exact (pv 22)))))
      (pss_cons (ps_set (i := 18) nd rfl (.inl rfl) (pe_def G_l_schema_text hr (by decide) (by rfl) (pa_cons (pe_op op_addA (pe_slice sl_3 (pv 5) po_none (po_some (pe_un un_neg pe_int))) (pe_lst (pa_cons (pe_tup (pa_cons (pv 10) (pa_cons (pe_op op_addA (pv 16) (pv 17)) pa_nil))) pa_nil))) pa_nil)))
      (pss_cons (ps_for PassesOwn.never rfl (pi_tup (pe_tup (pa_cons (pv 7) (pa_cons (pv 8) (pa_cons (pv 18) pa_nil))))) (pg_name (i := 19) nd (by rfl) (by first | exact .inl rfl | exact .inr rfl)) (pss_cons (ps_set (i := 20) nd rfl (.inl rfl) (ClX.pe_cmeth (pe_glob (v := .ref C) rfl g_Schema rfl) R_S M_parse F_parse (hr.mono (by decide)) pass0 (pa_cons (pv 19) pa_nil)))
      (pss_cons (ps_if (pt_cmpR (op_neA hr.units) (pe_cmpR (OWN.op_eqOwn G_eq B_eq S_eq Fn_eq (hr.mono (by decide))) (pv 9) (pv 20) (nomark _)) (pe_cmpR (op_eqA hr.units) (pv 19) (pv 7) (nomark _)) (nomark _)) (pss_one (ps_ret pe_bl)) pss_nil)
      (pss_one (ps_if (pt_cmpR (op_neA hr.units) (pe_cmpR (OWN.op_neOwn G_eq B_eq S_eq Fn_eq S_ne M_obj (hr.mono (by decide))) (pv 9) (pv 20) (nomark _)) (pe_cmpR (op_neA hr.units) (pv 19) (pv 7) (nomark _)) (nomark _)) (pss_one (ps_ret pe_bl)) pss_nil)))))
      (pss_one (ps_for PassesOwn.never rfl (pi_list (pe_lst (pa_cons (pv 7) (pa_cons pe_non (pa_cons pe_int (pa_cons (pe_fld (pv 9) rfl) (pa_cons (pe_lst (pa_cons (pv 9) pa_nil)) pa_nil))))))) (pg_name (i := 21) nd (by rfl) (by first | exact .inl rfl | exact .inr rfl)) (pss_one (ps_if (PW.pt (pw_or (pt_cmpR (op_eqOth G_eqO B_eq S_eq Fn_eq (hr.mono (by decide))) (pv 9) (pv 21) (nomark _)) (pw_or1 (pt_not (pt_cmpR (op_neOth G_eqO B_eq S_eq Fn_eq S_ne M_obj (hr.mono (by decide))) (pv 9) (pv 21) (nomark _)))))) (pss_one (ps_ret pe_bl)) pss_nil)))))))))))))))))
      (pss_one (ps_ret pe_bl))))), ?_⟩
  obtain ⟨B0, rs, Pl, cs, r, cs', ⟨ns, rfl, hl, rfl, rfl, rfl, rfl⟩, ex0, hrs, _, q0⟩ := hsp
  have hd : Done K [] B0 H (.dat (.bl true)) [] Q := fun v B' H' s e m x => q0 v B' H' s e m x
  have st := sta_start (N := N_law) (K := K) (P := []) (cs := []) ex0 hrs True.intro
  generalize L2.start N_law [V.ref a] = σ at st ⊢
  generalize H = H0 at *
  have st : Sta K [] B0 H0 [.dat (.fro (ns.map D.int)), .any, .any, .any, .any, .any, .any, .any, .any, .any, .any, .any, .any, .any, .any, .any, .any, .any, .any, .any, .any, .any, .any] [] σ H0 := st
  have hN : ∃ N : Int, N = (if (if (((ns.map D.int).length : Nat) : Int) < 5 then (((ns.map D.int).length : Nat) : Int) else 5) > 1 then (if (((ns.map D.int).length : Nat) : Int) < 5 then (((ns.map D.int).length : Nat) : Int) else 5) else 1) ∧ 1 ≤ N ∧ N ≤ 5 := by
    refine ⟨_, rfl, ?_, ?_⟩
    · split <;> split <;> omega
    · split <;> split <;> omega
  obtain ⟨N, eN, hN1, hN5⟩ := hN
  refine st_seq (st_asg (i := 1) (r := .dat (deepD 0)) (cs1 := []) st (ev_lst (ds := []) ea_nil) (fun σ1 H1 st1 => ?_))
  dsimp only []
  refine st_seq (t := tFor _ _ _) ?_
  refine st_for (α := Unit) (cs1 := []) st1 (wd_rng1 (n := 45) (ea_cons ev_int ea_nil) (by decide)) (fun _ _ => True) (fun i _ => [.dat (.fro (ns.map D.int)), .dat (deepD i), .any, .any, .any, .any, .any, .any, .any, .any, .any, .any, .any, .any, .any, .any, .any, .any, .any, .any, .any, .any, .any]) (fun _ _ => []) () True.intro ⟨.rfl _, .rfl _, .any _, .any _, .any _, .any _, .any _, .any _, .any _, .any _, .any _, .any _, .any _, .any _, .any _, .any _, .any _, .any _, .any _, .any _, .any _, .any _, .any _, True.intro⟩ rfl ?_ ?_
  · intro B1 H1' s1 i d z hd' _
    refine ⟨_, _, g_name, fun σ2 H2 st2 => ?_⟩
    exact st_asg (i := 1) (r := .dat (deepD (i + 1))) (cs1 := []) st2 (ev_lst (ds := [deepD i]) (ea_cons (ev_var (i := 1) rfl) ea_nil) (by simp)) (fun σ3 H3 st3 => ⟨(), True.intro, st3.le ⟨.rfl _, .rfl _, .any _, .any _, .any _, .any _, .any _, .any _, .any _, .any _, .any _, .any _, .any _, .any _, .any _, .any _, .any _, .any _, .any _, .any _, .any _, .any _, .any _, True.intro⟩⟩)
  intro z σ2 H2 _ st2
  have st2 : Sta K [] B0 H0 [.dat (.fro (ns.map D.int)), .dat (deepD 45), .any, .any, .any, .any, .any, .any, .any, .any, .any, .any, .any, .any, .any, .any, .any, .any, .any, .any, .any, .any, .any] [] σ2 H2 := by
    have e : (rangeD 0 (45 : Int).toNat).length = 45 := by rw [rangeD_len]; rfl
    rw [e] at st2
    exact st2
  dsimp only []
  refine st_seq (t := tFor _ _ _) ?_
  refine st_for (α := Unit) (cs1 := []) st2 (wd_rng1 (n := N) (ea_cons (eN ▸ ev_cb (ea_cons ev_int (ea_cons (ev_cb (ea_cons ev_int (ea_cons (ev_cb (ea_cons (ev_var rfl) ea_nil) cb_lenF) ea_nil)) cb_min2) ea_nil)) cb_max2) ea_nil) ⟨by omega, by omega⟩) (fun _ _ => True) (fun _ _ => [.dat (.fro (ns.map D.int)), .dat (deepD 45), .any, .any, .any, .any, .any, .any, .any, .any, .any, .any, .any, .any, .any, .any, .any, .any, .any, .any, .any, .any, .any]) (fun _ _ => []) () True.intro ⟨.rfl _, .rfl _, .any _, .any _, .any _, .any _, .any _, .any _, .any _, .any _, .any _, .any _, .any _, .any _, .any _, .any _, .any _, .any _, .any _, .any _, .any _, .any _, .any _, True.intro⟩ rfl ?_ ?_
  · intro B1 H1' s1 i d z hd' _
    obtain ⟨hi, rfl⟩ := rangeD_get hd'
    rw [Int.zero_add]
    have hi60 : i < 60 := by omega
    refine ⟨_, _, g_name, fun σ3 H3 st3 => ?_⟩
    refine st_seq ?_
    refine st_asgF (i := 4) (cs1 := []) st3 (ef_feed (ea_cons (ev_var (i := 0) rfl) (ea_cons (ev_var (i := 3) rfl) ea_nil)) hl hi60) (fun pF σ4 H4 hpF hpFn st4 => ?_)
    generalize preFeed.feedOf ns i = s0 at st4
    obtain ⟨hok, hne, _, _⟩ := drawn s0
    obtain ⟨uok, une, _, _⟩ := drawn (feedOf s0)
    dsimp only []
    refine st_seq (st_par (i := 5) (j := 6) (r1 := .dat (encTs (tablesOf s0))) (r2 := .dat (encTs (tablesOf (feedOf s0)))) (cs1 := [fdD (feedOf (feedOf s0))]) st4 (ea_cons (cs1 := [fdD (feedOf s0)]) (ev_call1 (j := 0) (cs1 := [fdD s0]) (ds := fdD s0) (ds' := fdD (feedOf s0)) (ea_cons (r := .val (.ref pF)) (ev_var (i := 4) rfl) ea_nil) rfl rfl ⟨pF, s0, rfl, rfl, rfl, rfl, rfl⟩) (ea_cons (cs1 := [fdD (feedOf (feedOf s0))]) (ev_call1 (j := 0) (cs1 := [fdD (feedOf s0)]) (ds := fdD (feedOf s0)) (ds' := fdD (feedOf (feedOf s0))) (ea_cons (r := .val (.ref pF)) (ev_var (i := 4) rfl) ea_nil) rfl rfl ⟨pF, feedOf s0, rfl, rfl, rfl, rfl, rfl⟩) ea_nil)) (fun σ5 H5 st5 => ?_))
    generalize tablesOf s0 = T at hok hne st5
    generalize tablesOf (feedOf s0) = U at uok une st5
    generalize feedOf (feedOf s0) = s1' at st5
    have hT := ok_tabsOk hok
    have hU := ok_tabsOk uok
    have hSch := ok_sch hok
    dsimp only []
    refine st_seq (st_par (i := 7) (j := 8) (r1 := .dat (.str (textOf T))) (r2 := .dat (.str (textOf U))) (cs1 := [fdD s1']) st5 (ea_cons (ev_call0 (ea_cons (ev_var (i := 5) rfl) ea_nil) ⟨T, rfl, hT, rfl, rfl, rfl, rfl⟩) (ea_cons (ev_call0 (ea_cons (ev_var (i := 6) rfl) ea_nil) ⟨U, rfl, hU, rfl, rfl, rfl, rfl⟩) ea_nil)) (fun σ6 H6 st6 => ?_))
    have parsed : ∀ {V : List Tab}, okTabs [] V → V ≠ [] → preParse C [.val (.ref C), .dat (.str (textOf V))] [] [] (.dat (schD C V)) [] := fun {V} h n => by
      obtain ⟨a, b⟩ := text_ok (ok_tabsOk h) n
      exact ⟨textOf V, V, rfl, a, b, read_text h n, ok_sch h, rfl, rfl, rfl, rfl⟩
    dsimp only []
    refine st_seq (st_asg (i := 9) (r := .dat (schD C T)) (cs1 := [fdD s1']) st6 (ev_cmeth (ea_cons (ev_var (i := 7) rfl) ea_nil) (parsed hok hne)) (fun σ7 H7 st7 => ?_))
    dsimp only []
    refine st_seq (st_asg (i := 12) (r := .dat (.tup (T.map fun t => D.str t.1))) (cs1 := [fdD s1']) st7 (ev_cb (ea_cons (EvF.ev (ef_mapE (l := T) (enc := encT) (wd_lst (ev_var (i := 5) rfl)) (fun t => D.str t.1) (by have := hT.1; omega) (fun p' i' t acc hd2 => ⟨_, _, g_tup (g_cons g_name (g_cons g_name g_nil)), by decide, ev_var (i := 10) rfl⟩))) ea_nil) cb_tupleL) (fun σ8 H8 st8 => ?_))
    dsimp only []
    refine st_seq (st_if (b := (!decide (textOf T = textOf T) || !decide ((D.pyR (.nt (T.map fun t => D.str t.1))).shown = (D.pyR (.tup (T.map fun t => D.str t.1))).shown))) (cs1 := [fdD s1']) st8 (et_or (et_test (ev_op (ev_cb (ea_cons (ev_var (i := 9) rfl) ea_nil) (cb_strOwn hT)) (ev_var (i := 7) rfl) od_neS)) (fun _ => et_test (ev_op (ev_cb (ea_cons (ev_fld (ev_var (i := 9) rfl) cls_S sc.n1 rfl) ea_nil) (cb_reprD (sho_nt hT))) (ev_cb (ea_cons (ev_var (i := 12) rfl) ea_nil) (cb_reprD (sho_names hT))) od_neS))) (fun hb => ?_) (fun hb H9 st9 => ?_))
    · rw [show (D.pyR (.nt (T.map fun t => D.str t.1))).shown = (D.pyR (.tup (T.map fun t => D.str t.1))).shown from rfl] at hb
      simp at hb
    refine st_ns ?_
    refine st_seq (t := tFor _ _ _) ?_
    refine st_for (α := Fd) (cs1 := [fdD s1']) st9 (wd_lst (ev_var (i := 5) rfl)) (fun _ _ => True) (fun _ _ => [.dat (.fro (ns.map D.int)), .dat (deepD 45), .any, .any, .val (.ref pF), .dat (encTs T), .dat (encTs U), .dat (.str (textOf T)), .dat (.str (textOf U)), .dat (schD C T), .any, .any, .any, .any, .any, .any, .any, .any, .any, .any, .any, .any, .any]) (fun _ z => [fdD z]) s1' True.intro ⟨.rfl _, .rfl _, .any _, .any _, .rfl _, .rfl _, .rfl _, .rfl _, .rfl _, .rfl _, .any _, .any _, .any _, .any _, .any _, .any _, .any _, .any _, .any _, .any _, .any _, .any _, .any _, True.intro⟩ rfl ?_ ?_
    · intro B2 H2' s2 j d z hd2 _
      obtain ⟨t, ht, rfl⟩ := map_get hd2
      have htm := List.mem_of_getElem? ht
      obtain ⟨hw, hc4, hcs⟩ := hT.2 t htm
      have lk : T.lookup t.1 = some t.2 := lookup_nodup hSch.2 htm
      refine ⟨_, _, g_tup (g_cons g_name (g_cons g_name g_nil)), fun σ10 H10 st10 => ?_⟩
      refine st_seq (st_if (b := !decide ((D.pyR (.tup (t.2.map encC))).shown = (D.pyR (.tup (t.2.map encC))).shown)) (cs1 := [fdD z]) st10 (et_test (ev_op (ev_cb (ea_cons (ev_meth1 (ev_var (i := 9) rfl) rfl (ea_cons (ev_var (i := 10) rfl) ea_nil) ⟨T, t.1, t.2, rfl, lk, rfl, rfl, rfl, rfl⟩) ea_nil) (cb_reprD (sho_cols hcs hc4))) (ev_cb (ea_cons (ev_cb (ea_cons (ev_var (i := 11) rfl) ea_nil) cb_tupleL) ea_nil) (cb_reprD (sho_cols hcs hc4))) od_neS)) (fun hb => by simp at hb) (fun hb H11 st11 => ?_))
      refine st_next ?_
      have st11 : Sta K [pF] B2 H2' [.dat (.fro (ns.map D.int)), .dat (deepD 45), .any, .any, .val (.ref pF), .dat (encTs T), .dat (encTs U), .dat (.str (textOf T)), .dat (.str (textOf U)), .dat (schD C T), .dat (.str t.1), .dat (.lst (t.2.map encC)), .any, .any, .any, .any, .any, .any, .any, .any, .any, .any, .any] [fdD z] σ10 H11 := st11.le ⟨.rfl _, .rfl _, .any _, .any _, .rfl _, .rfl _, .rfl _, .rfl _, .rfl _, .rfl _, .rfl _, .rfl _, .any _, .any _, .any _, .any _, .any _, .any _, .any _, .any _, .any _, .any _, .any _, True.intro⟩
      have hrs := rolls4_small z (t.2.length + 1)
      have hrl := rolls4_len z (t.2.length + 1)
      have okv : ∀ d ∈ valsOf z (t.2.length + 1) ++ [deepD 45, D.tup [deepD 45], D.tup [D.int 0, deepD 45]], OKV d := fun d hd => by
        rcases List.mem_append.mp hd with h | h
        · exact okv_vals (fun d hd => by obtain ⟨i, hi, rfl⟩ := List.mem_map.mp hd; exact ⟨i, rfl, hrs i hi⟩) (by rw [List.length_map, hrl]; omega) (by omega) d h
        · exact okv_deep d h
      have vl : (valsOf z (t.2.length + 1)).length = 26 := rfl
      dsimp only []
      refine st_for (α := Unit) (cs1 := [fdD (fdT (rolls4 z (t.2.length + 1)).2 (t.2.length + 1))]) st11 (wd_lst (ds := valsOf z (t.2.length + 1) ++ [deepD 45, D.tup [deepD 45], D.tup [D.int 0, deepD 45]]) (ev_op (ev_call1 (j := 0) (cs1 := [fdD z]) (ds := fdD z) (ds' := fdD (fdT (rolls4 z (t.2.length + 1)).2 (t.2.length + 1))) (ea_cons (r := .val (.ref pF)) (ev_var (i := 4) rfl) (ea_cons (ev_var (i := 11) rfl) ea_nil)) rfl rfl ⟨pF, z, t.2, rfl, by omega, rfl, rfl, rfl, rfl⟩) (ev_lst (ds := [deepD 45, D.tup [deepD 45], D.tup [D.int 0, deepD 45]]) (ea_cons (ev_var (i := 1) rfl) (ea_cons (ev_tup (ds := [deepD 45]) (ea_cons (ev_var (i := 1) rfl) ea_nil) (by simp)) (ea_cons (ev_tup (ds := [D.int 0, deepD 45]) (ea_cons ev_int (ea_cons (ev_var (i := 1) rfl) ea_nil)) (by simp)) ea_nil))) (by simp)) (od_addL (by rw [vl]; decide)))) (fun _ _ => True) (fun _ _ => [.dat (.fro (ns.map D.int)), .dat (deepD 45), .any, .any, .val (.ref pF), .dat (encTs T), .dat (encTs U), .dat (.str (textOf T)), .dat (.str (textOf U)), .dat (schD C T), .dat (.str t.1), .dat (.lst (t.2.map encC)), .any, .any, .any, .any, .any, .any, .any, .any, .any, .any, .any]) (fun _ _ => [fdD (fdT (rolls4 z (t.2.length + 1)).2 (t.2.length + 1))]) () True.intro ⟨.rfl _, .rfl _, .any _, .any _, .rfl _, .rfl _, .rfl _, .rfl _, .rfl _, .rfl _, .rfl _, .rfl _, .any _, .any _, .any _, .any _, .any _, .any _, .any _, .any _, .any _, .any _, .any _, True.intro⟩ rfl ?_ ?_
      · intro B3 H3' s3 k d _ hdk _
        have ov := okv d (List.mem_of_getElem? hdk)
        obtain ⟨ty, hty⟩ := ov.ty
        generalize fdT (rolls4 z (t.2.length + 1)).2 (t.2.length + 1) = z2
        refine ⟨_, _, g_name, fun σ12 H12 st12 => ?_⟩
        refine st_seq (st_asg (i := 14) (r := .dat (.str (D.pyR d).shown)) (cs1 := [fdD z2]) st12 (ev_cb (ea_cons (ev_var (i := 13) rfl) ea_nil) (cb_reprD ov.sho)) (fun σ13 H13 st13 => ?_))
        dsimp only []
        refine st_seq (st_asg (i := 15) (r := .dat (.str (D.pyR (.bl (rowG t.2 d))).shown)) (cs1 := [fdD z2]) st13 (ev_cb (ea_cons (ev_call0 (ea_cons (ev_var (i := 11) rfl) (ea_cons (ev_var (i := 13) rfl) ea_nil)) ⟨t.2, d, ty, rfl, by omega, hty, ov.nt, ov.el, rfl, rfl, rfl, rfl⟩) ea_nil) (cb_reprD (sho_bl _))) (fun σ14 H14 st14 => ?_))
        dsimp only []
        refine st_seq (st_if (b := !decide ((D.pyR (.bl (rowG t.2 d))).shown = (D.pyR (.bl (rowG t.2 d))).shown)) (cs1 := [fdD z2]) st14 (et_test (ev_op (ev_cb (ea_cons (ev_call0 (ea_cons (ev_var (i := 9) rfl) (ea_cons (ev_var (i := 10) rfl) (ea_cons (ev_var (i := 13) rfl) ea_nil))) ⟨T, t.1, t.2, d, ty, rfl, lk, by omega, hty, ov.nt, ov.el, rfl, rfl, rfl, rfl⟩) ea_nil) (cb_reprD (sho_bl _))) (ev_var (i := 15) rfl) od_neS)) (fun hb => by simp at hb) (fun hb H15 st15 => ?_))
        refine st_next ?_
        dsimp only []
        exact st_if (b := !decide ((D.pyR d).shown = (D.pyR d).shown)) (cs1 := [fdD z2]) st15 (et_test (ev_op (ev_cb (ea_cons (ev_var (i := 13) rfl) ea_nil) (cb_reprD ov.sho)) (ev_var (i := 14) rfl) od_neS)) (fun hb => by simp at hb) (fun hb H16 st16 => ⟨(), True.intro, st16.le ⟨.rfl _, .rfl _, .any _, .any _, .rfl _, .rfl _, .rfl _, .rfl _, .rfl _, .rfl _, .rfl _, .rfl _, .any _, .any _, .any _, .any _, .any _, .any _, .any _, .any _, .any _, .any _, .any _, True.intro⟩⟩)
      · intro _ σ12 H12 _ st12
        exact ⟨_, True.intro, st12.le ⟨.rfl _, .rfl _, .any _, .any _, .rfl _, .rfl _, .rfl _, .rfl _, .rfl _, .rfl _, .any _, .any _, .any _, .any _, .any _, .any _, .any _, .any _, .any _, .any _, .any _, .any _, .any _, True.intro⟩⟩
    intro z σ10 H10 _ st10
    dsimp only []
    obtain ⟨T0, t, rfl⟩ : ∃ T0 t, T = T0 ++ [t] := by
      rcases List.eq_nil_or_concat T with e | ⟨T', x, e⟩
      · exact absurd e hne
      · exact ⟨T', x, by rw [e, List.concat_eq_append]⟩
    have hvok := turn_ok hok
    have evT := turnT_snoc T0 t
    refine st_seq (st_asgT (d := encT t) (cs1 := [fdD z]) st10 (ev_op (ev_var (i := 5) rfl) ev_neg1 (od_ixL (by rw [List.map_append]; exact atI_last _ _))) (g_tup (ds := [.str t.1, .lst (t.2.map encC)]) (g_cons g_name (g_cons g_name g_nil))) (fun σ11 H11 st11 => ?_))
    obtain ⟨_, hc4, _⟩ := hT.2 t (by simp)
    have pick : ∀ c : Col, atI [D.str c.1, match c.2 with | none => .non | some n => .str n] 1 = some (match c.2 with | none => .non | some n => .str n) := fun c => rfl
    dsimp only []
    refine st_seq (st_asg (i := 16) (r := .dat (.lst ((t.2.filter fun c => c.2.isNone).reverse.map encC))) (cs1 := [fdD z]) st11 ((ev_rev (EvF.ev (ef_filterE (l := t.2) (enc := encC) (wd_lst (ev_var (i := 11) rfl)) encC (fun c => c.2.isNone) (by omega) (fun p' i' c acc hd2 => ?_)))).eq (by rw [List.map_reverse])) (fun σ12 H12 st12 => ?_))
    · obtain ⟨n, o⟩ := c
      cases o with
      | none => exact ⟨_, _, g_name, by decide, et_test (ev_op (ev_op (ev_var (i := 22) rfl) ev_int (od_ixT (atI_nat (j := 1) rfl))) ev_non od_isN), fun _ => ev_var (i := 22) rfl⟩
      | some o => exact ⟨_, _, g_name, by decide, et_test (ev_op (ev_op (ev_var (i := 22) rfl) ev_int (od_ixT (atI_nat (j := 1) rfl))) ev_non od_isN), fun _ => ev_var (i := 22) rfl⟩
    dsimp only []
    refine st_seq (st_asg (i := 17) (r := .dat (.lst ((t.2.filter fun c => !c.2.isNone).reverse.map encC))) (cs1 := [fdD z]) st12 ((ev_rev (EvF.ev (ef_filterE (l := t.2) (enc := encC) (wd_lst (ev_var (i := 11) rfl)) encC (fun c => !c.2.isNone) (by omega) (fun p' i' c acc hd2 => ?_)))).eq (by rw [List.map_reverse])) (fun σ13 H13 st13 => ?_))
    · obtain ⟨n, o⟩ := c
      cases o with
      | none => exact ⟨_, _, g_name, by decide, et_test (ev_op (ev_op (ev_var (i := 22) rfl) ev_int (od_ixT (atI_nat (j := 1) rfl))) ev_non od_notN), fun _ => ev_var (i := 22) rfl⟩
      | some o => exact ⟨_, _, g_name, by decide, et_test (ev_op (ev_op (ev_var (i := 22) rfl) ev_int (od_ixT (atI_nat (j := 1) rfl))) ev_non od_notN), fun _ => ev_var (i := 22) rfl⟩
    have hvT := ok_tabsOk hvok
    have hvl : (turnC t.2).length ≤ 4 := by
      have := (hvT.2 (t.1, turnC t.2) (by rw [evT]; simp)).2.1
      exact this
    have hvne : turnT (T0 ++ [t]) ≠ [] := by rw [evT]; simp
    have eCut : cutD ((T0 ++ [t]).map encT) none (some (-1)) = T0.map encT := by rw [List.map_append]; exact cutInit
    dsimp only []
    refine st_seq (st_asg (i := 18) (r := .dat (.str (textOf (turnT (T0 ++ [t]))))) (cs1 := [fdD z]) st13 (ev_call0 (ea_cons ((ev_op ((ev_sl (ev_var (i := 5) rfl) eo_none (eo_some ev_neg1) sd_L).eq (d' := .lst (T0.map encT)) (congrArg D.lst eCut)) (ev_lst (ds := [.tup [.str t.1, .lst ((turnC t.2).map encC)]]) (ea_cons (ev_tup (ds := [.str t.1, .lst ((turnC t.2).map encC)]) (ea_cons (ev_var (i := 10) rfl) (ea_cons ((ev_op (ev_var (i := 16) rfl) (ev_var (i := 17) rfl) (od_addL ?_)).eq (by unfold turnC; rw [List.map_append])) ea_nil)) (by simp)) ea_nil) (by simp)) (od_addL ?_)).eq (d' := encTs (turnT (T0 ++ [t]))) (by rw [evT]; unfold encTs; rw [List.map_append]; rfl)) ea_nil) ⟨turnT (T0 ++ [t]), rfl, hvT, rfl, rfl, rfl, rfl⟩) (fun σ14 H14 st14 => ?_))
    · rw [List.length_map, List.length_map]
      unfold turnC at hvl
      rw [List.length_append] at hvl
      omega
    · have := hT.1
      rw [List.length_append] at this
      rw [List.length_map]
      simp only [List.length_cons, List.length_nil] at *
      omega
    generalize T0 ++ [t] = T at *
    generalize turnT T = V at *
    have st14 : Sta K [pF] B1 H1' [.dat (.fro (ns.map D.int)), .dat (deepD 45), .any, .any, .val (.ref pF), .dat (encTs T), .any, .dat (.str (textOf T)), .dat (.str (textOf U)), .dat (schD C T), .any, .any, .any, .any, .any, .any, .any, .any, .dat (.str (textOf V)), .any, .any, .any, .any] [fdD z] σ14 H14 := st14.le ⟨.rfl _, .rfl _, .any _, .any _, .rfl _, .rfl _, .any _, .rfl _, .rfl _, .rfl _, .any _, .any _, .any _, .any _, .any _, .any _, .any _, .any _, .rfl _, .any _, .any _, .any _, .any _, True.intro⟩
    dsimp only []
    refine st_seq (t := tFor _ _ _) ?_
    refine st_for (α := Unit) (cs1 := [fdD z]) st14 (wd_tup (ev_tup (ds := [.str (textOf T), .str (textOf U), .str (textOf V)]) (ea_cons (ev_var (i := 7) rfl) (ea_cons (ev_var (i := 8) rfl) (ea_cons (ev_var (i := 18) rfl) ea_nil))) (by simp))) (fun _ _ => True) (fun _ _ => [.dat (.fro (ns.map D.int)), .dat (deepD 45), .any, .any, .val (.ref pF), .dat (encTs T), .any, .dat (.str (textOf T)), .dat (.str (textOf U)), .dat (schD C T), .any, .any, .any, .any, .any, .any, .any, .any, .dat (.str (textOf V)), .any, .any, .any, .any]) (fun _ _ => [fdD z]) () True.intro ⟨.rfl _, .rfl _, .any _, .any _, .rfl _, .rfl _, .any _, .rfl _, .rfl _, .rfl _, .any _, .any _, .any _, .any _, .any _, .any _, .any _, .any _, .rfl _, .any _, .any _, .any _, .any _, True.intro⟩ rfl ?_ ?_
    · intro B2 H2' s2 j d _ hd2 _
      obtain ⟨W, wok, wne, rfl⟩ : ∃ W, okTabs [] W ∧ W ≠ [] ∧ d = .str (textOf W) := by
        have hm := List.mem_of_getElem? hd2
        simp only [List.mem_cons, List.not_mem_nil, or_false] at hm
        rcases hm with e | e | e
        · exact ⟨T, hok, hne, e⟩
        · exact ⟨U, uok, une, e⟩
        · exact ⟨V, hvok, hvne, e⟩
      have hW := ok_tabsOk wok
      have inj := text_inj hT hW hne wne
      have key : decide (rowsOf T = rowsOf W) = decide (textOf W = textOf T) := decide_eq_decide.mpr inj
      refine ⟨_, _, g_name, fun σ15 H15 st15 => ?_⟩
      refine st_seq (st_asg (i := 20) (r := .dat (schD C W)) (cs1 := [fdD z]) st15 (ev_cmeth (ea_cons (ev_var (i := 19) rfl) ea_nil) (parsed wok wne)) (fun σ16 H16 st16 => ?_))
      dsimp only []
      refine st_seq (st_if (b := !decide ((if false then !decide (rowsOf T = rowsOf W) else decide (rowsOf T = rowsOf W)) = decide (textOf W = textOf T))) (cs1 := [fdD z]) st16 (et_test (ev_op (ev_op (ev_var (i := 9) rfl) (ev_var (i := 20) rfl) (od_eqOwn (neg := false) hT hW)) (ev_op (ev_var (i := 19) rfl) (ev_var (i := 7) rfl) od_eqS) od_neB)) (fun hb => ?_) (fun hb H17 st17 => ?_))
      · rw [if_neg Bool.false_ne_true, key] at hb
        simp at hb
      refine st_next ?_
      dsimp only []
      refine st_if (b := !decide ((if true then !decide (rowsOf T = rowsOf W) else decide (rowsOf T = rowsOf W)) = !decide (textOf W = textOf T))) (cs1 := [fdD z]) st17 (et_test (ev_op (ev_op (ev_var (i := 9) rfl) (ev_var (i := 20) rfl) (od_eqOwn (neg := true) hT hW)) (ev_op (ev_var (i := 19) rfl) (ev_var (i := 7) rfl) od_neS) od_neB)) (fun hb => ?_) (fun hb H18 st18 => ⟨(), True.intro, st18.le ⟨.rfl _, .rfl _, .any _, .any _, .rfl _, .rfl _, .any _, .rfl _, .rfl _, .rfl _, .any _, .any _, .any _, .any _, .any _, .any _, .any _, .any _, .rfl _, .any _, .any _, .any _, .any _, True.intro⟩⟩)
      rw [if_pos rfl, key] at hb
      simp at hb
    intro _ σ15 H15 _ st15
    dsimp only []
    have st15 : Sta K [pF] B1 H1' [.dat (.fro (ns.map D.int)), .dat (deepD 45), .any, .any, .val (.ref pF), .any, .any, .dat (.str (textOf T)), .any, .dat (schD C T), .any, .any, .any, .any, .any, .any, .any, .any, .any, .any, .any, .any, .any] [fdD z] σ15 H15 := st15.le ⟨.rfl _, .rfl _, .any _, .any _, .rfl _, .any _, .any _, .rfl _, .any _, .rfl _, .any _, .any _, .any _, .any _, .any _, .any _, .any _, .any _, .any _, .any _, .any _, .any _, .any _, True.intro⟩
    refine st_for (α := Unit) (cs1 := [fdD z]) st15 (wd_lst (ev_lst (ds := [.str (textOf T), .non, .int 0, .nt (T.map fun t => D.str t.1), .lst [schD C T]]) (ea_cons (ev_var (i := 7) rfl) (ea_cons ev_non (ea_cons ev_int (ea_cons (ev_fld (ev_var (i := 9) rfl) cls_S sc.n1 rfl) (ea_cons (ev_lst (ds := [schD C T]) (ea_cons (ev_var (i := 9) rfl) ea_nil) (by simp)) ea_nil))))) (by simp))) (fun _ _ => True) (fun _ _ => [.dat (.fro (ns.map D.int)), .dat (deepD 45), .any, .any, .val (.ref pF), .any, .any, .dat (.str (textOf T)), .any, .dat (schD C T), .any, .any, .any, .any, .any, .any, .any, .any, .any, .any, .any, .any, .any]) (fun _ _ => [fdD z]) () True.intro ⟨.rfl _, .rfl _, .any _, .any _, .rfl _, .any _, .any _, .rfl _, .any _, .rfl _, .any _, .any _, .any _, .any _, .any _, .any _, .any _, .any _, .any _, .any _, .any _, .any _, .any _, True.intro⟩ rfl ?_ ?_
    · intro B2 H2' s2 j d _ hd2 _
      obtain ⟨ty, hty⟩ : ∃ ty, tyN d = some ty := by
        have hm := List.mem_of_getElem? hd2
        simp only [List.mem_cons, List.not_mem_nil, or_false] at hm
        rcases hm with rfl | rfl | rfl | rfl | rfl <;> exact ⟨_, rfl⟩
      refine ⟨_, _, g_name, fun σ16 H16 st16 => ?_⟩
      exact st_if (b := ((if false then !false else false) || !(if true then !false else false))) (cs1 := [fdD z]) st16 (et_or (et_test (ev_op (ev_var (i := 9) rfl) (ev_var (i := 21) rfl) (od_eqOth (neg := false) ap hty))) (fun _ => et_not (et_test (ev_op (ev_var (i := 9) rfl) (ev_var (i := 21) rfl) (od_eqOth (neg := true) ap hty))))) (fun hb => by cases hb) (fun hb H17 st17 => ⟨(), True.intro, st17.le ⟨.rfl _, .rfl _, .any _, .any _, .rfl _, .any _, .any _, .rfl _, .any _, .rfl _, .any _, .any _, .any _, .any _, .any _, .any _, .any _, .any _, .any _, .any _, .any _, .any _, .any _, True.intro⟩⟩)
    · intro _ σ16 H16 _ st16
      refine ⟨(), True.intro, ?_⟩
      have st17 := Sta.pub (i := 4) st16 hpF rfl
      exact st17.le ⟨.rfl _, .rfl _, .any _, .any _, .any _, .any _, .any _, .any _, .any _, .any _, .any _, .any _, .any _, .any _, .any _, .any _, .any _, .any _, .any _, .any _, .any _, .any _, .any _, True.intro⟩
  · intro z σ3 H3 _ st3
    dsimp only []
    refine st_ret (cs1 := []) st3 ev_bl ?_
    exact hd
end
end T3
namespace T3
open PySem L2 DV PM SP IX
theorem rpa_ints {K : PySem.W.Frag} {B : Hp} : ∀ ns : List Int, RpA K B (ns.map V.int) (ns.map D.int)
  | [] => .nil
  | n :: r => .cons (.int n) (rpa_ints r)
theorem apart_of {K : PySem.W.Frag} {C : Addr} (h1 : PySem.W.isClsIn K C = true) (h2 : PySem.W.typeIn K (.ref C) = some (.type "type")) : Apart K C := by
  have sub : ∀ t ∈ ["NoneType", "bool", "int", "str", "list", "tuple", "dict"], PySem.W.subIn K (.type t) (.ref C) = some false := by
    intro t ht
    simp only [List.mem_cons, List.not_mem_nil, or_false] at ht
    rcases ht with rfl | rfl | rfl | rfl | rfl | rfl | rfl <;> rfl
  intro t ht
  have h3 : ((PySem.W.clsIn K C).isSome && PySem.W.typeIn K (.ref C) == some (.type "type")) = true := by
    have h4 : (PySem.W.clsIn K C).isSome = true := h1
    rw [h4, h2] <;> rfl
  refine ⟨?_, ?_⟩
  · show (if (Value.type t == Value.ref C) = true then some true else (if ((PySem.W.clsIn K C).isSome && PySem.W.typeIn K (.ref C) == some (.type "type")) = true then PySem.W.subIn K (.type t) (.ref C) else none)) = some false
    rw [if_pos h3, sub t ht]
    rfl
  · unfold PySem.W.notFirst
    rw [sub t ht]
    rfl
theorem all_mk {l : PySem.W.OpenLaw} {w : World} {K : PySem.W.Frag} {h : Heap} {mg : Str → Option Value} {fa C pC : Addr} {mc : Value} {pRest : List Value} (X : K.In h) (G : h.Ns mainGlobals mg) (hfa : mg "law" = some (.ref fa))
    {fm0 : Addr} {odm0 anm0 : Option Addr} {slm0 : Array (Option Value)} {ocm0 kVm0 dcm0 pmm0 cdm0 ctm0 : Value}
    {fm1 : Addr} {odm1 anm1 : Option Addr} {slm1 : Array (Option Value)} {ocm1 kVm1 dcm1 pmm1 cdm1 ctm1 : Value}
    {fm2 : Addr} {odm2 anm2 : Option Addr} {slm2 : Array (Option Value)} {ocm2 kVm2 dcm2 pmm2 cdm2 ctm2 : Value}
    {fm3 : Addr} {odm3 anm3 : Option Addr} {slm3 : Array (Option Value)} {ocm3 kVm3 dcm3 pmm3 cdm3 ctm3 : Value}
    {fm4 : Addr} {odm4 anm4 : Option Addr} {slm4 : Array (Option Value)} {ocm4 kVm4 dcm4 pmm4 cdm4 ctm4 : Value}
    {fm5 : Addr} {odm5 anm5 : Option Addr} {slm5 : Array (Option Value)} {ocm5 kVm5 dcm5 pmm5 cdm5 ctm5 : Value}
    {fm6 : Addr} {odm6 anm6 : Option Addr} {slm6 : Array (Option Value)} {ocm6 kVm6 dcm6 pmm6 cdm6 ctm6 : Value}
    {fm7 : Addr} {odm7 anm7 : Option Addr} {slm7 : Array (Option Value)} {ocm7 kVm7 dcm7 pmm7 cdm7 ctm7 : Value}
    {fm8 : Addr} {odm8 anm8 : Option Addr} {slm8 : Array (Option Value)} {ocm8 kVm8 dcm8 pmm8 cdm8 ctm8 : Value}
    {fm9 : Addr} {odm9 anm9 : Option Addr} {slm9 : Array (Option Value)} {ocm9 kVm9 dcm9 pmm9 cdm9 ctm9 : Value}
    {fm10 : Addr} {odm10 anm10 : Option Addr} {slm10 : Array (Option Value)} {ocm10 kVm10 dcm10 pmm10 cdm10 ctm10 : Value}
    {fm11 : Addr} {odm11 anm11 : Option Addr} {slm11 : Array (Option Value)} {ocm11 kVm11 dcm11 pmm11 cdm11 ctm11 : Value}
    {fm12 : Addr} {odm12 anm12 : Option Addr} {slm12 : Array (Option Value)} {ocm12 kVm12 dcm12 pmm12 cdm12 ctm12 : Value}
    {fm13 : Addr} {odm13 anm13 : Option Addr} {slm13 : Array (Option Value)} {ocm13 kVm13 dcm13 pmm13 cdm13 ctm13 : Value}
    {fm14 : Addr} {odm14 anm14 : Option Addr} {slm14 : Array (Option Value)} {ocm14 kVm14 dcm14 pmm14 cdm14 ctm14 : Value}
    {fm15 : Addr} {odm15 anm15 : Option Addr} {slm15 : Array (Option Value)} {ocm15 kVm15 dcm15 pmm15 cdm15 ctm15 : Value}
    {fm16 : Addr} {odm16 anm16 : Option Addr} {slm16 : Array (Option Value)} {ocm16 kVm16 dcm16 pmm16 cdm16 ctm16 : Value}
    {fm17 : Addr} {odm17 anm17 : Option Addr} {slm17 : Array (Option Value)} {ocm17 kVm17 dcm17 pmm17 cdm17 ctm17 : Value}
    {fm18 : Addr} {odm18 anm18 : Option Addr} {slm18 : Array (Option Value)} {ocm18 kVm18 dcm18 pmm18 cdm18 ctm18 : Value}
    {fc0 : Addr} {odc0 anc0 : Option Addr} {slc0 : Array (Option Value)} {occ0 kVc0 dcc0 pmc0 cdc0 ctc0 : Value}
    {fc1 : Addr} {odc1 anc1 : Option Addr} {slc1 : Array (Option Value)} {occ1 kVc1 dcc1 pmc1 cdc1 ctc1 : Value}
    {fc2 : Addr} {odc2 anc2 : Option Addr} {slc2 : Array (Option Value)} {occ2 kVc2 dcc2 pmc2 cdc2 ctc2 : Value}
    {fc3 : Addr} {odc3 anc3 : Option Addr} {slc3 : Array (Option Value)} {occ3 kVc3 dcc3 pmc3 cdc3 ctc3 : Value}
    {fc4 : Addr} {odc4 anc4 : Option Addr} {slc4 : Array (Option Value)} {occ4 kVc4 dcc4 pmc4 cdc4 ctc4 : Value}
    {tk_LARGEST : Tok}
    {tk_MOST_LETTERS : Tok}
    {tk_MOST_TABLES : Tok}
    {tk_MOST_PLAIN : Tok}
    {tk_MOST_REFERENCES : Tok}
    {tk_MOST_REFERENCES_IN_ALL : Tok}
    (am0 : PySem.W.nsIn K mainGlobals "_law_feed" = some (some (.ref fm0)))
    (lm0 : K.lookup fm0 = some ⟨ocm0, odm0, .func (PySem.W.fnOf "_law_feed" "_law_feed" (defArgs s_l_feed) (defBody s_l_feed) (defScope s_l_feed) .none kVm0 dcm0 pmm0 anm0 cdm0 ctm0), slm0⟩)
    (cm0 : PySem.W.codeIn K cdm0 "_law_feed" = true)
    (km0 : PySem.W.keepIn K (.ref fm0) = true)
    (am1 : PySem.W.nsIn K mainGlobals "_law_take" = some (some (.ref fm1)))
    (lm1 : K.lookup fm1 = some ⟨ocm1, odm1, .func (PySem.W.fnOf "_law_take" "_law_take" (defArgs s_l_take) (defBody s_l_take) (defScope s_l_take) .none kVm1 dcm1 pmm1 anm1 cdm1 ctm1), slm1⟩)
    (cm1 : PySem.W.codeIn K cdm1 "_law_take" = true)
    (km1 : PySem.W.keepIn K (.ref fm1) = true)
    (am2 : PySem.W.nsIn K mainGlobals "_law_pick" = some (some (.ref fm2)))
    (lm2 : K.lookup fm2 = some ⟨ocm2, odm2, .func (PySem.W.fnOf "_law_pick" "_law_pick" (defArgs s_l_pick) (defBody s_l_pick) (defScope s_l_pick) .none kVm2 dcm2 pmm2 anm2 cdm2 ctm2), slm2⟩)
    (cm2 : PySem.W.codeIn K cdm2 "_law_pick" = true)
    (km2 : PySem.W.keepIn K (.ref fm2) = true)
    (am3 : PySem.W.nsIn K mainGlobals "_law_tables" = some (some (.ref fm3)))
    (lm3 : K.lookup fm3 = some ⟨ocm3, odm3, .func (PySem.W.fnOf "_law_tables" "_law_tables" (defArgs s_l_tables) (defBody s_l_tables) (defScope s_l_tables) .none kVm3 dcm3 pmm3 anm3 cdm3 ctm3), slm3⟩)
    (cm3 : PySem.W.codeIn K cdm3 "_law_tables" = true)
    (km3 : PySem.W.keepIn K (.ref fm3) = true)
    (am4 : PySem.W.nsIn K mainGlobals "_law_schema_text" = some (some (.ref fm4)))
    (lm4 : K.lookup fm4 = some ⟨ocm4, odm4, .func (PySem.W.fnOf "_law_schema_text" "_law_schema_text" (defArgs s_l_schema_text) (defBody s_l_schema_text) (defScope s_l_schema_text) .none kVm4 dcm4 pmm4 anm4 cdm4 ctm4), slm4⟩)
    (cm4 : PySem.W.codeIn K cdm4 "_law_schema_text" = true)
    (km4 : PySem.W.keepIn K (.ref fm4) = true)
    (am5 : PySem.W.nsIn K mainGlobals "_law_is_right" = some (some (.ref fm5)))
    (lm5 : K.lookup fm5 = some ⟨ocm5, odm5, .func (PySem.W.fnOf "_law_is_right" "_law_is_right" (defArgs s_l_is_right) (defBody s_l_is_right) (defScope s_l_is_right) .none kVm5 dcm5 pmm5 anm5 cdm5 ctm5), slm5⟩)
    (cm5 : PySem.W.codeIn K cdm5 "_law_is_right" = true)
    (km5 : PySem.W.keepIn K (.ref fm5) = true)
    (am6 : PySem.W.nsIn K mainGlobals "_law_values" = some (some (.ref fm6)))
    (lm6 : K.lookup fm6 = some ⟨ocm6, odm6, .func (PySem.W.fnOf "_law_values" "_law_values" (defArgs s_l_values) (defBody s_l_values) (defScope s_l_values) .none kVm6 dcm6 pmm6 anm6 cdm6 ctm6), slm6⟩)
    (cm6 : PySem.W.codeIn K cdm6 "_law_values" = true)
    (km6 : PySem.W.keepIn K (.ref fm6) = true)
    (am7 : PySem.W.nsIn K mainGlobals "law" = some (some (.ref fm7)))
    (lm7 : K.lookup fm7 = some ⟨ocm7, odm7, .func (PySem.W.fnOf "law" "law" (defArgs s_law) (defBody s_law) (defScope s_law) .none kVm7 dcm7 pmm7 anm7 cdm7 ctm7), slm7⟩)
    (cm7 : PySem.W.codeIn K cdm7 "law" = true)
    (km7 : PySem.W.keepIn K (.ref fm7) = true)
    (am8 : PySem.W.nsIn K mainGlobals "is_row" = some (some (.ref fm8)))
    (lm8 : K.lookup fm8 = some ⟨ocm8, odm8, .func (PySem.W.fnOf "is_row" "is_row" (defArgs s_is_row) (defBody s_is_row) (defScope s_is_row) .none kVm8 dcm8 pmm8 anm8 cdm8 ctm8), slm8⟩)
    (cm8 : PySem.W.codeIn K cdm8 "is_row" = true)
    (km8 : PySem.W.keepIn K (.ref fm8) = true)
    (am9 : PySem.W.nsIn K mainGlobals "is_within" = some (some (.ref fm9)))
    (lm9 : K.lookup fm9 = some ⟨ocm9, odm9, .func (PySem.W.fnOf "is_within" "is_within" (defArgs s_is_within) (defBody s_is_within) (defScope s_is_within) .none kVm9 dcm9 pmm9 anm9 cdm9 ctm9), slm9⟩)
    (cm9 : PySem.W.codeIn K cdm9 "is_within" = true)
    (km9 : PySem.W.keepIn K (.ref fm9) = true)
    (am10 : PySem.W.nsIn K mainGlobals "is_name" = some (some (.ref fm10)))
    (lm10 : K.lookup fm10 = some ⟨ocm10, odm10, .func (PySem.W.fnOf "is_name" "is_name" (defArgs s_is_name) (defBody s_is_name) (defScope s_is_name) .none kVm10 dcm10 pmm10 anm10 cdm10 ctm10), slm10⟩)
    (cm10 : PySem.W.codeIn K cdm10 "is_name" = true)
    (km10 : PySem.W.keepIn K (.ref fm10) = true)
    (am11 : PySem.W.nsIn K mainGlobals "is_new_name" = some (some (.ref fm11)))
    (lm11 : K.lookup fm11 = some ⟨ocm11, odm11, .func (PySem.W.fnOf "is_new_name" "is_new_name" (defArgs s_is_new_name) (defBody s_is_new_name) (defScope s_is_new_name) .none kVm11 dcm11 pmm11 anm11 cdm11 ctm11), slm11⟩)
    (cm11 : PySem.W.codeIn K cdm11 "is_new_name" = true)
    (km11 : PySem.W.keepIn K (.ref fm11) = true)
    (am12 : PySem.W.nsIn K mainGlobals "text_rows" = some (some (.ref fm12)))
    (lm12 : K.lookup fm12 = some ⟨ocm12, odm12, .func (PySem.W.fnOf "text_rows" "text_rows" (defArgs s_text_rows) (defBody s_text_rows) (defScope s_text_rows) .none kVm12 dcm12 pmm12 anm12 cdm12 ctm12), slm12⟩)
    (cm12 : PySem.W.codeIn K cdm12 "text_rows" = true)
    (km12 : PySem.W.keepIn K (.ref fm12) = true)
    (am13 : PySem.W.nsIn K mainGlobals "column_row" = some (some (.ref fm13)))
    (lm13 : K.lookup fm13 = some ⟨ocm13, odm13, .func (PySem.W.fnOf "column_row" "column_row" (defArgs s_column_row) (defBody s_column_row) (defScope s_column_row) .none kVm13 dcm13 pmm13 anm13 cdm13 ctm13), slm13⟩)
    (cm13 : PySem.W.codeIn K cdm13 "column_row" = true)
    (km13 : PySem.W.keepIn K (.ref fm13) = true)
    (am14 : PySem.W.nsIn K mainGlobals "read_tables" = some (some (.ref fm14)))
    (lm14 : K.lookup fm14 = some ⟨ocm14, odm14, .func (PySem.W.fnOf "read_tables" "read_tables" (defArgs s_read_tables) (defBody s_read_tables) (defScope s_read_tables) .none kVm14 dcm14 pmm14 anm14 cdm14 ctm14), slm14⟩)
    (cm14 : PySem.W.codeIn K cdm14 "read_tables" = true)
    (km14 : PySem.W.keepIn K (.ref fm14) = true)
    (am15 : PySem.W.nsIn K mainGlobals "begins_table" = some (some (.ref fm15)))
    (lm15 : K.lookup fm15 = some ⟨ocm15, odm15, .func (PySem.W.fnOf "begins_table" "begins_table" (defArgs s_begins_table) (defBody s_begins_table) (defScope s_begins_table) .none kVm15 dcm15 pmm15 anm15 cdm15 ctm15), slm15⟩)
    (cm15 : PySem.W.codeIn K cdm15 "begins_table" = true)
    (km15 : PySem.W.keepIn K (.ref fm15) = true)
    (am16 : PySem.W.nsIn K mainGlobals "adds_plain" = some (some (.ref fm16)))
    (lm16 : K.lookup fm16 = some ⟨ocm16, odm16, .func (PySem.W.fnOf "adds_plain" "adds_plain" (defArgs s_adds_plain) (defBody s_adds_plain) (defScope s_adds_plain) .none kVm16 dcm16 pmm16 anm16 cdm16 ctm16), slm16⟩)
    (cm16 : PySem.W.codeIn K cdm16 "adds_plain" = true)
    (km16 : PySem.W.keepIn K (.ref fm16) = true)
    (am17 : PySem.W.nsIn K mainGlobals "adds_reference" = some (some (.ref fm17)))
    (lm17 : K.lookup fm17 = some ⟨ocm17, odm17, .func (PySem.W.fnOf "adds_reference" "adds_reference" (defArgs s_adds_reference) (defBody s_adds_reference) (defScope s_adds_reference) .none kVm17 dcm17 pmm17 anm17 cdm17 ctm17), slm17⟩)
    (cm17 : PySem.W.codeIn K cdm17 "adds_reference" = true)
    (km17 : PySem.W.keepIn K (.ref fm17) = true)
    (am18 : PySem.W.nsIn K mainGlobals "count_references" = some (some (.ref fm18)))
    (lm18 : K.lookup fm18 = some ⟨ocm18, odm18, .func (PySem.W.fnOf "count_references" "count_references" (defArgs s_count_references) (defBody s_count_references) (defScope s_count_references) .none kVm18 dcm18 pmm18 anm18 cdm18 ctm18), slm18⟩)
    (cm18 : PySem.W.codeIn K cdm18 "count_references" = true)
    (km18 : PySem.W.keepIn K (.ref fm18) = true)
    (ac0 : PySem.W.findIn K (.ref C) "__init__" = some (some (.ref fc0)))
    (ic0 : PySem.W.isFn K (.ref fc0) = true)
    (kc0 : PySem.W.keepIn K (.ref fc0) = true)
    (lc0 : K.lookup fc0 = some ⟨occ0, odc0, .func (PySem.W.fnOf "__init__" "Schema.__init__" (defArgs s_Schema_init_) (defBody s_Schema_init_) (defScope s_Schema_init_) .none kVc0 dcc0 pmc0 anc0 cdc0 ctc0), slc0⟩)
    (cc0 : PySem.W.codeIn K cdc0 "Schema.__init__" = true)
    (rd : PySem.W.readsIn K C mc = true)
    (ga : PySem.W.specialIn K (.ref C) "__getattribute__" = some (some (.builtin "type.__getattribute__")))
    (pa : PySem.W.findCls K (.ref C) mc "parse" = some (.get (.builtin "classmethod.__get__") (.ref pC) .none (.ref C)))
    (pr : PySem.W.recIn K pC "classmethod" = some (.ref fc1 :: pRest))
    (pf : PySem.W.fnIn K fc1 = true)
    (kc1 : PySem.W.keepIn K (.ref fc1) = true)
    (lc1 : K.lookup fc1 = some ⟨occ1, odc1, .func (PySem.W.fnOf "parse" "Schema.parse" (defArgs s_Schema_parse) (defBody s_Schema_parse) (defScope s_Schema_parse) .none kVc1 dcc1 pmc1 anc1 cdc1 ctc1), slc1⟩)
    (cc1 : PySem.W.codeIn K cdc1 "Schema.parse" = true)
    (ac2 : PySem.W.findIn K (.ref C) "__str__" = some (some (.ref fc2)))
    (ic2 : PySem.W.isFn K (.ref fc2) = true)
    (kc2 : PySem.W.keepIn K (.ref fc2) = true)
    (lc2 : K.lookup fc2 = some ⟨occ2, odc2, .func (PySem.W.fnOf "__str__" "Schema.__str__" (defArgs s_Schema_str_) (defBody s_Schema_str_) (defScope s_Schema_str_) .none kVc2 dcc2 pmc2 anc2 cdc2 ctc2), slc2⟩)
    (cc2 : PySem.W.codeIn K cdc2 "Schema.__str__" = true)
    (ac3 : PySem.W.findIn K (.ref C) "__eq__" = some (some (.ref fc3)))
    (ic3 : PySem.W.isFn K (.ref fc3) = true)
    (kc3 : PySem.W.keepIn K (.ref fc3) = true)
    (lc3 : K.lookup fc3 = some ⟨occ3, odc3, .func (PySem.W.fnOf "__eq__" "Schema.__eq__" (defArgs s_Schema_eq_) (defBody s_Schema_eq_) (defScope s_Schema_eq_) .none kVc3 dcc3 pmc3 anc3 cdc3 ctc3), slc3⟩)
    (cc3 : PySem.W.codeIn K cdc3 "Schema.__eq__" = true)
    (ac4 : PySem.W.findIn K (.ref C) "columns" = some (some (.ref fc4)))
    (ic4 : PySem.W.isFn K (.ref fc4) = true)
    (kc4 : PySem.W.keepIn K (.ref fc4) = true)
    (lc4 : K.lookup fc4 = some ⟨occ4, odc4, .func (PySem.W.fnOf "columns" "Schema.columns" (defArgs s_Schema_columns) (defBody s_Schema_columns) (defScope s_Schema_columns) .none kVc4 dcc4 pmc4 anc4 cdc4 ctc4), slc4⟩)
    (cc4 : PySem.W.codeIn K cdc4 "Schema.columns" = true)
    (aC : PySem.W.nsIn K mainGlobals "Schema" = some (some (.ref C)))
    (pg : PySem.W.plainGet K C Str.empty = true)
    (hd : PySem.W.hasDictIn K C = true)
    (po : PySem.W.plainOver K C = true)
    (sa : PySem.W.findIn K (.ref C) "__setattr__" = some (some (.builtin "object.__setattr__")))
    (mk : PySem.W.makesIn K C = true)
    (kc : PySem.W.keepIn K (.ref C) = true)
    (n1 : PySem.W.findIn K (.ref C) "tables" = some none)
    (n2 : PySem.W.findIn K (.ref C) "_columns" = some none)
    (n3 : PySem.W.findIn K (.ref C) "_rows" = some none)
    (ha : PySem.W.findIn K (.ref C) "__class__" = some (some (.builtin "object.__class__")))
    (hn : PySem.W.specialIn K (.builtin "object.__class__") "__get__" = some (some (.builtin "getset_descriptor.__get__")))
    (htk : PySem.W.takesIn K (.builtin "object.__class__") = some true)
    (hm : PySem.W.mroIn K C (.type "object") = some true)
    (ne : PySem.W.findIn K (.ref C) "__ne__" = some (some (.builtin "object.__ne__")))
    (eY : PySem.W.typeIn K (.ref C) = some (.type "type"))
    (eZ : PySem.W.isClsIn K C = true)
    (b_len : PySem.W.nsIn K mainGlobals "len" = some none)
    (b_abs : PySem.W.nsIn K mainGlobals "abs" = some none)
    (b_max : PySem.W.nsIn K mainGlobals "max" = some none)
    (b_min : PySem.W.nsIn K mainGlobals "min" = some none)
    (b_int : PySem.W.nsIn K mainGlobals "int" = some none)
    (b_range : PySem.W.nsIn K mainGlobals "range" = some none)
    (b_enumerate : PySem.W.nsIn K mainGlobals "enumerate" = some none)
    (b_isinstance : PySem.W.nsIn K mainGlobals "isinstance" = some none)
    (b_bool : PySem.W.nsIn K mainGlobals "bool" = some none)
    (b_tuple : PySem.W.nsIn K mainGlobals "tuple" = some none)
    (b_all : PySem.W.nsIn K mainGlobals "all" = some none)
    (b_zip : PySem.W.nsIn K mainGlobals "zip" = some none)
    (b_sum : PySem.W.nsIn K mainGlobals "sum" = some none)
    (b_str : PySem.W.nsIn K mainGlobals "str" = some none)
    (b_repr : PySem.W.nsIn K mainGlobals "repr" = some none)
    (b_list : PySem.W.nsIn K mainGlobals "list" = some none)
    (b_dict : PySem.W.nsIn K mainGlobals "dict" = some none)
    (g_LARGEST : PySem.W.nsIn K mainGlobals "LARGEST" = some (some (.int 1000000 tk_LARGEST)))
    (g_MOST_LETTERS : PySem.W.nsIn K mainGlobals "MOST_LETTERS" = some (some (.int 8 tk_MOST_LETTERS)))
    (g_MOST_TABLES : PySem.W.nsIn K mainGlobals "MOST_TABLES" = some (some (.int 3 tk_MOST_TABLES)))
    (g_MOST_PLAIN : PySem.W.nsIn K mainGlobals "MOST_PLAIN" = some (some (.int 2 tk_MOST_PLAIN)))
    (g_MOST_REFERENCES : PySem.W.nsIn K mainGlobals "MOST_REFERENCES" = some (some (.int 2 tk_MOST_REFERENCES)))
    (g_MOST_REFERENCES_IN_ALL : PySem.W.nsIn K mainGlobals "MOST_REFERENCES_IN_ALL" = some (some (.int 3 tk_MOST_REFERENCES_IN_ALL))) :
    ∃ fd : FuncData, (∀ (s : Shared) (v : Value), BindsTo s fd ⟨[v], []⟩ [("script", v)]) ∧ ∀ base : Heap, K.In base → base.Ns mainGlobals mg → LG.LawAt l.prog w K mg base fa fd "script" (spM K preLaw1) := by
  have e := hfa.symm.trans (PySem.W.mg_of X G am7)
  cases e
  have Fm0 := fun_mk (st := s_l_feed) lm0 cm0 km0
  have Fm1 := fun_mk (st := s_l_take) lm1 cm1 km1
  have Fm2 := fun_mk (st := s_l_pick) lm2 cm2 km2
  have Fm3 := fun_mk (st := s_l_tables) lm3 cm3 km3
  have Fm4 := fun_mk (st := s_l_schema_text) lm4 cm4 km4
  have Fm5 := fun_mk (st := s_l_is_right) lm5 cm5 km5
  have Fm6 := fun_mk (st := s_l_values) lm6 cm6 km6
  have Fm7 := fun_mk (st := s_law) lm7 cm7 km7
  have Fm8 := fun_mk (st := s_is_row) lm8 cm8 km8
  have Fm9 := fun_mk (st := s_is_within) lm9 cm9 km9
  have Fm10 := fun_mk (st := s_is_name) lm10 cm10 km10
  have Fm11 := fun_mk (st := s_is_new_name) lm11 cm11 km11
  have Fm12 := fun_mk (st := s_text_rows) lm12 cm12 km12
  have Fm13 := fun_mk (st := s_column_row) lm13 cm13 km13
  have Fm14 := fun_mk (st := s_read_tables) lm14 cm14 km14
  have Fm15 := fun_mk (st := s_begins_table) lm15 cm15 km15
  have Fm16 := fun_mk (st := s_adds_plain) lm16 cm16 km16
  have Fm17 := fun_mk (st := s_adds_reference) lm17 cm17 km17
  have Fm18 := fun_mk (st := s_count_references) lm18 cm18 km18
  have Fc0 := fun_mk (st := s_Schema_init_) lc0 cc0 kc0
  have Fc1 := fun_mk (st := s_Schema_parse) lc1 cc1 kc1
  have Fc2 := fun_mk (st := s_Schema_str_) lc2 cc2 kc2
  have Fc3 := fun_mk (st := s_Schema_eq_) lc3 cc3 kc3
  have Fc4 := fun_mk (st := s_Schema_columns) lc4 cc4 kc4
  have bm0 := Fm0.binds (ps := ["script", "index"]) fun _ _ _ _ _ _ us hl => match us, hl with | [_, _], _ => rfl
  have bm1 := Fm1.binds (ps := ["feed", "size"]) fun _ _ _ _ _ _ us hl => match us, hl with | [_, _], _ => rfl
  have bm2 := Fm2.binds (ps := ["feed", "options"]) fun _ _ _ _ _ _ us hl => match us, hl with | [_, _], _ => rfl
  have bm3 := Fm3.binds (ps := ["feed"]) fun _ _ _ _ _ _ us hl => match us, hl with | [_], _ => rfl
  have bm4 := Fm4.binds (ps := ["tables"]) fun _ _ _ _ _ _ us hl => match us, hl with | [_], _ => rfl
  have bm5 := Fm5.binds (ps := ["columns", "value"]) fun _ _ _ _ _ _ us hl => match us, hl with | [_, _], _ => rfl
  have bm6 := Fm6.binds (ps := ["feed", "columns"]) fun _ _ _ _ _ _ us hl => match us, hl with | [_, _], _ => rfl
  have bm7 := Fm7.binds (ps := ["script"]) fun _ _ _ _ _ _ us hl => match us, hl with | [_], _ => rfl
  have bm8 := Fm8.binds (ps := ["schema", "table", "value"]) fun _ _ _ _ _ _ us hl => match us, hl with | [_, _, _], _ => rfl
  have bm9 := Fm9.binds (ps := ["value", "low", "high"]) fun _ _ _ _ _ _ us hl => match us, hl with | [_, _, _], _ => rfl
  have bm10 := Fm10.binds (ps := ["word"]) fun _ _ _ _ _ _ us hl => match us, hl with | [_], _ => rfl
  have bm11 := Fm11.binds (ps := ["word", "pairs"]) fun _ _ _ _ _ _ us hl => match us, hl with | [_, _], _ => rfl
  have bm12 := Fm12.binds (ps := ["tables"]) fun _ _ _ _ _ _ us hl => match us, hl with | [_], _ => rfl
  have bm13 := Fm13.binds (ps := ["name", "target"]) fun _ _ _ _ _ _ us hl => match us, hl with | [_, _], _ => rfl
  have bm14 := Fm14.binds (ps := ["text"]) fun _ _ _ _ _ _ us hl => match us, hl with | [_], _ => rfl
  have bm15 := Fm15.binds (ps := ["tables", "words"]) fun _ _ _ _ _ _ us hl => match us, hl with | [_, _], _ => rfl
  have bm16 := Fm16.binds (ps := ["tables", "words"]) fun _ _ _ _ _ _ us hl => match us, hl with | [_, _], _ => rfl
  have bm17 := Fm17.binds (ps := ["tables", "words"]) fun _ _ _ _ _ _ us hl => match us, hl with | [_, _], _ => rfl
  have bm18 := Fm18.binds (ps := ["columns"]) fun _ _ _ _ _ _ us hl => match us, hl with | [_], _ => rfl
  have bc0 := Fc0.binds (ps := ["self", "tables"]) fun _ _ _ _ _ _ us hl => match us, hl with | [_, _], _ => rfl
  have bc1 := Fc1.binds (ps := ["cls", "text"]) fun _ _ _ _ _ _ us hl => match us, hl with | [_, _], _ => rfl
  have bc2 := Fc2.binds (ps := ["self"]) fun _ _ _ _ _ _ us hl => match us, hl with | [_], _ => rfl
  have bc3 := Fc3.binds (ps := ["self", "other"]) fun _ _ _ _ _ _ us hl => match us, hl with | [_, _], _ => rfl
  have bc4 := Fc4.binds (ps := ["self", "table"]) fun _ _ _ _ _ _ us hl => match us, hl with | [_, _], _ => rfl
  refine ⟨PySem.W.fnOf "law" "law" (defArgs s_law) (defBody s_law) (defScope s_law) .none kVm7 dcm7 pmm7 anm7 cdm7 ctm7, fun s v => .of_eq rfl, fun base _ _ => ?_⟩
  have z_len := PySem.W.mg_none_of X G b_len
  have z_abs := PySem.W.mg_none_of X G b_abs
  have z_max := PySem.W.mg_none_of X G b_max
  have z_min := PySem.W.mg_none_of X G b_min
  have z_int := PySem.W.mg_none_of X G b_int
  have z_range := PySem.W.mg_none_of X G b_range
  have z_enumerate := PySem.W.mg_none_of X G b_enumerate
  have z_isinstance := PySem.W.mg_none_of X G b_isinstance
  have z_bool := PySem.W.mg_none_of X G b_bool
  have z_tuple := PySem.W.mg_none_of X G b_tuple
  have z_all := PySem.W.mg_none_of X G b_all
  have z_zip := PySem.W.mg_none_of X G b_zip
  have z_sum := PySem.W.mg_none_of X G b_sum
  have z_str := PySem.W.mg_none_of X G b_str
  have z_repr := PySem.W.mg_none_of X G b_repr
  have z_list := PySem.W.mg_none_of X G b_list
  have z_dict := PySem.W.mg_none_of X G b_dict
  have y_LARGEST : ∃ t, mg "LARGEST" = some (.int 1000000 t) := ⟨_, PySem.W.mg_of X G g_LARGEST⟩
  have y_MOST_LETTERS : ∃ t, mg "MOST_LETTERS" = some (.int 8 t) := ⟨_, PySem.W.mg_of X G g_MOST_LETTERS⟩
  have y_MOST_TABLES : ∃ t, mg "MOST_TABLES" = some (.int 3 t) := ⟨_, PySem.W.mg_of X G g_MOST_TABLES⟩
  have y_MOST_PLAIN : ∃ t, mg "MOST_PLAIN" = some (.int 2 t) := ⟨_, PySem.W.mg_of X G g_MOST_PLAIN⟩
  have y_MOST_REFERENCES : ∃ t, mg "MOST_REFERENCES" = some (.int 2 t) := ⟨_, PySem.W.mg_of X G g_MOST_REFERENCES⟩
  have y_MOST_REFERENCES_IN_ALL : ∃ t, mg "MOST_REFERENCES_IN_ALL" = some (.int 3 t) := ⟨_, PySem.W.mg_of X G g_MOST_REFERENCES_IN_ALL⟩
  have yS := PySem.W.mg_of X G aC
  have sc : SchCls K C := ⟨⟨pg, hd, po, sa⟩, n1, n2, n3, ha, hn, htk, hm, if_pos (beq_self_eq_true _)⟩
  have Dfeed : Def l.prog w K mg base 1 "_law_feed" fm0 _ ["script", "index"] (spFeed K) := ⟨ok_feedF Fm0 z_len z_abs z_max z_int, PySem.W.mg_of X G am0, km0, bm0⟩
  have Dtake : Def l.prog w K mg base 1 "_law_take" fm1 _ ["feed", "size"] (spM K preTake) := ⟨ok_take Fm1 z_int, PySem.W.mg_of X G am1, km1, bm1⟩
  have Dpick : Def l.prog w K mg base 2 "_law_pick" fm2 _ ["feed", "options"] (spM K prePick) := ⟨ok_pick Fm2 Dtake z_len, PySem.W.mg_of X G am2, km2, bm2⟩
  have Dtabs : Def l.prog w K mg base 3 "_law_tables" fm3 _ ["feed"] (spM K preTables) := ⟨ok_tables Fm3 Dpick Dtake z_range z_min, PySem.W.mg_of X G am3, km3, bm3⟩
  have Dtext : Def l.prog w K mg base 1 "_law_schema_text" fm4 _ ["tables"] (spM K preLText) := ⟨ok_ltext Fm4, PySem.W.mg_of X G am4, km4, bm4⟩
  have Dcount : Def l.prog w K mg base 1 "count_references" fm18 _ ["columns"] (spM K preCount) := ⟨ok_count Fm18 z_len, PySem.W.mg_of X G am18, km18, bm18⟩
  have Dcol : Def l.prog w K mg base 1 "column_row" fm13 _ ["name", "target"] (spM K preColRow) := ⟨ok_col Fm13, PySem.W.mg_of X G am13, km13, bm13⟩
  have Drows : Def l.prog w K mg base 2 "text_rows" fm12 _ ["tables"] (spM K preRows) := ⟨ok_rows Fm12 Dcol, PySem.W.mg_of X G am12, km12, bm12⟩
  have Disn : Def l.prog w K mg base 1 "is_name" fm10 _ ["word"] (spM K preIsName) := ⟨ok_is_name Fm10 z_len y_MOST_LETTERS, PySem.W.mg_of X G am10, km10, bm10⟩
  have Dnew : Def l.prog w K mg base 2 "is_new_name" fm11 _ ["word", "pairs"] (spM K preIsNew) := ⟨ok_is_new Fm11 Disn, PySem.W.mg_of X G am11, km11, bm11⟩
  have Dbeg : Def l.prog w K mg base 3 "begins_table" fm15 _ ["tables", "words"] (spM K preBegins) := ⟨ok_begins Fm15 Dnew z_len y_MOST_TABLES, PySem.W.mg_of X G am15, km15, bm15⟩
  have Dplain : Def l.prog w K mg base 3 "adds_plain" fm16 _ ["tables", "words"] (spM K prePlain) := ⟨ok_plain Fm16 Dcount Dnew z_len y_MOST_PLAIN, PySem.W.mg_of X G am16, km16, bm16⟩
  have Dref : Def l.prog w K mg base 3 "adds_reference" fm17 _ ["tables", "words"] (spM K preRef) := ⟨ok_ref Fm17 Dcount Dnew z_len z_sum y_MOST_REFERENCES y_MOST_REFERENCES_IN_ALL, PySem.W.mg_of X G am17, km17, bm17⟩
  have Dread : Def l.prog w K mg base 4 "read_tables" fm14 _ ["text"] (spM K preRead) := ⟨ok_read Fm14 Dbeg Dplain Dref z_enumerate, PySem.W.mg_of X G am14, km14, bm14⟩
  have Dwith : Def l.prog w K mg base 1 "is_within" fm9 _ ["value", "low", "high"] (spM K preWithinG) := ⟨ok_withinG Fm9 z_isinstance z_int z_bool, PySem.W.mg_of X G am9, km9, bm9⟩
  have Dlr : Def l.prog w K mg base 1 "_law_is_right" fm5 _ ["columns", "value"] (spM K preLRight) := ⟨ok_lright Fm5 z_isinstance z_tuple z_int z_bool z_len z_zip, PySem.W.mg_of X G am5, km5, bm5⟩
  have Dvals : Def l.prog w K mg base 3 "_law_values" fm6 _ ["feed", "columns"] (spM K preValues) := ⟨ok_values Fm6 Dpick Dtake z_tuple z_list z_dict z_len z_range, PySem.W.mg_of X G am6, km6, bm6⟩
  have Oinit := ok_init (P := l.prog) (w := w) (base := base) (C := C) Fc0 Drows sc.cl n1 n2 n3 z_tuple
  have Ocols := ok_columns (P := l.prog) (w := w) (mg := mg) (base := base) (C := C) Fc4 sc.cl n2
  have Ostr := ok_str (P := l.prog) (w := w) (mg := mg) (base := base) (C := C) Fc2 sc.cl n3
  have Oeq := ok_eq (P := l.prog) (w := w) (base := base) Fc3 sc yS z_isinstance
  have Oparse := ok_parse (base := base) Fc1 Dread ⟨mk, ac0, ic0, kc⟩ Oinit bc0
  have Rparse : FnR l.prog w K mg base CX0 5 fc1 (spM K (preParse C)) := (Oparse.raw bc1 .nil).imp fun vs H Q E h => by rw [List.append_nil]; exact h
  have Mcols : Meth K C "columns" fc4 := ⟨ac4, ic4, kc4⟩
  have Disrow : Def l.prog w K mg base 2 "is_row" fm8 _ ["schema", "table", "value"] (spM K (preIsRowG C)) := ⟨ok_is_rowG Fm8 Dwith sc.cl Mcols Ocols bc4 z_isinstance z_tuple z_len z_all z_zip y_LARGEST, PySem.W.mg_of X G am8, km8, bm8⟩
  have ap : Apart K C := apart_of eZ eY
  have OeqO := ok_eqO (P := l.prog) (w := w) (base := base) Fc3 ap yS z_isinstance sc
  exact ok_law1 Fm7 Dfeed Dtabs Dtext Dlr Dvals Disrow yS ⟨rd, ga⟩ ⟨pa, ⟨pRest, pr⟩, pf⟩ Rparse sc ap Mcols Ocols bc4 Ostr bc2 ac2 ic2 Oeq OeqO bc3 ac3 ic3 ne hm z_range z_max z_min z_len z_str z_tuple z_repr
end T3
open PySem PySem.W PyProof.Rows in
set_option maxRecDepth 100000 in
set_option maxHeartbeats 0 in
theorem PySem.Challenge.cw_onlyviews_k01_schemas_and_rows_holds : PySem.Challenge.rw_onlyviews_k01_schemas_and_rows.Holds := by
  w_on; o_law; k_head; (case hw => w_witness2)
  k_fill
  refine LG.walkAt (l := PySem.Challenge.rw_onlyviews_k01_schemas_and_rows) (n := 63) (x := "script") (sp := fun K => DV.spM K SP.preLaw1) rfl (by decide) rfl (fun w h Y => PySem.W.kIn_of Y) ?F (fun K H a ns hl _ hS => ?_)
  case F =>
    intro w mg fa h KX G hmg
    refine' T3.all_mk (mc := .type "type") KX G hmg ?am0 ?lm0 ?cm0 ?km0 ?am1 ?lm1 ?cm1 ?km1 ?am2 ?lm2 ?cm2 ?km2 ?am3 ?lm3 ?cm3 ?km3 ?am4 ?lm4 ?cm4 ?km4 ?am5 ?lm5 ?cm5 ?km5 ?am6 ?lm6 ?cm6 ?km6 ?am7 ?lm7 ?cm7 ?km7 ?am8 ?lm8 ?cm8 ?km8 ?am9 ?lm9 ?cm9 ?km9 ?am10 ?lm10 ?cm10 ?km10 ?am11 ?lm11 ?cm11 ?km11 ?am12 ?lm12 ?cm12 ?km12 ?am13 ?lm13 ?cm13 ?km13 ?am14 ?lm14 ?cm14 ?km14 ?am15 ?lm15 ?cm15 ?km15 ?am16 ?lm16 ?cm16 ?km16 ?am17 ?lm17 ?cm17 ?km17 ?am18 ?lm18 ?cm18 ?km18 ?ac0 ?ic0 ?kc0 ?lc0 ?cc0 ?rd ?ga ?pa ?pr ?pf ?kc1 ?lc1 ?cc1 ?ac2 ?ic2 ?kc2 ?lc2 ?cc2 ?ac3 ?ic3 ?kc3 ?lc3 ?cc3 ?ac4 ?ic4 ?kc4 ?lc4 ?cc4 ?aC ?pg ?hd ?po ?sa ?mk ?kc ?n1 ?n2 ?n3 ?ha ?hn ?htk ?hm ?ne ?eY ?eZ ?b_len ?b_abs ?b_max ?b_min ?b_int ?b_range ?b_enumerate ?b_isinstance ?b_bool ?b_tuple ?b_all ?b_zip ?b_sum ?b_str ?b_repr ?b_list ?b_dict ?g_LARGEST ?g_MOST_LETTERS ?g_MOST_TABLES ?g_MOST_PLAIN ?g_MOST_REFERENCES ?g_MOST_REFERENCES_IN_ALL
    (case aC => k_is)
    (case am0 => k_is)
    (case lm0 => k_is)
    (case cm0 => k_is)
    (case km0 => k_is)
    (case am1 => k_is)
    (case lm1 => k_is)
    (case cm1 => k_is)
    (case km1 => k_is)
    (case am2 => k_is)
    (case lm2 => k_is)
    (case cm2 => k_is)
    (case km2 => k_is)
    (case am3 => k_is)
    (case lm3 => k_is)
    (case cm3 => k_is)
    (case km3 => k_is)
    (case am4 => k_is)
    (case lm4 => k_is)
    (case cm4 => k_is)
    (case km4 => k_is)
    (case am5 => k_is)
    (case lm5 => k_is)
    (case cm5 => k_is)
    (case km5 => k_is)
    (case am6 => k_is)
    (case lm6 => k_is)
    (case cm6 => k_is)
    (case km6 => k_is)
    (case am7 => k_is)
    (case lm7 => k_is)
    (case cm7 => k_is)
    (case km7 => k_is)
    (case am8 => k_is)
    (case lm8 => k_is)
    (case cm8 => k_is)
    (case km8 => k_is)
    (case am9 => k_is)
    (case lm9 => k_is)
    (case cm9 => k_is)
    (case km9 => k_is)
    (case am10 => k_is)
    (case lm10 => k_is)
    (case cm10 => k_is)
    (case km10 => k_is)
    (case am11 => k_is)
    (case lm11 => k_is)
    (case cm11 => k_is)
    (case km11 => k_is)
    (case am12 => k_is)
    (case lm12 => k_is)
    (case cm12 => k_is)
    (case km12 => k_is)
    (case am13 => k_is)
    (case lm13 => k_is)
    (case cm13 => k_is)
    (case km13 => k_is)
    (case am14 => k_is)
    (case lm14 => k_is)
    (case cm14 => k_is)
    (case km14 => k_is)
    (case am15 => k_is)
    (case lm15 => k_is)
    (case cm15 => k_is)
    (case km15 => k_is)
    (case am16 => k_is)
    (case lm16 => k_is)
    (case cm16 => k_is)
    (case km16 => k_is)
    (case am17 => k_is)
    (case lm17 => k_is)
    (case cm17 => k_is)
    (case km17 => k_is)
    (case am18 => k_is)
    (case lm18 => k_is)
    (case cm18 => k_is)
    (case km18 => k_is)
    (case ac0 => k_is)
    (case ic0 => k_is)
    (case kc0 => k_is)
    (case lc0 => k_is)
    (case cc0 => k_is)
    (case rd => k_is)
    (case ga => k_is)
    (case pa => k_is)
    (case pr => k_is)
    (case pf => k_is)
    (case kc1 => k_is)
    (case lc1 => k_is)
    (case cc1 => k_is)
    (case ac2 => k_is)
    (case ic2 => k_is)
    (case kc2 => k_is)
    (case lc2 => k_is)
    (case cc2 => k_is)
    (case ac3 => k_is)
    (case ic3 => k_is)
    (case kc3 => k_is)
    (case lc3 => k_is)
    (case cc3 => k_is)
    (case ac4 => k_is)
    (case ic4 => k_is)
    (case kc4 => k_is)
    (case lc4 => k_is)
    (case cc4 => k_is)
    (case pg => k_is)
    (case hd => k_is)
    (case po => k_is)
    (case sa => k_is)
    (case mk => k_is)
    (case kc => k_is)
    (case n1 => k_is)
    (case n2 => k_is)
    (case n3 => k_is)
    (case ha => k_is)
    (case hn => k_is)
    (case htk => k_is)
    (case hm => k_is)
    (case ne => k_is)
    (case eY => k_is)
    (case eZ => k_is)
    (case b_len => k_is)
    (case b_abs => k_is)
    (case b_max => k_is)
    (case b_min => k_is)
    (case b_int => k_is)
    (case b_range => k_is)
    (case b_enumerate => k_is)
    (case b_isinstance => k_is)
    (case b_bool => k_is)
    (case b_tuple => k_is)
    (case b_all => k_is)
    (case b_zip => k_is)
    (case b_sum => k_is)
    (case b_str => k_is)
    (case b_repr => k_is)
    (case b_list => k_is)
    (case b_dict => k_is)
    (case g_LARGEST => k_is)
    (case g_MOST_LETTERS => k_is)
    (case g_MOST_TABLES => k_is)
    (case g_MOST_PLAIN => k_is)
    (case g_MOST_REFERENCES => k_is)
    (case g_MOST_REFERENCES_IN_ALL => k_is)
  · refine ⟨H, _, [], [], _, [], ⟨ns, rfl, hl, rfl, rfl, rfl, rfl⟩, DV.Ex.refl H, ⟨DV.Rp.fro hS (T3.rpa_ints ns), True.intro⟩, True.intro, fun v B' H' s e m v' => ?_⟩
    have z : DV.Rp K B' v (.bl true) := v'
    cases z
    rfl
